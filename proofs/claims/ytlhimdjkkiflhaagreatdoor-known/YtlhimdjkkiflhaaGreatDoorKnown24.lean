import Derived.Test.YtlhimdjkkiflhaaGreatDoorKnown23
set_option maxHeartbeats 8000000
set_option maxRecDepth 100000
namespace Go.Proofs.YtlhimdjkkiflhaaGreatDoor
open Go.Proofs.Tryz
open Go.RowKit Go.Loop
section
variable {w0 w:World}{G M:Nat}{κ:Nat→HK}{E:Env}{g:mU}{bu:List Value}{nv:Value}
def N7 (w:World)(bu xh:List Value):Prop:=∀sv∈xh,∀b,sv.ownBlock=some b→(∃sv0∈bu,sv0.ownBlock=some b)∨w.heap.size≤b
def Grown (w0 w w':World)(G M:Nat)(κ:Nat→HK)(E:Env)(bu:List Value)(nv:Value)(g':mU):Prop:=
 ∃xh RB,dI w0 w' G M κ E g' xh RB∧js G M nv.ownBlock w w'∧(RB.ownBlock=nv.ownBlock∨∃b,RB.ownBlock=some b∧w.heap.size≤b)∧N7 w bu xh
def jI (x:ng):Value:= .agg #[.int .i64 x.kind,.string ⟨⟨x.text⟩⟩,.int .i64 x.n,.int .i64 x.d,.slice none 0 0]
theorem dI.tu (h:dI w0 w G M κ E g bu nv)(b:Nat)(o:Obj)(hb:w.heap[b]?=some o)(ho:∀cur,o≠.cells cur 45):some b≠nv.ownBlock:=by
 intro e;rcases h.row.2 with⟨rfl,_⟩|⟨c,cap,cur,rfl,_,hg,_⟩
 ·cases e
 ·have:b=c:=by cases e;rfl
  rw[this,hg]at hb;exact ho cur (by cases hb;rfl)
theorem Ky (h:dI w0 w G M κ E g bu nv)(x:ng)(hx:x.subs=[]){w1 w4:World}{v':Value}(hb1:Below w.heap.size w w1)(hrow:w4.ownsRow w0.heap.size 45 5 v' (g.nodes.length+1) (uM g.nodes bu++qw x (.slice none 0 0)))(hg:w1.grownBy w4 nv.ownBlock)
 (kg:v'.ownBlock=nv.ownBlock∨∃k,v'.ownBlock=some k∧w1.heap.size≤k):
 w4.heap[G]?=some (.cells #[nv,.map (some M)] 100)∧Grown w0 w (w4.setCell ⟨G,0,none⟩ v') G M κ E bu nv (g.add x):=by
 have hs1:=hb1.size;have LK:=hg.size;have hb:∀b,b<w.heap.size→some b≠nv.ownBlock→w4.heap[b]?=w.heap[b]?:=λb h1 h2=>(hg.block b (by omega) h2).trans (hb1.block b h1);have hG:G<w.heap.size:=(zac.1 h.blk).1;obtain⟨es,c,hm,Vg⟩:=h.map;have hM:M<w.heap.size:=(zac.1 hm).1;have qG:=h.tu G _ h.blk (λcur e=>by simp at e);have qM:=h.tu M _ hm (λcur e=>by simp at e);have h4:w4.heap[G]?=some (.cells #[nv,.map (some M)] 100):=(hb G hG qG).trans h.blk;have ho:∀b,b≠G→(w4.setCell ⟨G,0,none⟩ v').heap[b]?=w4.heap[b]?:=λb hb=>Below.heap_setCell _ _ _ _ hb;have zy:∀b,nv.ownBlock=some b→w0.heap.size≤b:=λb hb=>(h.row.lt b hb).1;refine⟨h4,bu++[.slice none 0 0],v',⟨h.gm,h.Xk,h.Xl,⟨hg.os.trans (hb1.os.trans h.low.os),hg.tape.trans (hb1.tape.trans h.low.tape),hg.output.trans (hb1.output.trans h.low.output),?_,λb b1=>?_⟩,dN h4 0 v',?_,?_,?_,λj y sv hy qx=>?_⟩,⟨hg.os.trans hb1.os,hg.tape.trans hb1.tape,hg.output.trans hb1.output,?_,λb b1 b2 _ b4=>(ho b b2).trans (hb b b1 b4)⟩,kg.imp id (λ⟨k,k1,k2⟩=>⟨k,k1,by omega⟩),λsv qx b hb=>?_⟩
 ·have:=h.low.size;simp;omega
 ·have:=h.Xk;have hl:=h.low.size;rw[ho b (by omega),hb b (by omega) (λe=>by have:=zy b e.symm;omega)];exact h.low.block b b1
 ·have e:uM (g.add x).nodes (bu++[.slice none 0 0])=uM g.nodes bu++qw x (.slice none 0 0):=De _ _ _ _ h.len;have e2:(g.add x).nodes.length=g.nodes.length+1:=by simp[mU.add]
  rw[e,e2];refine⟨hrow.1,hrow.2.imp id ?_⟩;rintro ⟨b,cp,cur,q1,q2,q3,q4⟩;exact⟨b,cp,cur,q1,q2,(ho b (λe=>by rw[e,h4]at q3;simp at q3)).trans q3,q4⟩
 ·exact⟨es,c,(ho M (λe=>h.gm e.symm)).trans ((hb M hM qM).trans hm),Vg⟩
 ·simp[mU.add,h.len]
 ·simp only[mU.add]at hy;rcases zag j g.nodes.length with hj|hj
  ·rw[zaI hj]at hy;rw[zaI (by rw[h.len];exact hj)]at qx;rcases h.subs j y sv hy qx with q|⟨b,q1,q2,q3⟩
   ·exact .inl q
   ·refine .inr ⟨b,q1,q2,?_⟩;rw[ho b (λe=>by rw[e,h.blk]at q3;simp at q3),hb b (zac.1 q3).1 (h.tu b _ q3 (λcur e=>by simp at e))];exact q3
  ·have ej:j=g.nodes.length:=by
    have:=(zaT.1 hy).1;simp at this;omega
   subst ej;rw[zaK (zaa _)]at hy;rw[zaK (by rw[h.len];exact zaa _),h.len]at qx;simp at hy qx;subst hy qx;exact .inl ⟨rfl,hx⟩
 ·simp;omega
 ·rcases zaM.1 qx with h1|h1
  ·exact .inl ⟨sv,h1,hb⟩
  ·simp at h1;subst h1;cases hb
theorem RD (h:dI w0 w G M κ E g bu nv)(x:ng)(hx:x.subs=[]){w1 w4:World}{v':Value}(hb1:Below w.heap.size w w1)(hrow:w4.ownsRow w0.heap.size 45 5 v' (g.nodes.length+1) (uM g.nodes bu++qw x (.slice none 0 0)))(hg:w1.grownBy w4 nv.ownBlock)
 (kg:v'.ownBlock=nv.ownBlock∨∃k,v'.ownBlock=some k∧w1.heap.size≤k):
 ∃a1 c1,v'=.slice a1 (g.nodes.length+1) c1∧w4.cell? ⟨G,0,none⟩=some nv∧w4.frozen? ⟨G,0,none⟩=false∧Hid (Grown w0 w (w4.setCell ⟨G,0,none⟩ v') G M κ E bu nv (g.add x)):=by
 obtain⟨h4,hgr⟩:=Ky h x hx hb1 hrow hg kg;obtain⟨a1,c1,e⟩:=bh hrow;exact⟨a1,c1,e,by simp[World.cell?,h4],by simp[World.frozen?,h4],hgr⟩
theorem Kz {W:World}{b:Nat}{x:ng}{t:TypeId}(h:W.heap[b]?=some (.cells #[.int .i64 x.kind,.string ⟨⟨x.text⟩⟩,.int .i64 x.n,.int .i64 x.d,.slice none 0 0] t))(j:Nat)(u:Value)(hu:(qw x (.slice none 0 0))[j]?=some u):W.cell? ((⟨b,0,none⟩:Addr).add j)=some u:=by
 match j,hu with
 |0,hu=>simpa[World.cell?,Addr.add,h,qw]using hu
 |1,hu=>simpa[World.cell?,Addr.add,h,qw]using hu
 |2,hu=>simpa[World.cell?,Addr.add,h,qw]using hu
 |3,hu=>simpa[World.cell?,Addr.add,h,qw]using hu
 |4,hu=>simpa[World.cell?,Addr.add,h,qw]using hu
 |j+5,hu=>simp[qw]at hu
theorem km (h:dI w0 w G M κ E g bu nv)(x:ng)(hx:x.subs=[])(hlen:g.nodes.length+1≤1000000):Calls prog 82 #[au G,jI x] w λe w'=>e=.returned (.int .i64 g.nodes.length)∧Grown w0 w w' G M κ E bu nv (g.add x):=by
 have mixed:prog.follows Departure.mixedOrders=true:=by kernel_rfl
 have hG:G<w.heap.size:=(zac.1 h.blk).1;obtain⟨a0,c0,rfl⟩:=bh h.row;obtain⟨g0,g1⟩:w.cell? ⟨G,0,none⟩=some (.slice a0 g.nodes.length c0)∧w.cell? ⟨G,1,none⟩=some (.map (some M)):=by
  constructor<;>simp[World.cell?,h.blk]
 obtain⟨i0,hi,hz0,hz1,hz2⟩:=info_parts Kw;have HG:Hid _:=h;have e1:¬G=w.heap.size:=by omega
 have e2:¬G=w.heap.size+1:=by omega
 have e3:G<w.heap.size+1:=by omega
 have hb1:Below w.heap.size w (((w.alloc (.cells #[.int .i64 x.kind,.string ⟨⟨x.text⟩⟩,.int .i64 x.n,.int .i64 x.d,.slice none 0 0] 45)).alloc (.cells #[.int .i64 x.kind,.string ⟨⟨x.text⟩⟩,.int .i64 x.n,.int .i64 x.d,.slice none 0 0] 45)).drew):=(((Below.refl _ _).alloc (zaa _) _).alloc (by simp) _).drew;have gP:Hid _:=hb1;have mB:Hid ((((w.alloc (.cells #[.int .i64 x.kind,.string ⟨⟨x.text⟩⟩,.int .i64 x.n,.int .i64 x.d,.slice none 0 0] 45)).alloc (.cells #[.int .i64 x.kind,.string ⟨⟨x.text⟩⟩,.int .i64 x.n,.int .i64 x.d,.slice none 0 0] 45)).drew).ownsRow w0.heap.size 45 5 (.slice a0 g.nodes.length c0) g.nodes.length (uM g.nodes bu)):=bg h.row (zaa _) λb _ hb=>hb1.block b hb;have Vh:Hid (∀(j:Nat) u,(qw x (.slice none 0 0))[j]?=some u→(((w.alloc (.cells #[.int .i64 x.kind,.string ⟨⟨x.text⟩⟩,.int .i64 x.n,.int .i64 x.d,.slice none 0 0] 45)).alloc (.cells #[.int .i64 x.kind,.string ⟨⟨x.text⟩⟩,.int .i64 x.n,.int .i64 x.d,.slice none 0 0] 45)).drew).cell? ((⟨w.heap.size+1,0,none⟩:Addr).add j)=some u):=Kz (cO w _ _);have adl:Hid (∀u∈qw x (.slice none 0 0),u.oneCell'=true):=λu hu=>by
  simp[qw]at hu;rcases hu with rfl|rfl|rfl|rfl|rfl<;>rfl
 have Zu:Hid (w0.heap.size≤(((w.alloc (.cells #[.int .i64 x.kind,.string ⟨⟨x.text⟩⟩,.int .i64 x.n,.int .i64 x.d,.slice none 0 0] 45)).alloc (.cells #[.int .i64 x.kind,.string ⟨⟨x.text⟩⟩,.int .i64 x.n,.int .i64 x.d,.slice none 0 0] 45)).drew).heap.size):=zad h.low.size hb1.size;clear h hb1;unfold au jI;go_enter func82,ntmps82;go_wp2_with fail
 go_region_law (refine tq rfl (.tmp 9) (.tmp 11) 28 rfl w0.heap.size 45 i0 _ 5 64 Ga hi hz0 hz1 hz2 (by decide) (by decide) rfl (.slice a0 g.nodes.length c0) g.nodes.length (uM g.nodes bu) rfl mB.out ⟨w.heap.size+1,0,none⟩ 1 1 (qw x (.slice none 0 0)) rfl (by decide) rfl Vh.out adl.out hlen Zu.out ?_;intro v' w4 hown' hgrow kg;obtain⟨a1,c1,rfl,c4,f4,EN⟩:=RD HG.out x hx gP.out hown' hgrow kg;clear hown' hgrow kg)
 all_goals
  go_wp2_with fail;go_ret;exact⟨rfl,EN.out⟩
end
end Go.Proofs.YtlhimdjkkiflhaaGreatDoor
namespace Go.Loop
open Go.Proofs.Tryz
def o9 (root:Dt):Dt→Bool
 |.ask m=>(bG m root).isSome
 |.put _ d=>o9 root d
 |.pair _ a b=>o9 root a&&o9 root b
 |.vec _ l=>o9 root l
 |.cK a l=>o9 root a&&o9 root l
 |_=>true
theorem ko {root:Dt}{m:Int}:∀{r d:Dt},o9 root r=true→bG m r=some d→o9 root d=true
 |.put n x,d,h,hl=>by
  unfold bG at hl;split at hl
  ·cases hl;exact h
  ·exact ko (r:=x) h hl
 |.pair _ a b,d,h,hl=>by
  simp only[o9,zae]at h;unfold bG at hl;cases hq:bG m a with
  |some x=>rw[hq]at hl;cases hl;exact ko h.1 hq
  |none=>rw[hq]at hl;exact ko h.2 hl
 |.vec _ l,d,h,hl=>by
  unfold bG at hl;exact ko (r:=l) h hl
 |.cK a l,d,h,hl=>by
  simp only[o9,zae]at h;unfold bG at hl;cases hq:bG m a with
  |some x=>rw[hq]at hl;cases hl;exact ko h.1 hq
  |none=>rw[hq]at hl;exact ko h.2 hl
 |.nil,d,h,hl=>by simp[bG]at hl
 |.sym _,d,h,hl=>by simp[bG]at hl
 |.num _ _,d,h,hl=>by simp[bG]at hl
 |.cQ _,d,h,hl=>by simp[bG]at hl
 |.su _,d,h,hl=>by simp[bG]at hl
 |.txt _ _,d,h,hl=>by simp[bG]at hl
 |.iw,d,h,hl=>by simp[bG]at hl
 |.ask _,d,h,hl=>by simp[bG]at hl
theorem fO {root:Dt}{d:Dt}(h:d.hd=true)(f:Nat):bR root f d=d:=by
 cases f with
 |zero=>rfl
 |succ f=>cases d<;>first|rfl|(simp[Dt.hd]at h)
theorem Gb {Q:Nat→Prop}(h:∃n,Q n):∃n,Q n∧∀m,Q m→n≤m:=by
 obtain⟨n,hn⟩:=h
 induction n using Nat.strongRecOn with
 |_ n ih=>
  by_cases e:∃m,m<n∧Q m
  ·obtain⟨m,h1,h2⟩:=e;exact ih m h1 h2
  ·exact⟨n,hn,λm hm=>Nat.le_of_not_lt λhlt=>e ⟨m,hlt,hm⟩⟩
end Go.Loop
namespace Go.Proofs.YtlhimdjkkiflhaaGreatDoor
open Go.Proofs.Tryz
open Go.RowKit Go.Loop
section
variable {lo K:Nat}{L:List Int}{w:World}{E:Env}
mutual
theorem ba.ea {m:Int}:∀{r d:Dt} {v:Value},ba lo K L w E r v→bG m r=some d→∃v',w.heap[E.ea m]?=some (.cells #[v'] 215)∧ba lo K L w E d v'
 |.put n x,d,v,h,hl=>by
  unfold ba at h;unfold bG at hl;split at hl
  ·rename_i e;subst e;cases hl;exact⟨v,h.2.2.1,h.2.2.2⟩
  ·exact ba.ea h.2.2.2 hl
 |.pair _ a b,d,v,h,hl=>by
  unfold ba at h;obtain⟨_,_,_,va,vb,_,h1,h2⟩:=h;unfold bG at hl;cases hq:bG m a with
  |some x=>rw[hq]at hl;cases hl;exact ba.ea h1 hq
  |none=>rw[hq]at hl;exact ba.ea h2 hl
 |.vec _ l,d,v,h,hl=>by
  unfold ba at h;obtain⟨_,_,_,sl,vs,_,_,h1⟩:=h;unfold bG at hl;exact cH.ea h1 hl
 |.cK a l,d,v,h,hl=>by unfold ba at h;exact h.elim
 |.nil,d,v,h,hl=>by simp[bG]at hl
 |.sym _,d,v,h,hl=>by simp[bG]at hl
 |.num _ _,d,v,h,hl=>by simp[bG]at hl
 |.cQ _,d,v,h,hl=>by simp[bG]at hl
 |.su _,d,v,h,hl=>by simp[bG]at hl
 |.txt _ _,d,v,h,hl=>by simp[bG]at hl
 |.iw,d,v,h,hl=>by simp[bG]at hl
 |.ask _,d,v,h,hl=>by simp[bG]at hl
theorem cH.ea {m:Int}:∀{r d:Dt} {vs:List Value},cH lo K L w E r vs→bG m r=some d→∃v',w.heap[E.ea m]?=some (.cells #[v'] 215)∧ba lo K L w E d v'
 |.cK a l,d,vs,h,hl=>by
  unfold cH at h;obtain⟨v,r,_,h1,h2⟩:=h;unfold bG at hl;cases hq:bG m a with
  |some x=>rw[hq]at hl;cases hl;exact ba.ea h1 hq
  |none=>rw[hq]at hl;exact cH.ea h2 hl
 |.iw,d,v,h,hl=>by simp[bG]at hl
 |.put _ _,d,v,h,hl=>by unfold cH at h;exact h.elim
 |.pair _ _ _,d,v,h,hl=>by unfold cH at h;exact h.elim
 |.vec _ _,d,v,h,hl=>by unfold cH at h;exact h.elim
 |.nil,d,v,h,hl=>by simp[bG]at hl
 |.sym _,d,v,h,hl=>by simp[bG]at hl
 |.num _ _,d,v,h,hl=>by simp[bG]at hl
 |.cQ _,d,v,h,hl=>by simp[bG]at hl
 |.su _,d,v,h,hl=>by simp[bG]at hl
 |.txt _ _,d,v,h,hl=>by simp[bG]at hl
 |.ask _,d,v,h,hl=>by simp[bG]at hl
end
section
variable {P:Program}
def eF (P:Program)(A:TypeId):Bool:=(P.underlying A).any λd=>match d with|.interface _=>false|_=>true
theorem bz {A x:TypeId}{v:Value}(w:World)(hu:eF P A=true):(Instr.typeAssert (.iface A v) x A true).run P w=.ok (.tuple #[v,.bool true]) w:=by
 unfold eF at hu;cases hq:P.underlying A with
 |none=>rw[hq]at hu;cases hu
 |some d=>
  rw[hq]at hu;cases d<;>first|(simp at hu;done)|simp[Instr.typeAssert,run_underlying hq]
theorem ak {t A x:TypeId}{v z:Value}(w:World)(hu:eF P A=true)(hz:(P.info? A).bind (·.zero)=some z)(h:t≠A):(Instr.typeAssert (.iface t v) x A true).run P w=.ok (.tuple #[z,.bool false]) w:=by
 unfold eF at hu;cases hi:P.info? A with
 |none=>rw[hi]at hz;cases hz
 |some i=>
  rw[hi]at hz;have hz':i.zero=some z:=hz;cases hq:P.underlying A with
  |none=>rw[hq]at hu;cases hu
  |some d=>
   rw[hq]at hu;cases d<;>first|(simp at hu;done)|simp[Instr.typeAssert,run_underlying hq,h,zeroValue,typeInfo,hi,hz']
end
theorem iz:eF prog 212=true:=by kernel_rfl
theorem kQ:(prog.info? 212).bind (·.zero)=some (.pointer none):=by kernel_rfl
def pJ (lo K:Nat)(L:List Int)(w:World)(E:Env)(root t:Dt)(f:Nat)(v:Value):Prop:=∃d,ba lo K L w E d v∧bR root f d=t∧o9 root d=true
theorem zA {w0:World}(dV:Below w0.heap.size w0 w){root:Dt}{rv:Value}(nX:ba lo K L w0 E root rv)(A6:o9 root root=true)(f:Nat)(d:Dt)(v:Value)(hd:ba lo K L w0 E d v)(ha:o9 root d=true)(hh:(bR root f d).hd=true):Calls prog 78 #[v] w λe w'=>∃v',e=.returned v'∧w'=w∧ba lo K L w0 E (bR root f d) v':=by
 generalize ht:bR root f d=t at *;obtain⟨μ,hμ⟩:∃μ:Value→Nat,∀x,(∃n,pJ lo K L w0 E root t n x)→pJ lo K L w0 E root t (μ x) x∧∀m,pJ lo K L w0 E root t m x→μ x≤m:=by
  have hex:∀x,∃k,(∃n,pJ lo K L w0 E root t n x)→pJ lo K L w0 E root t k x∧∀m,pJ lo K L w0 E root t m x→k≤m:=λx=>by
   by_cases e:∃n,pJ lo K L w0 E root t n x
   ·obtain⟨n,h1⟩:=Gb e;exact⟨n,λ_=>h1⟩
   ·exact⟨0,λh=>absurd h e⟩
  exact⟨λx=>Classical.choose (hex x),λx=>Classical.choose_spec (hex x)⟩
 have H0:Hid (∃n,pJ lo K L w0 E root t n v):=⟨f,d,hd,ht,ha⟩;have HM:Hid _:=hμ;have HRT:Hid _:=nX;have HAS:Hid _:=A6;have HLO:Hid _:=dV;clear dV hμ nX A6 hd ht ha d f;go_enter func78,ntmps78;go_wp2_with fail;go_loopw [0] (λsv wr=>wr=w∧Hid (∃n,pJ lo K L w0 E root t n sv)) (λsv _=>μ sv)
 case atStart=>exact⟨rfl,H0.out⟩
 case round=>
  obtain⟨rfl,HX⟩:=hrel;obtain⟨⟨d,hd,hm,ha⟩,yG⟩:=HM.out _ HX.out;cases d with
  |iw=>unfold ba at hd;exact hd.elim
  |cK a l=>unfold ba at hd;exact hd.elim
  |put n x=>
   exfalso;cases hf:μ u0 with
   |zero=>rw[hf]at hm;have:(Dt.put n x).hd=true:=by rw[←hh,←hm];rfl
          simp[Dt.hd]at this
   |succ k=>
    rw[hf]at hm;unfold ba at hd;have:=yG k ⟨x,hd.2.2.2,hm,ha⟩;omega
  |ask m=>
   cases hf:μ u0 with
   |zero=>rw[hf]at hm;have:(Dt.ask m).hd=true:=by rw[←hh,←hm];rfl
          simp[Dt.hd]at this
   |succ k=>
    rw[hf]at hm;have ha':(bG m root).isSome=true:=ha;obtain⟨d1,BN⟩:=zbB.1 ha';obtain⟨v1,Ie,Tr⟩:=ba.ea HRT.out BN
    have QE:bR root k d1=t:=by have e:bR root (k+1) (.ask m)=bR root k ((bG m root).getD .nil):=rfl
                               rw[e,BN]at hm;exact hm
    have HON:Hid (pJ lo K L w0 E root t k v1):=⟨d1,Tr,QE,ko HAS.out BN⟩;have hlt:=(HM.out v1 ⟨k,HON.out⟩).2 k HON.out;unfold ba at hd;obtain⟨-,rfl⟩:=hd;have hv2:=(HLO.out.block _ (zac.1 Ie).1).trans Ie;have c0:wr.cell? ⟨E.ea m,0,none⟩=some v1:=by simp[World.cell?,hv2]
    have BO:(Instr.typeAssert (.iface 212 (.pointer (some ⟨E.ea m,0,none⟩))) 58 212 true).run prog wr=_:=bz wr iz;clear hm yG ha Tr QE Ie hv2 ha' BN;unfold au at *;go_wp2_with fail;exact⟨⟨trivial,⟨k,HON.out⟩⟩,by rw[hf];omega⟩
  |nil=>
   have HD:Hid (t=.nil):=by show _=_;rw[←hm];exact fO rfl _
   unfold ba at hd;subst hd;have BO:(Instr.typeAssert (.iface 272 (.agg #[])) 58 212 true).run prog wr=_:=ak wr iz kQ (by decide);clear hm yG ha;go_wp2_with fail;go_ret;exact⟨_,rfl,rfl,by rw[HD.out];unfold ba;rfl⟩
  |sym s=>
   have HD:Hid (t=.sym s):=by show _=_;rw[←hm];exact fO rfl _
   unfold ba at hd;subst hd;have BO:(Instr.typeAssert (.iface 168 (.agg #[.string ⟨⟨s⟩⟩])) 58 212 true).run prog wr=_:=ak wr iz kQ (by decide);clear hm yG ha;go_wp2_with fail;go_ret;exact⟨_,rfl,rfl,by rw[HD.out];unfold ba;rfl⟩
  |num a b=>
   have HD:Hid (t=.num a b):=by show _=_;rw[←hm];exact fO rfl _
   unfold ba at hd;subst hd;have BO:(Instr.typeAssert (.iface 153 (.agg #[.int .i64 a,.int .i64 b])) 58 212 true).run prog wr=_:=ak wr iz kQ (by decide);clear hm yG ha;go_wp2_with fail;go_ret;exact⟨_,rfl,rfl,by rw[HD.out];unfold ba;rfl⟩
  |cQ a=>
   have HD:Hid (t=.cQ a):=by show _=_;rw[←hm];exact fO rfl _
   unfold ba at hd;subst hd;have BO:(Instr.typeAssert (.iface 155 (.agg #[.int .i64 a])) 58 212 true).run prog wr=_:=ak wr iz kQ (by decide);clear hm yG ha;go_wp2_with fail;go_ret;exact⟨_,rfl,rfl,by rw[HD.out];unfold ba;rfl⟩
  |su a=>
   have HD:Hid (t=.su a):=by show _=_;rw[←hm];exact fO rfl _
   unfold ba at hd;subst hd;have BO:(Instr.typeAssert (.iface 157 (.agg #[.int .i64 a])) 58 212 true).run prog wr=_:=ak wr iz kQ (by decide);clear hm yG ha;go_wp2_with fail;go_ret;exact⟨_,rfl,rfl,by rw[HD.out];unfold ba;rfl⟩
  |txt i s=>
   have HD:Hid (t=.txt i s):=by show _=_;rw[←hm];exact fO rfl _
   unfold ba at hd;have Kn:Hid _:=hd;obtain⟨-,-,rfl,-⟩:=hd;have BO:(Instr.typeAssert (.iface 158 (.pointer (some ⟨E.α i,0,none⟩))) 58 212 true).run prog wr=_:=ak wr iz kQ (by decide);unfold au at *;clear hm yG ha;go_wp2_with fail;go_ret;exact⟨_,rfl,rfl,by rw[HD.out];unfold ba;exact⟨Kn.out.1,Kn.out.2.1,rfl,Kn.out.2.2.2⟩⟩
  |pair i a b=>
   have HD:Hid (t=.pair i a b):=by show _=_;rw[←hm];exact fO rfl _
   unfold ba at hd;have Kn:Hid _:=hd;obtain⟨-,-,rfl,-⟩:=hd;have BO:(Instr.typeAssert (.iface 150 (.pointer (some ⟨E.α i,0,none⟩))) 58 212 true).run prog wr=_:=ak wr iz kQ (by decide);unfold au at *;clear hm yG ha;go_wp2_with fail;go_ret;exact⟨_,rfl,rfl,by rw[HD.out];unfold ba;exact⟨Kn.out.1,Kn.out.2.1,rfl,Kn.out.2.2.2⟩⟩
  |vec i l=>
   have HD:Hid (t=.vec i l):=by show _=_;rw[←hm];exact fO rfl _
   unfold ba at hd;have Kn:Hid _:=hd;obtain⟨-,-,rfl,-⟩:=hd;have BO:(Instr.typeAssert (.iface 163 (.pointer (some ⟨E.α i,0,none⟩))) 58 212 true).run prog wr=_:=ak wr iz kQ (by decide);unfold au at *;clear hm yG ha;go_wp2_with fail;go_ret;exact⟨_,rfl,rfl,by rw[HD.out];unfold ba;exact⟨Kn.out.1,Kn.out.2.1,rfl,Kn.out.2.2.2⟩⟩
end
structure gi (w0:World) (K:Nat) (κ:Nat→HK) (E:Env) (met:List (Nat×Nat)):Prop where
 at_:∀p∈met,p.1<K∧kJ w0 (κ p.1) (E.α p.1)
 nd:(met.map (·.1)).Nodup
section
variable {w0 w:World}{G M K:Nat}{κ:Nat→HK}{E:Env}{g:mU}{bu:List Value}{nv:Value}
theorem kJ.low {h:HK}{b:Nat}(x:kJ w0 h b)(hb:Below w0.heap.size w0 w):kJ w h b:=by
 obtain⟨c,hc⟩:=x;exact⟨c,(hb.block b (zac.1 hc).1).trans hc⟩
theorem Grown.refl (h:dI w0 w G M κ E g bu nv):Grown w0 w w G M κ E bu nv g:=⟨bu,nv,h,(Kp.refl G M w).a _,.inl rfl,λsv hs _ hb=> .inl ⟨sv,hs,hb⟩⟩
theorem dI.look (h:dI w0 w G M κ E g bu nv)(hm:gi w0 K κ E g.met)(lV:∀i j,i<K→j<K→E.α i=E.α j→i=j){i:Nat}(hi:i<K)(hk:kJ w0 (κ i) (E.α i)):(Instr.lookup 98 (.map (some M)) (ki (κ i) (E.α i)) true).run prog w=.ok (.tuple #[.int .i64 (((g.met.lookup i).getD 0:Nat):Int),.bool (g.met.lookup i).isSome]) w:=
 C6 h.map i (hk.low h.low) (λp hp=>(hm.at_ p hp).2.low h.low) (λp hp e=>lV i p.1 hi (hm.at_ p hp).1 e) hm.nd
theorem dI.met (h:dI w0 w G M κ E g bu nv){i k:Nat}{o:Obj}(hm:jg { w with heap:=w.heap.setIfInBounds M o } M (C4 κ E ((i,k)::g.met))):dI w0 { w with heap:=w.heap.setIfInBounds M o } G M κ E { g with met:=(i,k)::g.met } bu nv∧js G M nv.ownBlock w { w with heap:=w.heap.setIfInBounds M o }:=by
 have ho:∀b,b≠M→(w.heap.setIfInBounds M o)[b]?=w.heap[b]?:=λb hb=>zak (λe=>hb e.symm);obtain⟨es,c,hM,-⟩:=h.map;refine⟨⟨h.gm,h.Xk,h.Xl,⟨h.low.os,h.low.tape,h.low.output,?_,λb hb=>?_⟩,(ho G h.gm).trans h.blk,?_,hm,h.len,λj x sv hx qx=>?_⟩,⟨rfl,rfl,rfl,by simp,λb _ _ b3 _=>ho b b3⟩⟩
 ·have:=h.low.size;simpa using this
 ·have:=h.Xl;exact(ho b (by omega)).trans (h.low.block b hb)
 ·refine⟨h.row.1,h.row.2.imp id ?_⟩;rintro ⟨b,cp,cur,q1,q2,q3,q4⟩;exact⟨b,cp,cur,q1,q2,(ho b (λe=>by rw[e,hM]at q3;cases q3)).trans q3,q4⟩
 ·rcases h.subs j x sv hx qx with q|⟨b,q1,q2,q3⟩
  ·exact .inl q
  ·exact .inr ⟨b,q1,q2,(ho b (λe=>by rw[e,hM]at q3;cases q3)).trans q3⟩
theorem Grown.met {w1:World}{g1:mU}(h:Grown w0 w w1 G M κ E bu nv g1){i k:Nat}{o:Obj}(hm:jg { w1 with heap:=w1.heap.setIfInBounds M o } M (C4 κ E ((i,k)::g1.met))):Grown w0 w { w1 with heap:=w1.heap.setIfInBounds M o } G M κ E bu nv { g1 with met:=(i,k)::g1.met }:=by
 obtain⟨xh,RB,h1,h2,h3,h4⟩:=h;obtain⟨k1,k2⟩:=h1.met hm;exact⟨xh,RB,k1,h2.put k2 h3,h3,h4⟩
theorem N8 (h:dI w0 w G M κ E g bu nv)(hm:gi w0 K κ E g.met)(lV:∀i j,i<K→j<K→E.α i=E.α j→i=j){i:Nat}{s:List UInt8}(hi:i<K)(hk:κ i=.txt)(hx:w0.heap[E.α i]?=some (.cells #[.string ⟨⟨s⟩⟩] 218))(hlen:g.nodes.length+1≤1000000):Calls prog 81 #[au G,au (E.α i)] w λe w'=>∃k g',(match g.met.lookup i with|some k=>some (k,g)|none=>some (g.nodes.length,⟨g.nodes++[⟨3,s,0,0,[]⟩],(i,g.nodes.length)::g.met⟩))=some (k,g')∧e=.returned (.int .i64 k)∧Grown w0 w w' G M κ E bu nv g':=by
 have hat:kJ w0 (κ i) (E.α i):=by rw[hk];exact⟨_,hx⟩
 have cE:=h.look hm lV hi hat
 have hG:G<w.heap.size:=(zac.1 h.blk).1;obtain⟨g0,g1⟩:w.cell? ⟨G,0,none⟩=some nv∧w.cell? ⟨G,1,none⟩=some (.map (some M)):=by
  constructor<;>simp[World.cell?,h.blk]
 have hx1:=(h.low.block (E.α i) (zac.1 hx).1).trans hx;have x0:w.cell? ⟨E.α i,0,none⟩=some (.string ⟨⟨s⟩⟩):=by simp[World.cell?,hx1]
 cases hq:g.met.lookup i with
 |some k=>
  rw[hq,hk]at cE;simp only[zaF,Option.isSome_some]at cE;have HG:Hid _:=Grown.refl h;clear h hm hat hx hx1;unfold ki au at cE;simp only[HK.p]at cE;unfold au;go_enter func81,ntmps81;go_wp2_with fail;go_ret;exact⟨k,g,rfl,rfl,HG.out⟩
 |none=>
  rw[hq,hk]at cE;simp only[zbc,zbF]at cE;have HC:Hid _:=km h ⟨3,s,0,0,[]⟩ rfl hlen;have HM:Hid _:=hm;have Vi:Hid _:=hat
  have HI:Hid _:=lV;clear h hm hat hx hx1 lV;unfold ki au at cE;simp only[HK.p]at cE;unfold au jI at HC;simp only at HC;unfold au;go_enter func81,ntmps81;go_wp2_with fail;refine Calls.mono HC.out ?_;rintro e w1 ⟨rfl,hgr⟩;obtain⟨KA,Ts,h1,-,-,-⟩:=id hgr;have N9:(g.add ⟨3,s,0,0,[]⟩).met=g.met:=rfl;obtain⟨o,hput,hmap⟩:=xd h1.map i g.nodes.length (kJ.low Vi.out h1.low) (λp hp=>kJ.low (HM.out.at_ p hp).2 h1.low) (λp hp e=>HI.out i p.1 hi (HM.out.at_ p hp).1 e) HM.out.nd hq;have EN:Hid _:=Grown.met hgr hmap;obtain⟨y0,y1⟩:w1.cell? ⟨G,0,none⟩=some Ts∧w1.cell? ⟨G,1,none⟩=some (.map (some M)):=by
   constructor<;>simp[World.cell?,h1.blk]
  clear hgr h1 hmap HC N9;rw[hk]at hput;unfold ki au at hput;simp only[HK.p]at hput;go_wp2_with fail;go_ret;exact⟨g.nodes.length,_,rfl,rfl,EN.out⟩
end
end Go.Proofs.YtlhimdjkkiflhaaGreatDoor
namespace Go.Loop
open Go.Proofs.Tryz
def Dt.RF:Dt→Nat
 |.cK _ l=>l.RF+1
 |_=>0
def bn (root:Dt):Dt→Bool
 |.ask m=>(bG m root).isSome&&(bR root 200000 (.ask m)).hd
 |.put n d=>(bR root 200000 (.put n d)).hd&&bn root d
 |.pair _ a b=>bn root a&&bn root b
 |.vec _ l=>decide (l.RF≤1000)&&bn root l
 |.cK a l=>bn root a&&bn root l
 |.sym s=>decide (s.length≤1000000)
 |_=>true
theorem fu {root:Dt}:∀{d:Dt},bn root d=true→o9 root d=true
 |.ask m,h=>by simp only[bn,zae]at h;exact h.1
 |.put n d,h=>by simp only[bn,zae]at h;exact fu (d:=d) h.2
 |.pair _ a b,h=>by simp only[bn,o9,zae]at h ⊢;exact⟨fu h.1,fu h.2⟩
 |.vec _ l,h=>by simp only[bn,zae]at h;exact fu (d:=l) h.2
 |.cK a l,h=>by simp only[bn,o9,zae]at h ⊢;exact⟨fu h.1,fu h.2⟩
 |.nil,_=>rfl
 |.sym _,_=>rfl
 |.num _ _,_=>rfl
 |.cQ _,_=>rfl
 |.su _,_=>rfl
 |.txt _ _,_=>rfl
 |.iw,_=>rfl
theorem iW {root:Dt}{m:Int}:∀{r d:Dt},bn root r=true→bG m r=some d→bn root d=true
 |.put n x,d,h,hl=>by
  simp only[bn,zae]at h;unfold bG at hl;split at hl
  ·cases hl;exact h.2
  ·exact iW (r:=x) h.2 hl
 |.pair _ a b,d,h,hl=>by
  simp only[bn,zae]at h;unfold bG at hl;cases hq:bG m a with
  |some x=>rw[hq]at hl;cases hl;exact iW h.1 hq
  |none=>rw[hq]at hl;exact iW h.2 hl
 |.vec _ l,d,h,hl=>by
  simp only[bn,zae]at h;unfold bG at hl;exact iW (r:=l) h.2 hl
 |.cK a l,d,h,hl=>by
  simp only[bn,zae]at h;unfold bG at hl;cases hq:bG m a with
  |some x=>rw[hq]at hl;cases hl;exact iW h.1 hq
  |none=>rw[hq]at hl;exact iW h.2 hl
 |.nil,d,h,hl=>by simp[bG]at hl
 |.sym _,d,h,hl=>by simp[bG]at hl
 |.num _ _,d,h,hl=>by simp[bG]at hl
 |.cQ _,d,h,hl=>by simp[bG]at hl
 |.su _,d,h,hl=>by simp[bG]at hl
 |.txt _ _,d,h,hl=>by simp[bG]at hl
 |.iw,d,h,hl=>by simp[bG]at hl
 |.ask _,d,h,hl=>by simp[bG]at hl
theorem nY {root:Dt}(hr:bn root root=true):∀(f:Nat) (d:Dt),bn root d=true→bn root (bR root f d)=true
 |0,d,h=>h
 |f+1,.put n x,h=>by
  simp only[bn,zae]at h;exact nY hr f x h.2
 |f+1,.ask m,h=>by
  simp only[bn,zae]at h;obtain⟨d1,BN⟩:=zbB.1 h.1;show bn root (bR root f ((bG m root).getD .nil))=true;rw[BN];exact nY hr f d1 (iW hr BN)
 |f+1,.nil,h=>h
 |f+1,.sym _,h=>h
 |f+1,.num _ _,h=>h
 |f+1,.cQ _,h=>h
 |f+1,.su _,h=>h
 |f+1,.txt _ _,h=>h
 |f+1,.pair _ _ _,h=>h
 |f+1,.vec _ _,h=>h
 |f+1,.iw,h=>h
 |f+1,.cK _ _,h=>h
theorem lW (root:Dt):∀n,(∀d g k g',lR root n d g=some (k,g')→g.nodes.length≤g'.nodes.length)∧∀l acc g ks g',jh root n l acc g=some (ks,g')→g.nodes.length≤g'.nodes.length
 |0=>⟨λd g k g' h=>by simp[lR]at h,λl acc g ks g' h=>by simp[jh]at h⟩
 |n+1=>by
  have ih:=lW root n;refine⟨λd g k g' h=>?_,λl acc g ks g' h=>?_⟩
  ·unfold lR at h;split at h
   ·split at h
    ·cases h;exact zaa _
    ·obtain⟨y,hy,e⟩:=zai.1 h;cases e;have:=ih.2 _ _ _ _ _ hy;simp[dR]at this ⊢;omega
   ·split at h
    ·cases h;exact zaa _
    ·obtain⟨y,hy,e⟩:=zai.1 h;cases e;have:=ih.2 _ _ _ _ _ hy;simp[dR]at this ⊢;omega
   ·split at h
    ·cases h;exact zaa _
    ·cases h;simp
   all_goals (cases h;simp[mU.add])
  ·unfold jh at h;split at h
   ·cases h;exact zaa _
   ·obtain⟨x,hx,e⟩:=zaz.1 h;have:=ih.1 _ _ _ _ hx;have:=ih.2 _ _ _ _ _ e;omega
   ·cases h
end Go.Loop
namespace Go.Proofs.YtlhimdjkkiflhaaGreatDoor
open Go.Proofs.Tryz
open Go.RowKit Go.Loop
theorem Oa:(prog.info? 3).map (λi=>(i.zero,i.size,i.bytes))=some (some (.int .i64 0),1,8):=by kernel_rfl
structure kR (w0:World) (lo K:Nat) (L:List Int) (κ:Nat→HK) (E:Env) (root:Dt):Prop where
 Vb:∃rv,ba lo K L w0 E root rv
 good:bn root root=true
 inj:∀i j,i<K→j<K→E.α i=E.α j→i=j
 kind:∀i h,i<K→kJ w0 h (E.α i)→κ i=h
section
variable (w0:World)(lo K:Nat)(L:List Int)(κ:Nat→HK)(E:Env)(root:Dt)(G M:Nat)
def xj (n:Nat):Prop:=∀d v w g bu nv k g',ba lo K L w0 E d v→bn root d=true→dI w0 w G M κ E g bu nv→gi w0 K κ E g.met→lR root n d g=some (k,g')→g'.nodes.length≤999999→Calls prog 48 #[au G,v] w λe w'=>e=.returned (.int .i64 (k:Nat))∧Grown w0 w w' G M κ E bu nv g'∧gi w0 K κ E g'.met
end
end Go.Proofs.YtlhimdjkkiflhaaGreatDoor
namespace Go.Proofs.YtlhimdjkkiflhaaGreatDoor
open Go.RowKit Go.Loop
theorem Ix:∀(l:List ng) (bu:List Value) (i:Nat) (x:ng) (sv:Value),l[i]?=some x→bu[i]?=some sv→(uM l bu)[i*5+4]?=some sv
 |[],_,i,x,sv,h,_=>by simp at h
 |_::_,[],i,x,sv,_,h=>by simp at h
 |y::l,s::bu,0,x,sv,h,h2=>by
  simp at h h2;subst h h2;simp[uM,qw]
 |y::l,s::bu,i+1,x,sv,h,h2=>by
  have:=Ix l bu i x sv (by simpa using h) (by simpa using h2);rw[uM,zaK (by simp[qw];omega)];have e:(i+1)*5+4-(qw y s).length=i*5+4:=by simp[qw];omega
  rw[e];exact this
theorem Iy:∀(l:List ng) (bu:List Value) (i:Nat) (ks:List Nat) (sv:Value),i<l.length→bu.length=l.length→uM (dR l i ks) (bu.set i sv)=(uM l bu).set (i*5+4) sv
 |[],_,i,ks,sv,h,_=>by simp at h
 |_::_,[],i,ks,sv,_,h=>by simp at h
 |y::l,s::bu,0,ks,sv,_,_=>by
  simp[dR,uM,qw]
 |y::l,s::bu,i+1,ks,sv,h,h2=>by
  have:=Iy l bu i ks sv (by simpa using h) (by simpa using h2);have e:dR (y::l) (i+1) ks=y::dR l i ks:=rfl;rw[e,List.set_cons_succ,uM,this,uM,List.set_append_right _ _ (by simp[qw];omega)];have e:(i+1)*5+4-(qw y s).length=i*5+4:=by simp[qw];omega
  rw[e]
theorem Gc {l:List ng}{i:Nat}{ks:List Nat}{j:Nat}{x:ng}(h:(dR l i ks)[j]?=some x):(j=i∧x.subs=ks)∨(j≠i∧l[j]?=some x):=by
 unfold dR at h;rw[List.getElem?_modify]at h;by_cases e:i=j
 ·subst e;simp at h;obtain⟨y,-,rfl⟩:=h;exact .inl ⟨rfl,rfl⟩
 ·simp[e]at h;exact .inr ⟨λq=>e q.symm,h⟩
section
variable {w0 w:World}{G M K:Nat}{κ:Nat→HK}{E:Env}{g:mU}{bu:List Value}{nv:Value}
theorem dI.sub (h:dI w0 w G M κ E g bu nv){i:Nat}(hi:i<g.nodes.length){ks:List Nat}{B:Nat}(hB:w0.heap.size≤B)(hblk:w.heap[B]?=some (.cells (ks.map λk:Nat=>Value.int .i64 (k:Int)).toArray 3)):∃nb cap,nv=.slice (some ⟨nb,0,none⟩) g.nodes.length cap∧(∃sv,w.cell? ⟨nb,i*5+4,none⟩=some sv)∧w.frozen? ⟨nb,i*5+4,none⟩=false∧dI w0 (w.setCell ⟨nb,i*5+4,none⟩ (.slice (some ⟨B,0,none⟩) ks.length ks.length)) G M κ E { g with nodes:=dR g.nodes i ks } (bu.set i (.slice (some ⟨B,0,none⟩) ks.length ks.length)) nv∧js G M nv.ownBlock w (w.setCell ⟨nb,i*5+4,none⟩ (.slice (some ⟨B,0,none⟩) ks.length ks.length)):=by
 obtain⟨es,c,hm,Vg⟩:=h.map;rcases h.row.2 with⟨_,h0⟩|⟨nb,cap,cur,rfl,q1,q2,q3,q4,q5,q6⟩
 ·omega
 have qx:i<bu.length:=by rw[h.len];exact hi
 have hcell:w.cell? ⟨nb,i*5+4,none⟩=some bu[i]:=by
  have:=h.row.cells (g:=nb) rfl (i*5+4) _ (Ix _ _ i _ _ (zaf hi) (zaf qx));simpa[Addr.add]using this
 have ho:∀b,b≠nb→(w.setCell ⟨nb,i*5+4,none⟩ (.slice (some ⟨B,0,none⟩) ks.length ks.length)).heap[b]?=w.heap[b]?:=λb hb=>Below.heap_setCell _ _ _ _ hb;have nG:G≠nb:=λe=>by rw[←e,h.blk]at q2;simp at q2
 have nM:M≠nb:=λe=>by rw[←e,hm]at q2;simp at q2
 have adm:(w.setCell ⟨nb,i*5+4,none⟩ (.slice (some ⟨B,0,none⟩) ks.length ks.length)).heap[nb]?=some (.cells (cur.setIfInBounds (i*5+4) (.slice (some ⟨B,0,none⟩) ks.length ks.length)) 45):=dN q2 _ _;refine⟨nb,cap,rfl,⟨_,hcell⟩,by simp[World.frozen?,q2],⟨h.gm,h.Xk,h.Xl,⟨h.low.os,h.low.tape,h.low.output,by have:=h.low.size;simpa using this,λb hb=>(ho b (by omega)).trans (h.low.block b hb)⟩,(ho G nG).trans h.blk,?_,⟨es,c,(ho M nM).trans hm,Vg⟩,by simp[dR,h.len],λj x sv hx RG=>?_⟩,⟨rfl,rfl,rfl,by simp,λb _ _ _ b4=>ho b (λe=>b4 (by rw[e];rfl))⟩⟩
 ·have e1:(dR g.nodes i ks).length=g.nodes.length:=by simp[dR]
  show World.ownsRow _ _ _ _ _ (dR g.nodes i ks).length (uM (dR g.nodes i ks) _);rw[Iy _ _ _ _ _ hi h.len,e1];refine⟨by rw[List.length_set];exact h.row.1,.inr ⟨nb,cap,_,rfl,q1,adm,q3,q4,by simpa using q5,?_⟩⟩;rw[Array.toList_setIfInBounds,List.take_set,q6]
 ·rcases Gc hx with⟨rfl,hk⟩|⟨hne,Ar⟩
  ·rw[List.getElem?_set_self (by rw[h.len];exact hi)]at RG;cases RG;right;refine⟨B,by rw[hk],hB,?_⟩;rw[hk];exact(ho B (λe=>by rw[e,q2]at hblk;simp at hblk)).trans hblk
  ·rw[List.getElem?_set_ne (λe=>hne e.symm)]at RG;rcases h.subs j x sv Ar RG with q|⟨b,p1,p2,p3⟩
   ·exact .inl q
   ·exact .inr ⟨b,p1,p2,(ho b (λe=>by rw[e,q2]at p3;simp at p3)).trans p3⟩
end
end Go.Proofs.YtlhimdjkkiflhaaGreatDoor
namespace Go.Proofs.YtlhimdjkkiflhaaGreatDoor
open Go.Proofs.Tryz
open Go.RowKit Go.Loop
def aL:Code→Code
 |.seq _ y=>y
 |c=>c
section
variable {R M g cap:Nat}{T:List Tok}{dp:Nat}
theorem Ob {n:Nat}(ih:IH R M g cap T dp n)(t:Tok)(p:Pl)(a0:Option Addr)(n0 c0:Nat)(w w1 w3:World)(E:Env)(s:gW)(r:RR Dt)(BL:p.passed=false)(hl:¬t.n∈s.aP)(hd:p.depth+1≤dp∧p.ahead.length≤p.depth)(wj:dp≤30)(Ki:w.heap.size+1+1≤w1.heap.size)
 (hs3:w3.heap.size=w1.heap.size+2)(HE:Hid (r=(aV T dp n ⟨p.depth+1,p.passed,p.ahead++[t.n]⟩ { s with aP:=t.n::s.aP }).bind λd s=> .ok (.put t.n d) s))(HO:Hid (r≠.out))(zy:∀k,(Value.slice a0 n0 c0).ownBlock=some k→k<w.heap.size)(HlA:Hid (∀m∈p.ahead,m∈s.aP))
 (C9:Hid (bE w3 R M g cap T dp (E.label t.n (w1.heap.size+1)) { s with aP:=t.n::s.aP }))(HL3:Hid (w3.heap[w1.heap.size+1]?=some (.cells #[.nilIface] 215)))(PU:Hid (w3.heap[w1.heap.size]?=some (.cells #[.int .i64 ((p.depth:Int)+1),.bool false,.slice none 0 0] 128)))
 (N5:Hid (w3.heap[w.heap.size+1]?=some (.cells #[.int .i64 p.depth,.bool false,.slice a0 n0 c0] 128)))(mB:Hid (w3.ownsRow 0 212 1 (.slice a0 n0 c0) p.ahead.length (p.ahead.map λm=>au ((E.label t.n (w1.heap.size+1)).ea m))))(lS:Hid (Kp R M w w3))
 (x1 x2 x3 x4 x6 x7 x9 x11 x12 Zv x14 x15 x16 x17 x18 x19 x20 x21 x22 x23 x24 x25 x26 x27 x28 x29 x30 x31 x32 x33 x34 x35 x36 x37 x38 x39 x40 x41 x42 x43 x44 x45 x46 x47 x48 x49 x50 x51 x52 x53 x54 x55 x56 x57 x58 x59 x60 x61 x62 x63 x64 x65 x66:Value):
 (aL (aL (aL (aL (aL (aL (f160.body.getD .skip))))))).wp prog (bodyPost prog f160 λe w'=>jD R M g cap T dp (Value.slice a0 n0 c0).ownBlock w E s r e w') ⟨#[.pointer (some ⟨R,0,none⟩),x1,x2,x3,x4,.pointer (some ⟨w.heap.size+1,0,none⟩),x6,x7,.pointer (some ⟨w1.heap.size,0,none⟩),x9,.pointer (some ⟨w1.heap.size+1,0,none⟩),x11,x12,Zv,x14,x15,x16,x17,x18,x19,x20,x21,x22,x23,x24,x25,x26,x27,x28,x29,x30,x31,x32,x33,x34,x35,x36,x37,x38,x39,x40,x41,x42,x43,x44,x45,x46,x47,x48,x49,x50,x51,x52,x53,x54,x55,x56,x57,x58,x59,x60,x61,x62,x63,x64,x65,x66],[]⟩ w3:=by
 have mixed:prog.follows Departure.mixedOrders=true:=by kernel_rfl
 obtain⟨q0,q1,q2⟩:=eE N5.out;obtain⟨z0,z1,z2⟩:=eE PU.out;have hf3:w3.frozen? ⟨w1.heap.size,2,none⟩=false:=by simp[World.frozen?,PU.out]
 obtain⟨i0,hi,hz0,hz1,hz2⟩:=info_parts Kl;have hlen:p.ahead.length+1≤1000000:=by omega
 have KB:Hid _:=ih;have HS3:Hid _:=hs3;clear ih hs3;dsimp only[f160,aL,Option.getD];go_wp2_with (at_builtin;(refine eY rfl _ _ 126 rfl 0 212 i0 (.pointer none) 8 Ku hi hz0 hz1 hz2 (by decide) rfl (.slice a0 n0 c0) p.ahead.length (p.ahead.map λm=>au ((E.label t.n (w1.heap.size+1)).ea m)) rfl (World.ownsRow.alloc mB.out _) ⟨w3.heap.size,0,none⟩ 1 1 [au (w1.heap.size+1)] rfl (by decide) rfl ?c1 ?c2 ?c3 ?c4 ?_))
 case c1=>
  intro j u hj
  match j,hj with
  |0,hj=>simp at hj;subst hj;simp[Addr.add,au]
 case c2=>intro u hu;simp at hu;subst hu;rfl
 case c3=>exact hlen
 case c4=>exact zah _
 intro v' w4 hown' hgrow kg;have hs3:=HS3.out;obtain⟨hr4,hk4,hb4,LK⟩:=Kv C9.out mB.out hgrow
 skip
 have Nq:=(hb4 w1.heap.size (by omega) (λe=>by have:=zy _ e.symm;omega)).trans PU.out;have hL4:=(hb4 (w1.heap.size+1) (by omega) (λe=>by have:=zy _ e.symm;omega)).trans HL3.out;obtain⟨a1,c1,rfl⟩:=bh hown';have EM:Hid (bE (w4.setCell ⟨w1.heap.size,2,none⟩ (.slice a1 (p.ahead.length+1) c1)) R M g cap T dp (E.label t.n (w1.heap.size+1)) { s with aP:=t.n::s.aP }):=bE.place hr4 Nq 2 _;have HA5:Hid (iJ (w4.setCell ⟨w1.heap.size,2,none⟩ (.slice a1 (p.ahead.length+1) c1)) (E.label t.n (w1.heap.size+1)) { s with aP:=t.n::s.aP } (p.ahead++[t.n]) (.slice a1 (p.ahead.length+1) c1)):=iJ.more hown' Nq HlA.out _;have hL5:(w4.setCell ⟨w1.heap.size,2,none⟩ (.slice a1 (p.ahead.length+1) c1)).heap[w1.heap.size+1]?=some (.cells #[.nilIface] 215):=(Below.heap_setCell _ _ _ _ (by show w1.heap.size+1≠w1.heap.size;omega)).trans hL4;have WQ:(w4.setCell ⟨w1.heap.size,2,none⟩ (.slice a1 (p.ahead.length+1) c1)).heap[w1.heap.size]?=some (.cells #[.int .i64 ((p.depth:Int)+1),.bool false,.slice a1 (p.ahead.length+1) c1] 128):=dN Nq 2 _;have EL:Hid (js R M (Value.slice a0 n0 c0).ownBlock w (w4.setCell ⟨w1.heap.size,2,none⟩ (.slice a1 (p.ahead.length+1) c1))):=by
  exact js.above (((lS.out).a _).trans hk4) (by omega) 2 _
 have hv5:(Value.slice a1 (p.ahead.length+1) c1).ownBlock=(Value.slice a0 n0 c0).ownBlock∨∃k,(Value.slice a1 (p.ahead.length+1) c1).ownBlock=some k∧w.heap.size≤k:=kg.imp id λ⟨k,k1,k2⟩=>⟨k,k1,by have k3:w3.heap.size≤k:=zad (by simp) k2;omega⟩;have Vd:Hid _:=hv5;have HL5:Hid _:=hL5;have hne:aV T dp n ⟨p.depth+1,false,p.ahead++[t.n]⟩ { s with aP:=t.n::s.aP }≠.out:=λh=>HO.out (by rw[HE.out,BL,h];rfl);have HD:Hid _:=KB.out.datum ⟨p.depth+1,false,p.ahead++[t.n]⟩ (.slice a1 (p.ahead.length+1) c1) _ _ _ EM.out HA5.out ⟨hd.1,by show(p.ahead++[t.n]).length≤_;rw[zaL];have:=hd.2;simp;omega⟩ hne;obtain⟨y0,y1,y2⟩:=eE WQ;have hf4:w4.frozen? ⟨w1.heap.size,2,none⟩=false:=by simp[World.frozen?,Nq]
 obtain⟨u0,u1,u2⟩:=eE Nq;have hs5:(w4.setCell ⟨w1.heap.size,2,none⟩ (.slice a1 (p.ahead.length+1) c1)).heap.size=w4.heap.size:=by simp
 clear hr4 hk4 hb4 Nq hL4 hL5 WQ hown' hgrow kg hv5 hne KB C9 mB N5 PU HL3 lS;unfold gA au at HD;go_wp2_with fail;refine Calls.mono HD.out ?_;clear HD;intro e w6 bX;cases hF:aV T dp n ⟨p.depth+1,false,p.ahead++[t.n]⟩ { s with aP:=t.n::s.aP } with
 |out=>exact absurd (by rw[HE.out,BL,hF];rfl) HO.out
 |fail er a=>
  rw[hF]at bX;obtain⟨⟨b,rfl,hf⟩,LR⟩:=bX;have HG:Hid (jD R M g cap T dp (Value.slice a0 n0 c0).ownBlock w E s (RR.fail er a) (.returned (.tuple #[.nilIface,au b])) w6):=⟨⟨b,rfl,hf⟩,js.put EL.out LR Vd.out⟩;have jk:Hid (r=.fail er a):=by show _=_;rw[HE.out,BL,hF];rfl
  clear hf LR EL Vd HL5 EM HA5;unfold au;go_wp2_with fail;go_ret2;rw[jk.out];exact HG.out
 |ok d s2=>
  rw[hF]at bX;obtain⟨v,E2,rfl,⟨ty,y,rfl⟩,bW,hx2,hr2,hk2⟩:=bX;obtain⟨hl6,hG⟩:=RA EL.out (by omega) HL5.out HA5.out.1 Vd.out EM.out hl ⟨ty,y,rfl⟩ bW hx2 hr2 hk2;have HG:Hid _:=hG;have jk:Hid (r=.ok (.put t.n d) s2):=by show _=_;rw[HE.out,BL,hF];rfl
  have c0:w6.cell? ⟨w1.heap.size+1,0,none⟩=some .nilIface:=by simp[World.cell?,hl6]
  have f0:w6.frozen? ⟨w1.heap.size+1,0,none⟩=false:=by simp[World.frozen?,hl6]
  clear bW hx2 hr2 hk2 EL Vd HL5 EM HA5 hl6 hG;go_wp2_with fail;go_ret2;rw[jk.out];exact HG.out
end
end Go.Proofs.YtlhimdjkkiflhaaGreatDoor
