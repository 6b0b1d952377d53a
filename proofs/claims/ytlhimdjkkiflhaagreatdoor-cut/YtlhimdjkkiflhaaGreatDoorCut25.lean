import Derived.Test.YtlhimdjkkiflhaaGreatDoorCut24
set_option maxHeartbeats 8000000
set_option maxRecDepth 100000
namespace Go.Proofs.YtlhimdjkkiflhaaGreatDoor
open Go.Proofs.Tryz
open Go.RowKit Go.Loop
section
variable {w0 w:World}{G M:Nat}{κ:Nat→HK}{E:Env}{g:mh}{bS:List Value}{nv:Value}
def MB (w:World)(bS xj:List Value):Prop:=∀sv∈xj,∀b,sv.ownBlock=some b→(∃sv0∈bS,sv0.ownBlock=some b)∨w.heap.size≤b
def Grown (w0 w w':World)(G M:Nat)(κ:Nat→HK)(E:Env)(bS:List Value)(nv:Value)(g':mh):Prop:=
 ∃xj PC,ez w0 w' G M κ E g' xj PC∧jP G M nv.ownBlock w w'∧(PC.ownBlock=nv.ownBlock∨∃b,PC.ownBlock=some b∧w.heap.size≤b)∧MB w bS xj
def kn (x:pj):Value:= .agg #[.int .i64 x.kind,.string ⟨⟨x.text⟩⟩,.int .i64 x.n,.int .i64 x.d,.slice none 0 0]
theorem ez.s6 (h:ez w0 w G M κ E g bS nv)(b:Nat)(o:Obj)(hb:w.heap[b]?=some o)(ho:∀cur,o≠.cells cur 45):some b≠nv.ownBlock:=by
 intro e;rcases h.row.2 with⟨rfl,_⟩|⟨c,cap,cur,rfl,_,hg,_⟩
 ·cases e
 ·have:b=c:=by cases e;rfl
  rw[this,hg]at hb;exact ho cur (by cases hb;rfl)
theorem Jz (h:ez w0 w G M κ E g bS nv)(x:pj)(hx:x.subs=[]){w1 w4:World}{v':Value}(hb1:Below w.heap.size w w1)(hrow:w4.ownsRow w0.heap.size 45 5 v' (g.nodes.length+1) (uG g.nodes bS++qE x (.slice none 0 0)))(hg:w1.grownBy w4 nv.ownBlock)
 (lH:v'.ownBlock=nv.ownBlock∨∃k,v'.ownBlock=some k∧w1.heap.size≤k):
 w4.heap[G]?=some (.cells #[nv,.map (some M)] 100)∧Grown w0 w (w4.setCell ⟨G,0,none⟩ v') G M κ E bS nv (g.add x):=by
 have hs1:=hb1.size;have Kj:=hg.size;have hb:∀b,b<w.heap.size→some b≠nv.ownBlock→w4.heap[b]?=w.heap[b]?:=λb h1 h2=>(hg.block b (by omega) h2).trans (hb1.block b h1);have hG:G<w.heap.size:=(zae.1 h.blk).1;obtain⟨es,c,hm,UE⟩:=h.map;have hM:M<w.heap.size:=(zae.1 hm).1;have qG:=h.s6 G _ h.blk (λcur e=>by simp at e);have qM:=h.s6 M _ hm (λcur e=>by simp at e);have h4:w4.heap[G]?=some (.cells #[nv,.map (some M)] 100):=(hb G hG qG).trans h.blk;have ho:∀b,b≠G→(w4.setCell ⟨G,0,none⟩ v').heap[b]?=w4.heap[b]?:=λb hb=>Below.heap_setCell _ _ _ _ hb;have zw:∀b,nv.ownBlock=some b→w0.heap.size≤b:=λb hb=>(h.row.lt b hb).1;refine⟨h4,bS++[.slice none 0 0],v',⟨h.gm,h.WX,h.WY,⟨hg.os.trans (hb1.os.trans h.low.os),hg.tape.trans (hb1.tape.trans h.low.tape),hg.output.trans (hb1.output.trans h.low.output),?_,λb b1=>?_⟩,ey h4 0 v',?_,?_,?_,λj y sv hy qF=>?_⟩,⟨hg.os.trans hb1.os,hg.tape.trans hb1.tape,hg.output.trans hb1.output,?_,λb b1 b2 _ b4=>(ho b b2).trans (hb b b1 b4)⟩,lH.imp id (λ⟨k,k1,k2⟩=>⟨k,k1,by omega⟩),λsv qF b hb=>?_⟩
 ·have:=h.low.size;simp;omega
 ·have:=h.WX;have hl:=h.low.size;rw[ho b (by omega),hb b (by omega) (λe=>by have:=zw b e.symm;omega)];exact h.low.block b b1
 ·have e:uG (g.add x).nodes (bS++[.slice none 0 0])=uG g.nodes bS++qE x (.slice none 0 0):=CV _ _ _ _ h.len;have e2:(g.add x).nodes.length=g.nodes.length+1:=by simp[mh.add]
  rw[e,e2];refine⟨hrow.1,hrow.2.imp id ?_⟩;rintro ⟨b,cp,cur,q1,q2,q3,q4⟩;exact⟨b,cp,cur,q1,q2,(ho b (λe=>by rw[e,h4]at q3;simp at q3)).trans q3,q4⟩
 ·exact⟨es,c,(ho M (λe=>h.gm e.symm)).trans ((hb M hM qM).trans hm),UE⟩
 ·simp[mh.add,h.len]
 ·simp only[mh.add]at hy;rcases zag j g.nodes.length with hj|hj
  ·rw[zaF hj]at hy;rw[zaF (by rw[h.len];exact hj)]at qF;rcases h.subs j y sv hy qF with q|⟨b,q1,q2,q3⟩
   ·exact .inl q
   ·refine .inr ⟨b,q1,q2,?_⟩;rw[ho b (λe=>by rw[e,h.blk]at q3;simp at q3),hb b (zae.1 q3).1 (h.s6 b _ q3 (λcur e=>by simp at e))];exact q3
  ·have ej:j=g.nodes.length:=by
    have:=(zbg.1 hy).1;simp at this;omega
   subst ej;rw[zaK (zaa _)]at hy;rw[zaK (by rw[h.len];exact zaa _),h.len]at qF;simp at hy qF;subst hy qF;exact .inl ⟨rfl,hx⟩
 ·simp;omega
 ·rcases zaO.1 qF with h1|h1
  ·exact .inl ⟨sv,h1,hb⟩
  ·simp at h1;subst h1;cases hb
theorem PD (h:ez w0 w G M κ E g bS nv)(x:pj)(hx:x.subs=[]){w1 w4:World}{v':Value}(hb1:Below w.heap.size w w1)(hrow:w4.ownsRow w0.heap.size 45 5 v' (g.nodes.length+1) (uG g.nodes bS++qE x (.slice none 0 0)))(hg:w1.grownBy w4 nv.ownBlock)
 (lH:v'.ownBlock=nv.ownBlock∨∃k,v'.ownBlock=some k∧w1.heap.size≤k):
 ∃a1 c1,v'=.slice a1 (g.nodes.length+1) c1∧w4.cell? ⟨G,0,none⟩=some nv∧w4.frozen? ⟨G,0,none⟩=false∧Hid (Grown w0 w (w4.setCell ⟨G,0,none⟩ v') G M κ E bS nv (g.add x)):=by
 obtain⟨h4,hgr⟩:=Jz h x hx hb1 hrow hg lH;obtain⟨a1,c1,e⟩:=bQ hrow;exact⟨a1,c1,e,by simp[World.cell?,h4],by simp[World.frozen?,h4],hgr⟩
theorem JA {W:World}{b:Nat}{x:pj}{t:TypeId}(h:W.heap[b]?=some (.cells #[.int .i64 x.kind,.string ⟨⟨x.text⟩⟩,.int .i64 x.n,.int .i64 x.d,.slice none 0 0] t))(j:Nat)(u:Value)(hu:(qE x (.slice none 0 0))[j]?=some u):W.cell? ((⟨b,0,none⟩:Addr).add j)=some u:=by
 match j,hu with
 |0,hu=>simpa[World.cell?,Addr.add,h,qE]using hu
 |1,hu=>simpa[World.cell?,Addr.add,h,qE]using hu
 |2,hu=>simpa[World.cell?,Addr.add,h,qE]using hu
 |3,hu=>simpa[World.cell?,Addr.add,h,qE]using hu
 |4,hu=>simpa[World.cell?,Addr.add,h,qE]using hu
 |j+5,hu=>simp[qE]at hu
theorem kO (h:ez w0 w G M κ E g bS nv)(x:pj)(hx:x.subs=[])(hlen:g.nodes.length+1≤1000000):Calls prog 82 #[aH G,kn x] w λe w'=>e=.returned (.int .i64 g.nodes.length)∧Grown w0 w w' G M κ E bS nv (g.add x):=by
 have mixed:prog.follows Departure.mixedOrders=true:=by kernel_rfl
 have hG:G<w.heap.size:=(zae.1 h.blk).1;obtain⟨a0,c0,rfl⟩:=bQ h.row;obtain⟨g0,g1⟩:w.cell? ⟨G,0,none⟩=some (.slice a0 g.nodes.length c0)∧w.cell? ⟨G,1,none⟩=some (.map (some M)):=by
  constructor<;>simp[World.cell?,h.blk]
 obtain⟨i0,hi,hz0,hz1,hz2⟩:=info_parts Jy;have HG:Hid _:=h;have e1:¬G=w.heap.size:=by omega
 have e2:¬G=w.heap.size+1:=by omega
 have e3:G<w.heap.size+1:=by omega
 have hb1:Below w.heap.size w (((w.alloc (.cells #[.int .i64 x.kind,.string ⟨⟨x.text⟩⟩,.int .i64 x.n,.int .i64 x.d,.slice none 0 0] 45)).alloc (.cells #[.int .i64 x.kind,.string ⟨⟨x.text⟩⟩,.int .i64 x.n,.int .i64 x.d,.slice none 0 0] 45)).drew):=(((Below.refl _ _).alloc (zaa _) _).alloc (by simp) _).drew;have k8:Hid _:=hb1;have mS:Hid ((((w.alloc (.cells #[.int .i64 x.kind,.string ⟨⟨x.text⟩⟩,.int .i64 x.n,.int .i64 x.d,.slice none 0 0] 45)).alloc (.cells #[.int .i64 x.kind,.string ⟨⟨x.text⟩⟩,.int .i64 x.n,.int .i64 x.d,.slice none 0 0] 45)).drew).ownsRow w0.heap.size 45 5 (.slice a0 g.nodes.length c0) g.nodes.length (uG g.nodes bS)):=bH h.row (zaa _) λb _ hb=>hb1.block b hb;have UF:Hid (∀(j:Nat) u,(qE x (.slice none 0 0))[j]?=some u→(((w.alloc (.cells #[.int .i64 x.kind,.string ⟨⟨x.text⟩⟩,.int .i64 x.n,.int .i64 x.d,.slice none 0 0] 45)).alloc (.cells #[.int .i64 x.kind,.string ⟨⟨x.text⟩⟩,.int .i64 x.n,.int .i64 x.d,.slice none 0 0] 45)).drew).cell? ((⟨w.heap.size+1,0,none⟩:Addr).add j)=some u):=JA (ed w _ _);have abq:Hid (∀u∈qE x (.slice none 0 0),u.oneCell'=true):=λu hu=>by
  simp[qE]at hu;rcases hu with rfl|rfl|rfl|rfl|rfl<;>rfl
 have YU:Hid (w0.heap.size≤(((w.alloc (.cells #[.int .i64 x.kind,.string ⟨⟨x.text⟩⟩,.int .i64 x.n,.int .i64 x.d,.slice none 0 0] 45)).alloc (.cells #[.int .i64 x.kind,.string ⟨⟨x.text⟩⟩,.int .i64 x.n,.int .i64 x.d,.slice none 0 0] 45)).drew).heap.size):=zad h.low.size hb1.size;clear h hb1;unfold aH kn;go_enter func82,ntmps82;go_wp2_with fail
 go_region_law (refine sZ rfl (.tmp 9) (.tmp 11) 28 rfl w0.heap.size 45 i0 _ 5 64 Fj hi hz0 hz1 hz2 (by decide) (by decide) rfl (.slice a0 g.nodes.length c0) g.nodes.length (uG g.nodes bS) rfl mS.out ⟨w.heap.size+1,0,none⟩ 1 1 (qE x (.slice none 0 0)) rfl (by decide) rfl UF.out abq.out hlen YU.out ?_;intro v' w4 hown' hgrow lH;obtain⟨a1,c1,rfl,c4,f4,DW⟩:=PD HG.out x hx k8.out hown' hgrow lH;clear hown' hgrow lH)
 all_goals
  go_wp2_with fail;go_ret;exact⟨rfl,DW.out⟩
end
end Go.Proofs.YtlhimdjkkiflhaaGreatDoor
namespace Go.Loop
open Go.Proofs.Tryz
def pC (root:Dt):Dt→Bool
 |.ask m=>(aY m root).isSome
 |.put _ d=>pC root d
 |.pair _ a b=>pC root a&&pC root b
 |.vec _ l=>pC root l
 |.ck a l=>pC root a&&pC root l
 |_=>true
theorem kP {root:Dt}{m:Int}:∀{r d:Dt},pC root r=true→aY m r=some d→pC root d=true
 |.put n x,d,h,hl=>by
  unfold aY at hl;split at hl
  ·cases hl;exact h
  ·exact kP (r:=x) h hl
 |.pair _ a b,d,h,hl=>by
  simp only[pC,zac]at h;unfold aY at hl;cases hq:aY m a with
  |some x=>rw[hq]at hl;cases hl;exact kP h.1 hq
  |none=>rw[hq]at hl;exact kP h.2 hl
 |.vec _ l,d,h,hl=>by
  unfold aY at hl;exact kP (r:=l) h hl
 |.ck a l,d,h,hl=>by
  simp only[pC,zac]at h;unfold aY at hl;cases hq:aY m a with
  |some x=>rw[hq]at hl;cases hl;exact kP h.1 hq
  |none=>rw[hq]at hl;exact kP h.2 hl
 |.nil,d,h,hl=>by simp[aY]at hl
 |.sym _,d,h,hl=>by simp[aY]at hl
 |.num _ _,d,h,hl=>by simp[aY]at hl
 |.eT _,d,h,hl=>by simp[aY]at hl
 |.si _,d,h,hl=>by simp[aY]at hl
 |.txt _ _,d,h,hl=>by simp[aY]at hl
 |.fj,d,h,hl=>by simp[aY]at hl
 |.ask _,d,h,hl=>by simp[aY]at hl
theorem iA {root:Dt}{d:Dt}(h:d.hd=true)(f:Nat):cO root f d=d:=by
 cases f with
 |zero=>rfl
 |succ f=>cases d<;>first|rfl|(simp[Dt.hd]at h)
theorem Fl {Q:Nat→Prop}(h:∃n,Q n):∃n,Q n∧∀m,Q m→n≤m:=by
 obtain⟨n,hn⟩:=h
 induction n using Nat.strongRecOn with
 |_ n ih=>
  by_cases e:∃m,m<n∧Q m
  ·obtain⟨m,h1,h2⟩:=e;exact ih m h1 h2
  ·exact⟨n,hn,λm hm=>Nat.le_of_not_lt λhlt=>e ⟨m,hlt,hm⟩⟩
end Go.Loop
namespace Go.Proofs.YtlhimdjkkiflhaaGreatDoor
open Go.Proofs.Tryz
open Go.RowKit Go.Loop
section
variable {lo K:Nat}{L:List Int}{w:World}{E:Env}
mutual
theorem cz.eL {m:Int}:∀{r d:Dt} {v:Value},cz lo K L w E r v→aY m r=some d→∃v',w.heap[E.eL m]?=some (.cells #[v'] 215)∧cz lo K L w E d v'
 |.put n x,d,v,h,hl=>by
  unfold cz at h;unfold aY at hl;split at hl
  ·rename_i e;subst e;cases hl;exact⟨v,h.2.2.1,h.2.2.2⟩
  ·exact cz.eL h.2.2.2 hl
 |.pair _ a b,d,v,h,hl=>by
  unfold cz at h;obtain⟨_,_,_,va,vb,_,h1,h2⟩:=h;unfold aY at hl;cases hq:aY m a with
  |some x=>rw[hq]at hl;cases hl;exact cz.eL h1 hq
  |none=>rw[hq]at hl;exact cz.eL h2 hl
 |.vec _ l,d,v,h,hl=>by
  unfold cz at h;obtain⟨_,_,_,sl,vs,_,_,h1⟩:=h;unfold aY at hl;exact df.eL h1 hl
 |.ck a l,d,v,h,hl=>by unfold cz at h;exact h.elim
 |.nil,d,v,h,hl=>by simp[aY]at hl
 |.sym _,d,v,h,hl=>by simp[aY]at hl
 |.num _ _,d,v,h,hl=>by simp[aY]at hl
 |.eT _,d,v,h,hl=>by simp[aY]at hl
 |.si _,d,v,h,hl=>by simp[aY]at hl
 |.txt _ _,d,v,h,hl=>by simp[aY]at hl
 |.fj,d,v,h,hl=>by simp[aY]at hl
 |.ask _,d,v,h,hl=>by simp[aY]at hl
theorem df.eL {m:Int}:∀{r d:Dt} {vs:List Value},df lo K L w E r vs→aY m r=some d→∃v',w.heap[E.eL m]?=some (.cells #[v'] 215)∧cz lo K L w E d v'
 |.ck a l,d,vs,h,hl=>by
  unfold df at h;obtain⟨v,r,_,h1,h2⟩:=h;unfold aY at hl;cases hq:aY m a with
  |some x=>rw[hq]at hl;cases hl;exact cz.eL h1 hq
  |none=>rw[hq]at hl;exact df.eL h2 hl
 |.fj,d,v,h,hl=>by simp[aY]at hl
 |.put _ _,d,v,h,hl=>by unfold df at h;exact h.elim
 |.pair _ _ _,d,v,h,hl=>by unfold df at h;exact h.elim
 |.vec _ _,d,v,h,hl=>by unfold df at h;exact h.elim
 |.nil,d,v,h,hl=>by simp[aY]at hl
 |.sym _,d,v,h,hl=>by simp[aY]at hl
 |.num _ _,d,v,h,hl=>by simp[aY]at hl
 |.eT _,d,v,h,hl=>by simp[aY]at hl
 |.si _,d,v,h,hl=>by simp[aY]at hl
 |.txt _ _,d,v,h,hl=>by simp[aY]at hl
 |.ask _,d,v,h,hl=>by simp[aY]at hl
end
section
variable {P:Program}
def jW (P:Program)(A:TypeId):Bool:=(P.underlying A).any λd=>match d with|.interface _=>false|_=>true
theorem dH {A x:TypeId}{v:Value}(w:World)(hu:jW P A=true):(Instr.typeAssert (.iface A v) x A true).run P w=.ok (.tuple #[v,.bool true]) w:=by
 unfold jW at hu;cases hq:P.underlying A with
 |none=>rw[hq]at hu;cases hu
 |some d=>
  rw[hq]at hu;cases d<;>first|(simp at hu;done)|simp[Instr.typeAssert,run_underlying hq]
theorem az {t A x:TypeId}{v z:Value}(w:World)(hu:jW P A=true)(hz:(P.info? A).bind (·.zero)=some z)(h:t≠A):(Instr.typeAssert (.iface t v) x A true).run P w=.ok (.tuple #[z,.bool false]) w:=by
 unfold jW at hu;cases hi:P.info? A with
 |none=>rw[hi]at hz;cases hz
 |some i=>
  rw[hi]at hz;have hz':i.zero=some z:=hz;cases hq:P.underlying A with
  |none=>rw[hq]at hu;cases hu
  |some d=>
   rw[hq]at hu;cases d<;>first|(simp at hu;done)|simp[Instr.typeAssert,run_underlying hq,h,zeroValue,typeInfo,hi,hz']
end
theorem iR:jW prog 212=true:=by kernel_rfl
theorem lj:(prog.info? 212).bind (·.zero)=some (.pointer none):=by kernel_rfl
def pQ (lo K:Nat)(L:List Int)(w:World)(E:Env)(root t:Dt)(f:Nat)(v:Value):Prop:=∃d,cz lo K L w E d v∧cO root f d=t∧pC root d=true
theorem JB {w0:World}(fW:Below w0.heap.size w0 w){root:Dt}{rv:Value}(G7:cz lo K L w0 E root rv)(uE:pC root root=true)(f:Nat)(d:Dt)(v:Value)(hd:cz lo K L w0 E d v)(ha:pC root d=true)(hh:(cO root f d).hd=true):Calls prog 78 #[v] w λe w'=>∃v',e=.returned v'∧w'=w∧cz lo K L w0 E (cO root f d) v':=by
 generalize ht:cO root f d=t at *;obtain⟨μ,hμ⟩:∃μ:Value→Nat,∀x,(∃n,pQ lo K L w0 E root t n x)→pQ lo K L w0 E root t (μ x) x∧∀m,pQ lo K L w0 E root t m x→μ x≤m:=by
  have hex:∀x,∃k,(∃n,pQ lo K L w0 E root t n x)→pQ lo K L w0 E root t k x∧∀m,pQ lo K L w0 E root t m x→k≤m:=λx=>by
   by_cases e:∃n,pQ lo K L w0 E root t n x
   ·obtain⟨n,h1⟩:=Fl e;exact⟨n,λ_=>h1⟩
   ·exact⟨0,λh=>absurd h e⟩
  exact⟨λx=>Classical.choose (hex x),λx=>Classical.choose_spec (hex x)⟩
 have H0:Hid (∃n,pQ lo K L w0 E root t n v):=⟨f,d,hd,ht,ha⟩;have HM:Hid _:=hμ;have HRT:Hid _:=G7;have HAS:Hid _:=uE;have HLO:Hid _:=fW;clear fW hμ G7 uE hd ht ha d f;go_enter func78,ntmps78;go_wp2_with fail;go_loopw [0] (λsv wr=>wr=w∧Hid (∃n,pQ lo K L w0 E root t n sv)) (λsv _=>μ sv)
 case atStart=>exact⟨rfl,H0.out⟩
 case round=>
  obtain⟨rfl,HX⟩:=hrel;obtain⟨⟨d,hd,hm,ha⟩,yz⟩:=HM.out _ HX.out;cases d with
  |fj=>unfold cz at hd;exact hd.elim
  |ck a l=>unfold cz at hd;exact hd.elim
  |put n x=>
   exfalso;cases hf:μ u0 with
   |zero=>rw[hf]at hm;have:(Dt.put n x).hd=true:=by rw[←hh,←hm];rfl
          simp[Dt.hd]at this
   |succ k=>
    rw[hf]at hm;unfold cz at hd;have:=yz k ⟨x,hd.2.2.2,hm,ha⟩;omega
  |ask m=>
   cases hf:μ u0 with
   |zero=>rw[hf]at hm;have:(Dt.ask m).hd=true:=by rw[←hh,←hm];rfl
          simp[Dt.hd]at this
   |succ k=>
    rw[hf]at hm;have ha':(aY m root).isSome=true:=ha;obtain⟨d1,Fi⟩:=zbq.1 ha';obtain⟨v1,L4,SP⟩:=cz.eL HRT.out Fi
    have OG:cO root k d1=t:=by have e:cO root (k+1) (.ask m)=cO root k ((aY m root).getD .nil):=rfl
                               rw[e,Fi]at hm;exact hm
    have HON:Hid (pQ lo K L w0 E root t k v1):=⟨d1,SP,OG,kP HAS.out Fi⟩;have hlt:=(HM.out v1 ⟨k,HON.out⟩).2 k HON.out;unfold cz at hd;obtain⟨-,rfl⟩:=hd;have hv2:=(HLO.out.block _ (zae.1 L4).1).trans L4;have c0:wr.cell? ⟨E.eL m,0,none⟩=some v1:=by simp[World.cell?,hv2]
    have SQ:(Instr.typeAssert (.iface 212 (.pointer (some ⟨E.eL m,0,none⟩))) 58 212 true).run prog wr=_:=dH wr iR;clear hm yz ha SP OG L4 hv2 ha' Fi;unfold aH at *;go_wp2_with fail;exact⟨⟨trivial,⟨k,HON.out⟩⟩,by rw[hf];omega⟩
  |nil=>
   have HD:Hid (t=.nil):=by show _=_;rw[←hm];exact iA rfl _
   unfold cz at hd;subst hd;have SQ:(Instr.typeAssert (.iface 272 (.agg #[])) 58 212 true).run prog wr=_:=az wr iR lj (by decide);clear hm yz ha;go_wp2_with fail;go_ret;exact⟨_,rfl,rfl,by rw[HD.out];unfold cz;rfl⟩
  |sym s=>
   have HD:Hid (t=.sym s):=by show _=_;rw[←hm];exact iA rfl _
   unfold cz at hd;subst hd;have SQ:(Instr.typeAssert (.iface 168 (.agg #[.string ⟨⟨s⟩⟩])) 58 212 true).run prog wr=_:=az wr iR lj (by decide);clear hm yz ha;go_wp2_with fail;go_ret;exact⟨_,rfl,rfl,by rw[HD.out];unfold cz;rfl⟩
  |num a b=>
   have HD:Hid (t=.num a b):=by show _=_;rw[←hm];exact iA rfl _
   unfold cz at hd;subst hd;have SQ:(Instr.typeAssert (.iface 153 (.agg #[.int .i64 a,.int .i64 b])) 58 212 true).run prog wr=_:=az wr iR lj (by decide);clear hm yz ha;go_wp2_with fail;go_ret;exact⟨_,rfl,rfl,by rw[HD.out];unfold cz;rfl⟩
  |eT a=>
   have HD:Hid (t=.eT a):=by show _=_;rw[←hm];exact iA rfl _
   unfold cz at hd;subst hd;have SQ:(Instr.typeAssert (.iface 155 (.agg #[.int .i64 a])) 58 212 true).run prog wr=_:=az wr iR lj (by decide);clear hm yz ha;go_wp2_with fail;go_ret;exact⟨_,rfl,rfl,by rw[HD.out];unfold cz;rfl⟩
  |si a=>
   have HD:Hid (t=.si a):=by show _=_;rw[←hm];exact iA rfl _
   unfold cz at hd;subst hd;have SQ:(Instr.typeAssert (.iface 157 (.agg #[.int .i64 a])) 58 212 true).run prog wr=_:=az wr iR lj (by decide);clear hm yz ha;go_wp2_with fail;go_ret;exact⟨_,rfl,rfl,by rw[HD.out];unfold cz;rfl⟩
  |txt i s=>
   have HD:Hid (t=.txt i s):=by show _=_;rw[←hm];exact iA rfl _
   unfold cz at hd;have Jq:Hid _:=hd;obtain⟨-,-,rfl,-⟩:=hd;have SQ:(Instr.typeAssert (.iface 158 (.pointer (some ⟨E.α i,0,none⟩))) 58 212 true).run prog wr=_:=az wr iR lj (by decide);unfold aH at *;clear hm yz ha;go_wp2_with fail;go_ret;exact⟨_,rfl,rfl,by rw[HD.out];unfold cz;exact⟨Jq.out.1,Jq.out.2.1,rfl,Jq.out.2.2.2⟩⟩
  |pair i a b=>
   have HD:Hid (t=.pair i a b):=by show _=_;rw[←hm];exact iA rfl _
   unfold cz at hd;have Jq:Hid _:=hd;obtain⟨-,-,rfl,-⟩:=hd;have SQ:(Instr.typeAssert (.iface 150 (.pointer (some ⟨E.α i,0,none⟩))) 58 212 true).run prog wr=_:=az wr iR lj (by decide);unfold aH at *;clear hm yz ha;go_wp2_with fail;go_ret;exact⟨_,rfl,rfl,by rw[HD.out];unfold cz;exact⟨Jq.out.1,Jq.out.2.1,rfl,Jq.out.2.2.2⟩⟩
  |vec i l=>
   have HD:Hid (t=.vec i l):=by show _=_;rw[←hm];exact iA rfl _
   unfold cz at hd;have Jq:Hid _:=hd;obtain⟨-,-,rfl,-⟩:=hd;have SQ:(Instr.typeAssert (.iface 163 (.pointer (some ⟨E.α i,0,none⟩))) 58 212 true).run prog wr=_:=az wr iR lj (by decide);unfold aH at *;clear hm yz ha;go_wp2_with fail;go_ret;exact⟨_,rfl,rfl,by rw[HD.out];unfold cz;exact⟨Jq.out.1,Jq.out.2.1,rfl,Jq.out.2.2.2⟩⟩
end
structure gQ (w0:World) (K:Nat) (κ:Nat→HK) (E:Env) (met:List (Nat×Nat)):Prop where
 at_:∀p∈met,p.1<K∧qz w0 (κ p.1) (E.α p.1)
 nd:(met.map (·.1)).Nodup
section
variable {w0 w:World}{G M K:Nat}{κ:Nat→HK}{E:Env}{g:mh}{bS:List Value}{nv:Value}
theorem qz.low {h:HK}{b:Nat}(x:qz w0 h b)(hb:Below w0.heap.size w0 w):qz w h b:=by
 obtain⟨c,hc⟩:=x;exact⟨c,(hb.block b (zae.1 hc).1).trans hc⟩
theorem Grown.refl (h:ez w0 w G M κ E g bS nv):Grown w0 w w G M κ E bS nv g:=⟨bS,nv,h,(Kp.refl G M w).a _,.inl rfl,λsv hs _ hb=> .inl ⟨sv,hs,hb⟩⟩
theorem ez.look (h:ez w0 w G M κ E g bS nv)(hm:gQ w0 K κ E g.met)(xk:∀i j,i<K→j<K→E.α i=E.α j→i=j){i:Nat}(hi:i<K)(hk:qz w0 (κ i) (E.α i)):(Instr.lookup 98 (.map (some M)) (kM (κ i) (E.α i)) true).run prog w=.ok (.tuple #[.int .i64 (((g.met.lookup i).getD 0:Nat):Int),.bool (g.met.lookup i).isSome]) w:=
 CN h.map i (hk.low h.low) (λp hp=>(hm.at_ p hp).2.low h.low) (λp hp e=>xk i p.1 hi (hm.at_ p hp).1 e) hm.nd
theorem ez.met (h:ez w0 w G M κ E g bS nv){i k:Nat}{o:Obj}(hm:ny { w with heap:=w.heap.setIfInBounds M o } M (CM κ E ((i,k)::g.met))):ez w0 { w with heap:=w.heap.setIfInBounds M o } G M κ E { g with met:=(i,k)::g.met } bS nv∧jP G M nv.ownBlock w { w with heap:=w.heap.setIfInBounds M o }:=by
 have ho:∀b,b≠M→(w.heap.setIfInBounds M o)[b]?=w.heap[b]?:=λb hb=>zan (λe=>hb e.symm);obtain⟨es,c,hM,-⟩:=h.map;refine⟨⟨h.gm,h.WX,h.WY,⟨h.low.os,h.low.tape,h.low.output,?_,λb hb=>?_⟩,(ho G h.gm).trans h.blk,?_,hm,h.len,λj x sv hx qF=>?_⟩,⟨rfl,rfl,rfl,by simp,λb _ _ b3 _=>ho b b3⟩⟩
 ·have:=h.low.size;simpa using this
 ·have:=h.WY;exact(ho b (by omega)).trans (h.low.block b hb)
 ·refine⟨h.row.1,h.row.2.imp id ?_⟩;rintro ⟨b,cp,cur,q1,q2,q3,q4⟩;exact⟨b,cp,cur,q1,q2,(ho b (λe=>by rw[e,hM]at q3;cases q3)).trans q3,q4⟩
 ·rcases h.subs j x sv hx qF with q|⟨b,q1,q2,q3⟩
  ·exact .inl q
  ·exact .inr ⟨b,q1,q2,(ho b (λe=>by rw[e,hM]at q3;cases q3)).trans q3⟩
theorem Grown.met {w1:World}{g1:mh}(h:Grown w0 w w1 G M κ E bS nv g1){i k:Nat}{o:Obj}(hm:ny { w1 with heap:=w1.heap.setIfInBounds M o } M (CM κ E ((i,k)::g1.met))):Grown w0 w { w1 with heap:=w1.heap.setIfInBounds M o } G M κ E bS nv { g1 with met:=(i,k)::g1.met }:=by
 obtain⟨xj,PC,h1,h2,h3,h4⟩:=h;obtain⟨k1,k2⟩:=h1.met hm;exact⟨xj,PC,k1,h2.put k2 h3,h3,h4⟩
theorem MC (h:ez w0 w G M κ E g bS nv)(hm:gQ w0 K κ E g.met)(xk:∀i j,i<K→j<K→E.α i=E.α j→i=j){i:Nat}{s:List UInt8}(hi:i<K)(hk:κ i=.txt)(hx:w0.heap[E.α i]?=some (.cells #[.string ⟨⟨s⟩⟩] 218))(hlen:g.nodes.length+1≤1000000):Calls prog 81 #[aH G,aH (E.α i)] w λe w'=>∃k g',(match g.met.lookup i with|some k=>some (k,g)|none=>some (g.nodes.length,⟨g.nodes++[⟨3,s,0,0,[]⟩],(i,g.nodes.length)::g.met⟩))=some (k,g')∧e=.returned (.int .i64 k)∧Grown w0 w w' G M κ E bS nv g':=by
 have hat:qz w0 (κ i) (E.α i):=by rw[hk];exact⟨_,hx⟩
 have cU:=h.look hm xk hi hat
 have hG:G<w.heap.size:=(zae.1 h.blk).1;obtain⟨g0,g1⟩:w.cell? ⟨G,0,none⟩=some nv∧w.cell? ⟨G,1,none⟩=some (.map (some M)):=by
  constructor<;>simp[World.cell?,h.blk]
 have hx1:=(h.low.block (E.α i) (zae.1 hx).1).trans hx;have x0:w.cell? ⟨E.α i,0,none⟩=some (.string ⟨⟨s⟩⟩):=by simp[World.cell?,hx1]
 cases hq:g.met.lookup i with
 |some k=>
  rw[hq,hk]at cU;simp only[zaD,Option.isSome_some]at cU;have HG:Hid _:=Grown.refl h;clear h hm hat hx hx1;unfold kM aH at cU;simp only[HK.p]at cU;unfold aH;go_enter func81,ntmps81;go_wp2_with fail;go_ret;exact⟨k,g,rfl,rfl,HG.out⟩
 |none=>
  rw[hq,hk]at cU;simp only[zbd,Option.isSome_none]at cU;have HC:Hid _:=kO h ⟨3,s,0,0,[]⟩ rfl hlen;have HM:Hid _:=hm;have UG:Hid _:=hat
  have HI:Hid _:=xk;clear h hm hat hx hx1 xk;unfold kM aH at cU;simp only[HK.p]at cU;unfold aH kn at HC;simp only at HC;unfold aH;go_enter func81,ntmps81;go_wp2_with fail;refine Calls.mono HC.out ?_;rintro e w1 ⟨rfl,hgr⟩;obtain⟨JC,SR,h1,-,-,-⟩:=id hgr;have MD:(g.add ⟨3,s,0,0,[]⟩).met=g.met:=rfl;obtain⟨o,hput,hmap⟩:=xf h1.map i g.nodes.length (qz.low UG.out h1.low) (λp hp=>qz.low (HM.out.at_ p hp).2 h1.low) (λp hp e=>HI.out i p.1 hi (HM.out.at_ p hp).1 e) HM.out.nd hq;have DW:Hid _:=Grown.met hgr hmap;obtain⟨y0,y1⟩:w1.cell? ⟨G,0,none⟩=some SR∧w1.cell? ⟨G,1,none⟩=some (.map (some M)):=by
   constructor<;>simp[World.cell?,h1.blk]
  clear hgr h1 hmap HC MD;rw[hk]at hput;unfold kM aH at hput;simp only[HK.p]at hput;go_wp2_with fail;go_ret;exact⟨g.nodes.length,_,rfl,rfl,DW.out⟩
end
end Go.Proofs.YtlhimdjkkiflhaaGreatDoor
namespace Go.Loop
open Go.Proofs.Tryz
def Dt.ql:Dt→Nat
 |.ck _ l=>l.ql+1
 |_=>0
def b8 (root:Dt):Dt→Bool
 |.ask m=>(aY m root).isSome&&(cO root 200000 (.ask m)).hd
 |.put n d=>(cO root 200000 (.put n d)).hd&&b8 root d
 |.pair _ a b=>b8 root a&&b8 root b
 |.vec _ l=>decide (l.ql≤1000)&&b8 root l
 |.ck a l=>b8 root a&&b8 root l
 |.sym s=>decide (s.length≤1000000)
 |_=>true
theorem iB {root:Dt}:∀{d:Dt},b8 root d=true→pC root d=true
 |.ask m,h=>by simp only[b8,zac]at h;exact h.1
 |.put n d,h=>by simp only[b8,zac]at h;exact iB (d:=d) h.2
 |.pair _ a b,h=>by simp only[b8,pC,zac]at h ⊢;exact⟨iB h.1,iB h.2⟩
 |.vec _ l,h=>by simp only[b8,zac]at h;exact iB (d:=l) h.2
 |.ck a l,h=>by simp only[b8,pC,zac]at h ⊢;exact⟨iB h.1,iB h.2⟩
 |.nil,_=>rfl
 |.sym _,_=>rfl
 |.num _ _,_=>rfl
 |.eT _,_=>rfl
 |.si _,_=>rfl
 |.txt _ _,_=>rfl
 |.fj,_=>rfl
theorem jm {root:Dt}{m:Int}:∀{r d:Dt},b8 root r=true→aY m r=some d→b8 root d=true
 |.put n x,d,h,hl=>by
  simp only[b8,zac]at h;unfold aY at hl;split at hl
  ·cases hl;exact h.2
  ·exact jm (r:=x) h.2 hl
 |.pair _ a b,d,h,hl=>by
  simp only[b8,zac]at h;unfold aY at hl;cases hq:aY m a with
  |some x=>rw[hq]at hl;cases hl;exact jm h.1 hq
  |none=>rw[hq]at hl;exact jm h.2 hl
 |.vec _ l,d,h,hl=>by
  simp only[b8,zac]at h;unfold aY at hl;exact jm (r:=l) h.2 hl
 |.ck a l,d,h,hl=>by
  simp only[b8,zac]at h;unfold aY at hl;cases hq:aY m a with
  |some x=>rw[hq]at hl;cases hl;exact jm h.1 hq
  |none=>rw[hq]at hl;exact jm h.2 hl
 |.nil,d,h,hl=>by simp[aY]at hl
 |.sym _,d,h,hl=>by simp[aY]at hl
 |.num _ _,d,h,hl=>by simp[aY]at hl
 |.eT _,d,h,hl=>by simp[aY]at hl
 |.si _,d,h,hl=>by simp[aY]at hl
 |.txt _ _,d,h,hl=>by simp[aY]at hl
 |.fj,d,h,hl=>by simp[aY]at hl
 |.ask _,d,h,hl=>by simp[aY]at hl
theorem oy {root:Dt}(hr:b8 root root=true):∀(f:Nat) (d:Dt),b8 root d=true→b8 root (cO root f d)=true
 |0,d,h=>h
 |f+1,.put n x,h=>by
  simp only[b8,zac]at h;exact oy hr f x h.2
 |f+1,.ask m,h=>by
  simp only[b8,zac]at h;obtain⟨d1,Fi⟩:=zbq.1 h.1;show b8 root (cO root f ((aY m root).getD .nil))=true;rw[Fi];exact oy hr f d1 (jm hr Fi)
 |f+1,.nil,h=>h
 |f+1,.sym _,h=>h
 |f+1,.num _ _,h=>h
 |f+1,.eT _,h=>h
 |f+1,.si _,h=>h
 |f+1,.txt _ _,h=>h
 |f+1,.pair _ _ _,h=>h
 |f+1,.vec _ _,h=>h
 |f+1,.fj,h=>h
 |f+1,.ck _ _,h=>h
theorem ml (root:Dt):∀n,(∀d g k g',kZ root n d g=some (k,g')→g.nodes.length≤g'.nodes.length)∧∀l acc g ks g',il root n l acc g=some (ks,g')→g.nodes.length≤g'.nodes.length
 |0=>⟨λd g k g' h=>by simp[kZ]at h,λl acc g ks g' h=>by simp[il]at h⟩
 |n+1=>by
  have ih:=ml root n;refine⟨λd g k g' h=>?_,λl acc g ks g' h=>?_⟩
  ·unfold kZ at h;split at h
   ·split at h
    ·cases h;exact zaa _
    ·obtain⟨y,hy,e⟩:=zam.1 h;cases e;have:=ih.2 _ _ _ _ _ hy;simp[di]at this ⊢;omega
   ·split at h
    ·cases h;exact zaa _
    ·obtain⟨y,hy,e⟩:=zam.1 h;cases e;have:=ih.2 _ _ _ _ _ hy;simp[di]at this ⊢;omega
   ·split at h
    ·cases h;exact zaa _
    ·cases h;simp
   all_goals (cases h;simp[mh.add])
  ·unfold il at h;split at h
   ·cases h;exact zaa _
   ·obtain⟨x,hx,e⟩:=zay.1 h;have:=ih.1 _ _ _ _ hx;have:=ih.2 _ _ _ _ _ e;omega
   ·cases h
end Go.Loop
namespace Go.Proofs.YtlhimdjkkiflhaaGreatDoor
open Go.Proofs.Tryz
open Go.RowKit Go.Loop
theorem ME:(prog.info? 3).map (λi=>(i.zero,i.size,i.bytes))=some (some (.int .i64 0),1,8):=by kernel_rfl
structure mU (w0:World) (lo K:Nat) (L:List Int) (κ:Nat→HK) (E:Env) (root:Dt):Prop where
 YN:∃rv,cz lo K L w0 E root rv
 good:b8 root root=true
 inj:∀i j,i<K→j<K→E.α i=E.α j→i=j
 kind:∀i h,i<K→qz w0 h (E.α i)→κ i=h
section
variable (w0:World)(lo K:Nat)(L:List Int)(κ:Nat→HK)(E:Env)(root:Dt)(G M:Nat)
def xl (n:Nat):Prop:=∀d v w g bS nv k g',cz lo K L w0 E d v→b8 root d=true→ez w0 w G M κ E g bS nv→gQ w0 K κ E g.met→kZ root n d g=some (k,g')→g'.nodes.length≤999999→Calls prog 48 #[aH G,v] w λe w'=>e=.returned (.int .i64 (k:Nat))∧Grown w0 w w' G M κ E bS nv g'∧gQ w0 K κ E g'.met
end
end Go.Proofs.YtlhimdjkkiflhaaGreatDoor
namespace Go.Proofs.YtlhimdjkkiflhaaGreatDoor
open Go.RowKit Go.Loop
theorem G8:∀(l:List pj) (bS:List Value) (i:Nat) (x:pj) (sv:Value),l[i]?=some x→bS[i]?=some sv→(uG l bS)[i*5+4]?=some sv
 |[],_,i,x,sv,h,_=>by simp at h
 |_::_,[],i,x,sv,_,h=>by simp at h
 |y::l,s::bS,0,x,sv,h,h2=>by
  simp at h h2;subst h h2;simp[uG,qE]
 |y::l,s::bS,i+1,x,sv,h,h2=>by
  have:=G8 l bS i x sv (by simpa using h) (by simpa using h2);rw[uG,zaK (by simp[qE];omega)];have e:(i+1)*5+4-(qE y s).length=i*5+4:=by simp[qE];omega
  rw[e];exact this
theorem G9:∀(l:List pj) (bS:List Value) (i:Nat) (ks:List Nat) (sv:Value),i<l.length→bS.length=l.length→uG (di l i ks) (bS.set i sv)=(uG l bS).set (i*5+4) sv
 |[],_,i,ks,sv,h,_=>by simp at h
 |_::_,[],i,ks,sv,_,h=>by simp at h
 |y::l,s::bS,0,ks,sv,_,_=>by
  simp[di,uG,qE]
 |y::l,s::bS,i+1,ks,sv,h,h2=>by
  have:=G9 l bS i ks sv (by simpa using h) (by simpa using h2);have e:di (y::l) (i+1) ks=y::di l i ks:=rfl;rw[e,List.set_cons_succ,uG,this,uG,List.set_append_right _ _ (by simp[qE];omega)];have e:(i+1)*5+4-(qE y s).length=i*5+4:=by simp[qE];omega
  rw[e]
theorem Fo {l:List pj}{i:Nat}{ks:List Nat}{j:Nat}{x:pj}(h:(di l i ks)[j]?=some x):(j=i∧x.subs=ks)∨(j≠i∧l[j]?=some x):=by
 unfold di at h;rw[List.getElem?_modify]at h;by_cases e:i=j
 ·subst e;simp at h;obtain⟨y,-,rfl⟩:=h;exact .inl ⟨rfl,rfl⟩
 ·simp[e]at h;exact .inr ⟨λq=>e q.symm,h⟩
section
variable {w0 w:World}{G M K:Nat}{κ:Nat→HK}{E:Env}{g:mh}{bS:List Value}{nv:Value}
theorem ez.sub (h:ez w0 w G M κ E g bS nv){i:Nat}(hi:i<g.nodes.length){ks:List Nat}{B:Nat}(hB:w0.heap.size≤B)(hblk:w.heap[B]?=some (.cells (ks.map λk:Nat=>Value.int .i64 (k:Int)).toArray 3)):∃nb cap,nv=.slice (some ⟨nb,0,none⟩) g.nodes.length cap∧(∃sv,w.cell? ⟨nb,i*5+4,none⟩=some sv)∧w.frozen? ⟨nb,i*5+4,none⟩=false∧ez w0 (w.setCell ⟨nb,i*5+4,none⟩ (.slice (some ⟨B,0,none⟩) ks.length ks.length)) G M κ E { g with nodes:=di g.nodes i ks } (bS.set i (.slice (some ⟨B,0,none⟩) ks.length ks.length)) nv∧jP G M nv.ownBlock w (w.setCell ⟨nb,i*5+4,none⟩ (.slice (some ⟨B,0,none⟩) ks.length ks.length)):=by
 obtain⟨es,c,hm,UE⟩:=h.map;rcases h.row.2 with⟨_,h0⟩|⟨nb,cap,cur,rfl,q1,q2,q3,q4,q5,q6⟩
 ·omega
 have qF:i<bS.length:=by rw[h.len];exact hi
 have hcell:w.cell? ⟨nb,i*5+4,none⟩=some bS[i]:=by
  have:=h.row.cells (g:=nb) rfl (i*5+4) _ (G8 _ _ i _ _ (zai hi) (zai qF));simpa[Addr.add]using this
 have ho:∀b,b≠nb→(w.setCell ⟨nb,i*5+4,none⟩ (.slice (some ⟨B,0,none⟩) ks.length ks.length)).heap[b]?=w.heap[b]?:=λb hb=>Below.heap_setCell _ _ _ _ hb;have nG:G≠nb:=λe=>by rw[←e,h.blk]at q2;simp at q2
 have nM:M≠nb:=λe=>by rw[←e,hm]at q2;simp at q2
 have abr:(w.setCell ⟨nb,i*5+4,none⟩ (.slice (some ⟨B,0,none⟩) ks.length ks.length)).heap[nb]?=some (.cells (cur.setIfInBounds (i*5+4) (.slice (some ⟨B,0,none⟩) ks.length ks.length)) 45):=ey q2 _ _;refine⟨nb,cap,rfl,⟨_,hcell⟩,by simp[World.frozen?,q2],⟨h.gm,h.WX,h.WY,⟨h.low.os,h.low.tape,h.low.output,by have:=h.low.size;simpa using this,λb hb=>(ho b (by omega)).trans (h.low.block b hb)⟩,(ho G nG).trans h.blk,?_,⟨es,c,(ho M nM).trans hm,UE⟩,by simp[di,h.len],λj x sv hx PE=>?_⟩,⟨rfl,rfl,rfl,by simp,λb _ _ _ b4=>ho b (λe=>b4 (by rw[e];rfl))⟩⟩
 ·have e1:(di g.nodes i ks).length=g.nodes.length:=by simp[di]
  show World.ownsRow _ _ _ _ _ (di g.nodes i ks).length (uG (di g.nodes i ks) _);rw[G9 _ _ _ _ _ hi h.len,e1];refine⟨by rw[List.length_set];exact h.row.1,.inr ⟨nb,cap,_,rfl,q1,abr,q3,q4,by simpa using q5,?_⟩⟩;rw[Array.toList_setIfInBounds,List.take_set,q6]
 ·rcases Fo hx with⟨rfl,hk⟩|⟨hne,Ab⟩
  ·rw[List.getElem?_set_self (by rw[h.len];exact hi)]at PE;cases PE;right;refine⟨B,by rw[hk],hB,?_⟩;rw[hk];exact(ho B (λe=>by rw[e,q2]at hblk;simp at hblk)).trans hblk
  ·rw[List.getElem?_set_ne (λe=>hne e.symm)]at PE;rcases h.subs j x sv Ab PE with q|⟨b,p1,p2,p3⟩
   ·exact .inl q
   ·exact .inr ⟨b,p1,p2,(ho b (λe=>by rw[e,q2]at p3;simp at p3)).trans p3⟩
end
end Go.Proofs.YtlhimdjkkiflhaaGreatDoor
namespace Go.Proofs.YtlhimdjkkiflhaaGreatDoor
open Go.Proofs.Tryz
open Go.RowKit Go.Loop
def cd:Code→Code
 |.seq _ y=>y
 |c=>c
section
variable {R M g cap:Nat}{T:List Tok}{dp:Nat}
theorem MF {n:Nat}(ih:IH R M g cap T dp n)(t:Tok)(p:Pl)(a0:Option Addr)(n0 c0:Nat)(w w1 w3:World)(E:Env)(s:eX)(r:RR Dt)(uZ:p.passed=false)(hl:¬t.n∈s.aN)(hd:p.depth+1≤dp∧p.ahead.length≤p.depth)(yc:dp≤30)(Mu:w.heap.size+1+1≤w1.heap.size)
 (hs3:w3.heap.size=w1.heap.size+2)(HE:Hid (r=(aM T dp n ⟨p.depth+1,p.passed,p.ahead++[t.n]⟩ { s with aN:=t.n::s.aN }).bind λd s=> .ok (.put t.n d) s))(HO:Hid (r≠.out))(zw:∀k,(Value.slice a0 n0 c0).ownBlock=some k→k<w.heap.size)(HlA:Hid (∀m∈p.ahead,m∈s.aN))
 (Mz:Hid (bZ w3 R M g cap T dp (E.label t.n (w1.heap.size+1)) { s with aN:=t.n::s.aN }))(HL3:Hid (w3.heap[w1.heap.size+1]?=some (.cells #[.nilIface] 215)))(N3:Hid (w3.heap[w1.heap.size]?=some (.cells #[.int .i64 ((p.depth:Int)+1),.bool false,.slice none 0 0] 128)))
 (My:Hid (w3.heap[w.heap.size+1]?=some (.cells #[.int .i64 p.depth,.bool false,.slice a0 n0 c0] 128)))(mS:Hid (w3.ownsRow 0 212 1 (.slice a0 n0 c0) p.ahead.length (p.ahead.map λm=>aH ((E.label t.n (w1.heap.size+1)).eL m))))(nE:Hid (Kp R M w w3))
 (x1 x2 x3 x4 x6 x7 x9 x11 x12 YV x14 x15 x16 x17 x18 x19 x20 x21 eA x23 x24 x25 x26 x27 x28 x29 x30 x31 x32 eE x34 eB x36 x37 x38 x39 x40 x41 x42 x43 x44 x45 x46 x47 x48 x49 x50 x51 x52 x53 x54 x55 x56 x57 x58 x59 x60 x61 x62 x63 x64 x65 x66:Value):
 (cd (cd (cd (cd (cd (cd (f160.body.getD .skip))))))).wp prog (bodyPost prog f160 λe w'=>j0 R M g cap T dp (Value.slice a0 n0 c0).ownBlock w E s r e w') ⟨#[.pointer (some ⟨R,0,none⟩),x1,x2,x3,x4,.pointer (some ⟨w.heap.size+1,0,none⟩),x6,x7,.pointer (some ⟨w1.heap.size,0,none⟩),x9,.pointer (some ⟨w1.heap.size+1,0,none⟩),x11,x12,YV,x14,x15,x16,x17,x18,x19,x20,x21,eA,x23,x24,x25,x26,x27,x28,x29,x30,x31,x32,eE,x34,eB,x36,x37,x38,x39,x40,x41,x42,x43,x44,x45,x46,x47,x48,x49,x50,x51,x52,x53,x54,x55,x56,x57,x58,x59,x60,x61,x62,x63,x64,x65,x66],[]⟩ w3:=by
 have mixed:prog.follows Departure.mixedOrders=true:=by kernel_rfl
 obtain⟨q0,q1,q2⟩:=fL My.out;obtain⟨z0,z1,z2⟩:=fL N3.out;have hf3:w3.frozen? ⟨w1.heap.size,2,none⟩=false:=by simp[World.frozen?,N3.out]
 obtain⟨i0,hi,hz0,hz1,hz2⟩:=info_parts Jo;have hlen:p.ahead.length+1≤1000000:=by omega
 have JD:Hid _:=ih;have HS3:Hid _:=hs3;clear ih hs3;dsimp only[f160,cd,Option.getD];go_wp2_with (at_builtin;(refine iq rfl _ _ 126 rfl 0 212 i0 (.pointer none) 8 Jw hi hz0 hz1 hz2 (by decide) rfl (.slice a0 n0 c0) p.ahead.length (p.ahead.map λm=>aH ((E.label t.n (w1.heap.size+1)).eL m)) rfl (World.ownsRow.alloc mS.out _) ⟨w3.heap.size,0,none⟩ 1 1 [aH (w1.heap.size+1)] rfl (by decide) rfl ?c1 ?c2 ?c3 ?c4 ?_))
 case c1=>
  intro j u hj
  match j,hj with
  |0,hj=>simp at hj;subst hj;simp[Addr.add,aH]
 case c2=>intro u hu;simp at hu;subst hu;rfl
 case c3=>exact hlen
 case c4=>exact zaj _
 intro v' w4 hown' hgrow lH;have hs3:=HS3.out;obtain⟨hr4,hk4,hb4,Kj⟩:=Jx Mz.out mS.out hgrow
 skip
 have LW:=(hb4 w1.heap.size (by omega) (λe=>by have:=zw _ e.symm;omega)).trans N3.out;have hL4:=(hb4 (w1.heap.size+1) (by omega) (λe=>by have:=zw _ e.symm;omega)).trans HL3.out;obtain⟨a1,c1,rfl⟩:=bQ hown';have SK:Hid (bZ (w4.setCell ⟨w1.heap.size,2,none⟩ (.slice a1 (p.ahead.length+1) c1)) R M g cap T dp (E.label t.n (w1.heap.size+1)) { s with aN:=t.n::s.aN }):=bZ.place hr4 LW 2 _;have HA5:Hid (iZ (w4.setCell ⟨w1.heap.size,2,none⟩ (.slice a1 (p.ahead.length+1) c1)) (E.label t.n (w1.heap.size+1)) { s with aN:=t.n::s.aN } (p.ahead++[t.n]) (.slice a1 (p.ahead.length+1) c1)):=iZ.more hown' LW HlA.out _;have hL5:(w4.setCell ⟨w1.heap.size,2,none⟩ (.slice a1 (p.ahead.length+1) c1)).heap[w1.heap.size+1]?=some (.cells #[.nilIface] 215):=(Below.heap_setCell _ _ _ _ (by show w1.heap.size+1≠w1.heap.size;omega)).trans hL4;have WD:(w4.setCell ⟨w1.heap.size,2,none⟩ (.slice a1 (p.ahead.length+1) c1)).heap[w1.heap.size]?=some (.cells #[.int .i64 ((p.depth:Int)+1),.bool false,.slice a1 (p.ahead.length+1) c1] 128):=ey LW 2 _;have DV:Hid (jP R M (Value.slice a0 n0 c0).ownBlock w (w4.setCell ⟨w1.heap.size,2,none⟩ (.slice a1 (p.ahead.length+1) c1))):=by
  exact jP.above (((nE.out).a _).trans hk4) (by omega) 2 _
 have hv5:(Value.slice a1 (p.ahead.length+1) c1).ownBlock=(Value.slice a0 n0 c0).ownBlock∨∃k,(Value.slice a1 (p.ahead.length+1) c1).ownBlock=some k∧w.heap.size≤k:=lH.imp id λ⟨k,k1,k2⟩=>⟨k,k1,by have k3:w3.heap.size≤k:=zad (by simp) k2;omega⟩;have UB:Hid _:=hv5;have HL5:Hid _:=hL5;have hne:aM T dp n ⟨p.depth+1,false,p.ahead++[t.n]⟩ { s with aN:=t.n::s.aN }≠.out:=λh=>HO.out (by rw[HE.out,uZ,h];rfl);have HD:Hid _:=JD.out.datum ⟨p.depth+1,false,p.ahead++[t.n]⟩ (.slice a1 (p.ahead.length+1) c1) _ _ _ SK.out HA5.out ⟨hd.1,by show(p.ahead++[t.n]).length≤_;rw[zaw];have:=hd.2;simp;omega⟩ hne;obtain⟨y0,y1,y2⟩:=fL WD;have hf4:w4.frozen? ⟨w1.heap.size,2,none⟩=false:=by simp[World.frozen?,LW]
 obtain⟨u0,u1,u2⟩:=fL LW;have hs5:(w4.setCell ⟨w1.heap.size,2,none⟩ (.slice a1 (p.ahead.length+1) c1)).heap.size=w4.heap.size:=by simp
 clear hr4 hk4 hb4 LW hL4 hL5 WD hown' hgrow lH hv5 hne JD Mz mS My N3 HL3 nE;unfold gX aH at HD;go_wp2_with fail;refine Calls.mono HD.out ?_;clear HD;intro e w6 cC;cases hF:aM T dp n ⟨p.depth+1,false,p.ahead++[t.n]⟩ { s with aN:=t.n::s.aN } with
 |out=>exact absurd (by rw[HE.out,uZ,hF];rfl) HO.out
 |fail er a=>
  rw[hF]at cC;obtain⟨⟨b,rfl,hf⟩,Kr⟩:=cC;have HG:Hid (j0 R M g cap T dp (Value.slice a0 n0 c0).ownBlock w E s (RR.fail er a) (.returned (.tuple #[.nilIface,aH b])) w6):=⟨⟨b,rfl,hf⟩,jP.put DV.out Kr UB.out⟩;have jK:Hid (r=.fail er a):=by show _=_;rw[HE.out,uZ,hF];rfl
  clear hf Kr DV UB HL5 SK HA5;unfold aH;go_wp2_with fail;go_ret2;rw[jK.out];exact HG.out
 |ok d s2=>
  rw[hF]at cC;obtain⟨v,E2,rfl,⟨ty,y,rfl⟩,cH,hx2,hr2,hk2⟩:=cC;obtain⟨hl6,hG⟩:=Pz DV.out (by omega) HL5.out HA5.out.1 UB.out SK.out hl ⟨ty,y,rfl⟩ cH hx2 hr2 hk2;have HG:Hid _:=hG;have jK:Hid (r=.ok (.put t.n d) s2):=by show _=_;rw[HE.out,uZ,hF];rfl
  have c0:w6.cell? ⟨w1.heap.size+1,0,none⟩=some .nilIface:=by simp[World.cell?,hl6]
  have f0:w6.frozen? ⟨w1.heap.size+1,0,none⟩=false:=by simp[World.frozen?,hl6]
  clear cH hx2 hr2 hk2 DV UB HL5 SK HA5 hl6 hG;go_wp2_with fail;go_ret2;rw[jK.out];exact HG.out
end
end Go.Proofs.YtlhimdjkkiflhaaGreatDoor
