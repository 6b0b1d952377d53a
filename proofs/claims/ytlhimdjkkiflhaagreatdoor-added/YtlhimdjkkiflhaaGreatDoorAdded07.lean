import Derived.Deep.OwnRows
import Derived.Deep.Cut
import Derived.Deep.RegionWith
import Derived.OwnWalk
import Derived.Laws.ResultCell
import Derived.Test.YtlhimdjkkiflhaaGreatDoorAdded06
set_option maxHeartbeats 8000000
set_option maxRecDepth 100000
open Go.Value renaming int→Γ
open Go.IntKind renaming i64→Δ
open Go renaming undef→Θ,World→Ξ,Value→Φ,Calls→Ω,Frame→θ,TypeId→ξ,madeCells→π,Program→υ,maxLen→φ,FuncId→ω
open Go.Instr renaming typeAssert→Λ
open Option renaming getD→ζ
open Go.RowKit renaming Below→η
open Go.Departure renaming mixedOrders→ι
open Array renaming replicate→χ
open Go.Addr renaming add→ψ
namespace Go.Proofs.YtlhimdjkkiflhaaGreatDoor
open Go.Proofs.Tryz
open Go.RowKit Go.Loop
section
variable {w0 w:Ξ}{G M:Nat}{κ:Nat→HK}{E:Env}{g:mO}{bC:List Φ}{nv:Φ}
def RY (w:Ξ)(bC zX:List Φ):Prop:=∀sv∈zX,∀b,sv.ownBlock=some b→(∃sv0∈bC,sv0.ownBlock=some b)∨w.heap.size≤b
def Grown (w0 w w':Ξ)(G M:Nat)(κ:Nat→HK)(E:Env)(bC:List Φ)(nv:Φ)(g':mO):Prop:=
 ∃zX WC,dS w0 w' G M κ E g' zX WC∧kZ G M nv.ownBlock w w'∧(WC.ownBlock=nv.ownBlock∨∃b,WC.ownBlock=some b∧w.heap.size≤b)∧RY w bC zX
def kO (x:mb):Φ:= .agg #[Γ Δ x.kind,.string ⟨⟨x.text⟩⟩,Γ Δ x.n,Γ Δ x.d,.slice none 0 0]
theorem dS.vQ (h:dS w0 w G M κ E g bC nv)(b:Nat)(o:Obj)(hb:w.heap[b]?=some o)(ho:∀cur,o≠.cells cur 45):some b≠nv.ownBlock:=by
 intro e;rcases h.row.2 with⟨rfl,_⟩|⟨c,cap,cur,rfl,_,hg,_⟩
 ·cases e
 ·have:b=c:=by cases e;rfl
  rw[this,hg]at hb;exact ho cur (by cases hb;rfl)
theorem Oq (h:dS w0 w G M κ E g bC nv)(x:mb)(hx:x.subs=[]){w1 w4:Ξ}{v':Φ}(hb1:η w.heap.size w w1)(hrow:w4.ownsRow w0.heap.size 45 5 v' (g.nodes.length+1) (xC g.nodes bC++sS x (.slice none 0 0)))(hg:w1.grownBy w4 nv.ownBlock)
 (nB:v'.ownBlock=nv.ownBlock∨∃k,v'.ownBlock=some k∧w1.heap.size≤k):
 w4.heap[G]?=some (.cells #[nv,.map (some M)] 100)∧Grown w0 w (w4.setCell ⟨G,0,none⟩ v') G M κ E bC nv (g.add x):=by
 have hs1:=hb1.size;have Re:=hg.size;have hb:∀b,b<w.heap.size→some b≠nv.ownBlock→w4.heap[b]?=w.heap[b]?:=λb h1 h2=>(hg.block b (by omega) h2).trans (hb1.block b h1);have hG:G<w.heap.size:=(zaf.1 h.blk).1;obtain⟨es,c,hm,hme⟩:=h.map;have hM:M<w.heap.size:=(zaf.1 hm).1;have qG:=h.vQ G _ h.blk (λcur e=>by simp at e);have qM:=h.vQ M _ hm (λcur e=>by simp at e);have h4:w4.heap[G]?=some (.cells #[nv,.map (some M)] 100):=(hb G hG qG).trans h.blk;have ho:∀b,b≠G→(w4.setCell ⟨G,0,none⟩ v').heap[b]?=w4.heap[b]?:=λb hb=>zau _ _ _ _ hb;have CP:∀b,nv.ownBlock=some b→w0.heap.size≤b:=λb hb=>(h.row.lt b hb).1;refine⟨h4,bC++[.slice none 0 0],v',⟨h.gm,h.glo,h.mlo,⟨hg.os.trans (hb1.os.trans h.low.os),hg.tape.trans (hb1.tape.trans h.low.tape),hg.output.trans (hb1.output.trans h.low.output),?_,λb b1=>?_⟩,eC h4 0 v',?_,?_,?_,λj y sv hy sT=>?_⟩,⟨hg.os.trans hb1.os,hg.tape.trans hb1.tape,hg.output.trans hb1.output,?_,λb b1 b2 _ b4=>(ho b b2).trans (hb b b1 b4)⟩,nB.imp id (λ⟨k,k1,k2⟩=>⟨k,k1,by omega⟩),λsv sT b hb=>?_⟩
 ·have:=h.low.size;simp;omega
 ·have:=h.glo;have hl:=h.low.size;rw[ho b (by omega),hb b (by omega) (λe=>by have:=CP b e.symm;omega)];exact h.low.block b b1
 ·have e:xC (g.add x).nodes (bC++[.slice none 0 0])=xC g.nodes bC++sS x (.slice none 0 0):=G9 _ _ _ _ h.len;have e2:(g.add x).nodes.length=g.nodes.length+1:=by simp[mO.add]
  rw[e,e2];refine⟨hrow.1,hrow.2.imp id ?_⟩;rintro ⟨b,cp,cur,q1,q2,q3,q4⟩;exact⟨b,cp,cur,q1,q2,(ho b (λe=>by rw[e,h4]at q3;simp at q3)).trans q3,q4⟩
 ·exact⟨es,c,(ho M (λe=>h.gm e.symm)).trans ((hb M hM qM).trans hm),hme⟩
 ·simp[mO.add,h.len]
 ·simp only[mO.add]at hy;rcases zay j g.nodes.length with hj|hj
  ·rw[zbF hj]at hy;rw[zbF (by rw[h.len];exact hj)]at sT;rcases h.subs j y sv hy sT with q|⟨b,q1,q2,q3⟩
   ·exact .inl q
   ·refine .inr ⟨b,q1,q2,?_⟩;rw[ho b (λe=>by rw[e,h.blk]at q3;simp at q3),hb b (zaf.1 q3).1 (h.vQ b _ q3 (λcur e=>by simp at e))];exact q3
  ·have ej:j=g.nodes.length:=by
    have:=(zbV.1 hy).1;simp at this;omega
   subst ej;rw[zbw (zab _)]at hy;rw[zbw (by rw[h.len];exact zab _),h.len]at sT;simp at hy sT;subst hy sT;exact .inl ⟨rfl,hx⟩
 ·simp;omega
 ·rcases zbm.1 sT with h1|h1
  ·exact .inl ⟨sv,h1,hb⟩
  ·simp at h1;subst h1;cases hb
theorem WD (h:dS w0 w G M κ E g bC nv)(x:mb)(hx:x.subs=[]){w1 w4:Ξ}{v':Φ}(hb1:η w.heap.size w w1)(hrow:w4.ownsRow w0.heap.size 45 5 v' (g.nodes.length+1) (xC g.nodes bC++sS x (.slice none 0 0)))(hg:w1.grownBy w4 nv.ownBlock)
 (nB:v'.ownBlock=nv.ownBlock∨∃k,v'.ownBlock=some k∧w1.heap.size≤k):
 ∃a1 c1,v'=.slice a1 (g.nodes.length+1) c1∧w4.cell? ⟨G,0,none⟩=some nv∧w4.frozen? ⟨G,0,none⟩=false∧Hid (Grown w0 w (w4.setCell ⟨G,0,none⟩ v') G M κ E bC nv (g.add x)):=by
 obtain⟨h4,hgr⟩:=Oq h x hx hb1 hrow hg nB;obtain⟨a1,c1,e⟩:=bq hrow;exact⟨a1,c1,e,by simp[Ξ.cell?,h4],by simp[Ξ.frozen?,h4],hgr⟩
theorem Ot {W:Ξ}{b:Nat}{x:mb}{t:ξ}(h:W.heap[b]?=some (.cells #[Γ Δ x.kind,.string ⟨⟨x.text⟩⟩,Γ Δ x.n,Γ Δ x.d,.slice none 0 0] t))(j:Nat)(u:Φ)(hu:(sS x (.slice none 0 0))[j]?=some u):W.cell? ((⟨b,0,none⟩:Addr).add j)=some u:=by
 match j,hu with
 |0,hu=>simpa[Ξ.cell?,ψ,h,sS]using hu
 |1,hu=>simpa[Ξ.cell?,ψ,h,sS]using hu
 |2,hu=>simpa[Ξ.cell?,ψ,h,sS]using hu
 |3,hu=>simpa[Ξ.cell?,ψ,h,sS]using hu
 |4,hu=>simpa[Ξ.cell?,ψ,h,sS]using hu
 |j+5,hu=>simp[sS]at hu
theorem lI (h:dS w0 w G M κ E g bC nv)(x:mb)(hx:x.subs=[])(hlen:g.nodes.length+1≤1000000):Ω prog 82 #[aq G,kO x] w λe w'=>e=.returned (Γ Δ g.nodes.length)∧Grown w0 w w' G M κ E bC nv (g.add x):=by
 have mixed:prog.follows ι=true:=by kernel_rfl
 have hG:G<w.heap.size:=(zaf.1 h.blk).1;obtain⟨a0,c0,rfl⟩:=bq h.row;obtain⟨g0,g1⟩:w.cell? ⟨G,0,none⟩=some (.slice a0 g.nodes.length c0)∧w.cell? ⟨G,1,none⟩=some (.map (some M)):=by
  constructor<;>simp[Ξ.cell?,h.blk]
 obtain⟨i0,hi,hz0,hz1,hz2⟩:=info_parts Oo;have HG:Hid _:=h;have e1:¬G=w.heap.size:=by omega
 have e2:¬G=w.heap.size+1:=by omega
 have e3:G<w.heap.size+1:=by omega
 have hb1:η w.heap.size w (((w.alloc (.cells #[Γ Δ x.kind,.string ⟨⟨x.text⟩⟩,Γ Δ x.n,Γ Δ x.d,.slice none 0 0] 45)).alloc (.cells #[Γ Δ x.kind,.string ⟨⟨x.text⟩⟩,Γ Δ x.n,Γ Δ x.d,.slice none 0 0] 45)).drew):=(((zad _ _).alloc (zab _) _).alloc (by simp) _).drew;have je:Hid _:=hb1;have oD:Hid ((((w.alloc (.cells #[Γ Δ x.kind,.string ⟨⟨x.text⟩⟩,Γ Δ x.n,Γ Δ x.d,.slice none 0 0] 45)).alloc (.cells #[Γ Δ x.kind,.string ⟨⟨x.text⟩⟩,Γ Δ x.n,Γ Δ x.d,.slice none 0 0] 45)).drew).ownsRow w0.heap.size 45 5 (.slice a0 g.nodes.length c0) g.nodes.length (xC g.nodes bC)):=aX h.row (zab _) λb _ hb=>hb1.block b hb;have aab:Hid (∀(j:Nat) u,(sS x (.slice none 0 0))[j]?=some u→(((w.alloc (.cells #[Γ Δ x.kind,.string ⟨⟨x.text⟩⟩,Γ Δ x.n,Γ Δ x.d,.slice none 0 0] 45)).alloc (.cells #[Γ Δ x.kind,.string ⟨⟨x.text⟩⟩,Γ Δ x.n,Γ Δ x.d,.slice none 0 0] 45)).drew).cell? ((⟨w.heap.size+1,0,none⟩:Addr).add j)=some u):=Ot (dM w _ _);have aew:Hid (∀u∈sS x (.slice none 0 0),u.oneCell'=true):=λu hu=>by
  simp[sS]at hu;rcases hu with rfl|rfl|rfl|rfl|rfl<;>rfl
 have ab6:Hid (w0.heap.size≤(((w.alloc (.cells #[Γ Δ x.kind,.string ⟨⟨x.text⟩⟩,Γ Δ x.n,Γ Δ x.d,.slice none 0 0] 45)).alloc (.cells #[Γ Δ x.kind,.string ⟨⟨x.text⟩⟩,Γ Δ x.n,Γ Δ x.d,.slice none 0 0] 45)).drew).heap.size):=zah h.low.size hb1.size;clear h hb1;unfold aq kO;go_enter func82,ntmps82;go_wp2_with fail
 go_region_law (refine vP rfl (.tmp 9) (.tmp 11) 28 rfl w0.heap.size 45 i0 _ 5 64 Kz hi hz0 hz1 hz2 (by decide) (by decide) rfl (.slice a0 g.nodes.length c0) g.nodes.length (xC g.nodes bC) rfl oD.out ⟨w.heap.size+1,0,none⟩ 1 1 (sS x (.slice none 0 0)) rfl (by decide) rfl aab.out aew.out hlen ab6.out ?_;intro v' w4 hown' hgrow nB;obtain⟨a1,c1,rfl,c4,f4,Jo⟩:=WD HG.out x hx je.out hown' hgrow nB;clear hown' hgrow nB)
 all_goals
  go_wp2_with fail;go_ret;exact⟨rfl,Jo.out⟩
end
end Go.Proofs.YtlhimdjkkiflhaaGreatDoor
namespace Go.Loop
open Go.Proofs.Tryz
def rA (root:Dt):Dt→Bool
 |.ask m=>(bP m root).isSome
 |.put _ d=>rA root d
 |.pair _ a b=>rA root a&&rA root b
 |.vec _ l=>rA root l
 |.cD a l=>rA root a&&rA root l
 |_=>true
theorem lJ {root:Dt}{m:Int}:∀{r d:Dt},rA root r=true→bP m r=some d→rA root d=true
 |.put n x,d,h,hl=>by
  unfold bP at hl;split at hl
  ·cases hl;exact h
  ·exact lJ (r:=x) h hl
 |.pair _ a b,d,h,hl=>by
  simp only[rA,zaj]at h;unfold bP at hl;cases hq:bP m a with
  |some x=>rw[hq]at hl;cases hl;exact lJ h.1 hq
  |none=>rw[hq]at hl;exact lJ h.2 hl
 |.vec _ l,d,h,hl=>by
  unfold bP at hl;exact lJ (r:=l) h hl
 |.cD a l,d,h,hl=>by
  simp only[rA,zaj]at h;unfold bP at hl;cases hq:bP m a with
  |some x=>rw[hq]at hl;cases hl;exact lJ h.1 hq
  |none=>rw[hq]at hl;exact lJ h.2 hl
 |.nil,d,h,hl=>by simp[bP]at hl
 |.sym _,d,h,hl=>by simp[bP]at hl
 |.num _ _,d,h,hl=>by simp[bP]at hl
 |.cU _,d,h,hl=>by simp[bP]at hl
 |.sQ _,d,h,hl=>by simp[bP]at hl
 |.txt _ _,d,h,hl=>by simp[bP]at hl
 |.gJ,d,h,hl=>by simp[bP]at hl
 |.ask _,d,h,hl=>by simp[bP]at hl
theorem gB {root:Dt}{d:Dt}(h:d.hd=true)(f:Nat):bN root f d=d:=by
 cases f with
 |zero=>rfl
 |succ f=>cases d<;>first|rfl|(simp[Dt.hd]at h)
theorem KA {Q:Nat→Prop}(h:∃n,Q n):∃n,Q n∧∀m,Q m→n≤m:=by
 obtain⟨n,hn⟩:=h
 induction n using Nat.strongRecOn with
 |_ n ih=>
  by_cases e:∃m,m<n∧Q m
  ·obtain⟨m,h1,h2⟩:=e;exact ih m h1 h2
  ·exact⟨n,hn,λm hm=>Nat.le_of_not_lt λhlt=>e ⟨m,hlt,hm⟩⟩
end Go.Loop
namespace Go.Proofs.YtlhimdjkkiflhaaGreatDoor
open Go.Proofs.Tryz
open Go.RowKit Go.Loop
section
variable {lo K:Nat}{L:List Int}{w:Ξ}{E:Env}
mutual
theorem bf.eG {m:Int}:∀{r d:Dt} {v:Φ},bf lo K L w E r v→bP m r=some d→∃v',w.heap[E.eG m]?=some (.cells #[v'] 215)∧bf lo K L w E d v'
 |.put n x,d,v,h,hl=>by
  unfold bf at h;unfold bP at hl;split at hl
  ·rename_i e;subst e;cases hl;exact⟨v,h.2.2.1,h.2.2.2⟩
  ·exact bf.eG h.2.2.2 hl
 |.pair _ a b,d,v,h,hl=>by
  unfold bf at h;obtain⟨_,_,_,va,vb,_,h1,h2⟩:=h;unfold bP at hl;cases hq:bP m a with
  |some x=>rw[hq]at hl;cases hl;exact bf.eG h1 hq
  |none=>rw[hq]at hl;exact bf.eG h2 hl
 |.vec _ l,d,v,h,hl=>by
  unfold bf at h;obtain⟨_,_,_,sl,vs,_,_,h1⟩:=h;unfold bP at hl;exact cX.eG h1 hl
 |.cD a l,d,v,h,hl=>by unfold bf at h;exact h.elim
 |.nil,d,v,h,hl=>by simp[bP]at hl
 |.sym _,d,v,h,hl=>by simp[bP]at hl
 |.num _ _,d,v,h,hl=>by simp[bP]at hl
 |.cU _,d,v,h,hl=>by simp[bP]at hl
 |.sQ _,d,v,h,hl=>by simp[bP]at hl
 |.txt _ _,d,v,h,hl=>by simp[bP]at hl
 |.gJ,d,v,h,hl=>by simp[bP]at hl
 |.ask _,d,v,h,hl=>by simp[bP]at hl
theorem cX.eG {m:Int}:∀{r d:Dt} {vs:List Φ},cX lo K L w E r vs→bP m r=some d→∃v',w.heap[E.eG m]?=some (.cells #[v'] 215)∧bf lo K L w E d v'
 |.cD a l,d,vs,h,hl=>by
  unfold cX at h;obtain⟨v,r,_,h1,h2⟩:=h;unfold bP at hl;cases hq:bP m a with
  |some x=>rw[hq]at hl;cases hl;exact bf.eG h1 hq
  |none=>rw[hq]at hl;exact cX.eG h2 hl
 |.gJ,d,v,h,hl=>by simp[bP]at hl
 |.put _ _,d,v,h,hl=>by unfold cX at h;exact h.elim
 |.pair _ _ _,d,v,h,hl=>by unfold cX at h;exact h.elim
 |.vec _ _,d,v,h,hl=>by unfold cX at h;exact h.elim
 |.nil,d,v,h,hl=>by simp[bP]at hl
 |.sym _,d,v,h,hl=>by simp[bP]at hl
 |.num _ _,d,v,h,hl=>by simp[bP]at hl
 |.cU _,d,v,h,hl=>by simp[bP]at hl
 |.sQ _,d,v,h,hl=>by simp[bP]at hl
 |.txt _ _,d,v,h,hl=>by simp[bP]at hl
 |.ask _,d,v,h,hl=>by simp[bP]at hl
end
section
variable {P:υ}
def eW (P:υ)(A:ξ):Bool:=(P.underlying A).any λd=>match d with|.interface _=>false|_=>true
theorem bA {A x:ξ}{v:Φ}(w:Ξ)(hu:eW P A=true):(Λ (.iface A v) x A true).run P w=.ok (.tuple #[v,.bool true]) w:=by
 unfold eW at hu;cases hq:P.underlying A with
 |none=>rw[hq]at hu;cases hu
 |some d=>
  rw[hq]at hu;cases d<;>first|(simp at hu;done)|simp[Λ,run_underlying hq]
theorem ai {t A x:ξ}{v z:Φ}(w:Ξ)(hu:eW P A=true)(hz:(P.info? A).bind (·.zero)=some z)(h:t≠A):(Λ (.iface t v) x A true).run P w=.ok (.tuple #[z,.bool false]) w:=by
 unfold eW at hu;cases hi:P.info? A with
 |none=>rw[hi]at hz;cases hz
 |some i=>
  rw[hi]at hz;have hz':i.zero=some z:=hz;cases hq:P.underlying A with
  |none=>rw[hq]at hu;cases hu
  |some d=>
   rw[hq]at hu;cases d<;>first|(simp at hu;done)|simp[Λ,run_underlying hq,h,zeroValue,typeInfo,hi,hz']
end
theorem iR:eW prog 212=true:=by kernel_rfl
theorem mf:(prog.info? 212).bind (·.zero)=some (.pointer none):=by kernel_rfl
def rR (lo K:Nat)(L:List Int)(w:Ξ)(E:Env)(root t:Dt)(f:Nat)(v:Φ):Prop:=∃d,bf lo K L w E d v∧bN root f d=t∧rA root d=true
theorem CQ {w0:Ξ}(dP:η w0.heap.size w0 w){root:Dt}{rv:Φ}(nE:bf lo K L w0 E root rv)(Et:rA root root=true)(f:Nat)(d:Dt)(v:Φ)(hd:bf lo K L w0 E d v)(ha:rA root d=true)(hh:(bN root f d).hd=true):Ω prog 78 #[v] w λe w'=>∃v',e=.returned v'∧w'=w∧bf lo K L w0 E (bN root f d) v':=by
 generalize ht:bN root f d=t at *;obtain⟨μ,hμ⟩:∃μ:Φ→Nat,∀x,(∃n,rR lo K L w0 E root t n x)→rR lo K L w0 E root t (μ x) x∧∀m,rR lo K L w0 E root t m x→μ x≤m:=by
  have hex:∀x,∃k,(∃n,rR lo K L w0 E root t n x)→rR lo K L w0 E root t k x∧∀m,rR lo K L w0 E root t m x→k≤m:=λx=>by
   by_cases e:∃n,rR lo K L w0 E root t n x
   ·obtain⟨n,h1⟩:=KA e;exact⟨n,λ_=>h1⟩
   ·exact⟨0,λh=>absurd h e⟩
  exact⟨λx=>Classical.choose (hex x),λx=>zaR (hex x)⟩
 have H0:Hid (∃n,rR lo K L w0 E root t n v):=⟨f,d,hd,ht,ha⟩;have HM:Hid _:=hμ;have HRT:Hid _:=nE;have HAS:Hid _:=Et;have HLO:Hid _:=dP;clear dP hμ nE Et hd ht ha d f;go_enter func78,ntmps78;go_wp2_with fail;go_loopw [0] (λsv wr=>wr=w∧Hid (∃n,rR lo K L w0 E root t n sv)) (λsv _=>μ sv)
 case atStart=>exact⟨rfl,H0.out⟩
 case round=>
  obtain⟨rfl,HX⟩:=hrel;obtain⟨⟨d,hd,hm,ha⟩,BR⟩:=HM.out _ HX.out;cases d with
  |gJ=>unfold bf at hd;exact hd.elim
  |cD a l=>unfold bf at hd;exact hd.elim
  |put n x=>
   exfalso;cases hf:μ u0 with
   |zero=>rw[hf]at hm;have:(Dt.put n x).hd=true:=by rw[←hh,←hm];rfl
          simp[Dt.hd]at this
   |succ k=>
    rw[hf]at hm;unfold bf at hd;have:=BR k ⟨x,hd.2.2.2,hm,ha⟩;omega
  |ask m=>
   cases hf:μ u0 with
   |zero=>rw[hf]at hm;have:(Dt.ask m).hd=true:=by rw[←hh,←hm];rfl
          simp[Dt.hd]at this
   |succ k=>
    rw[hf]at hm;have ha':(bP m root).isSome=true:=ha;obtain⟨d1,Fo⟩:=zcy.1 ha';obtain⟨v1,Mi,Yl⟩:=bf.eG HRT.out Fo
    have VJ:bN root k d1=t:=by have e:bN root (k+1) (.ask m)=bN root k ((bP m root).getD .nil):=rfl
                               rw[e,Fo]at hm;exact hm
    have HON:Hid (rR lo K L w0 E root t k v1):=⟨d1,Yl,VJ,lJ HAS.out Fo⟩;have hlt:=(HM.out v1 ⟨k,HON.out⟩).2 k HON.out;unfold bf at hd;obtain⟨-,rfl⟩:=hd;have hv2:=(HLO.out.block _ (zaf.1 Mi).1).trans Mi;have c0:wr.cell? ⟨E.eG m,0,none⟩=some v1:=by simp[Ξ.cell?,hv2]
    have Fp:(Λ (.iface 212 (.pointer (some ⟨E.eG m,0,none⟩))) 58 212 true).run prog wr=_:=bA wr iR;clear hm BR ha Yl VJ Mi hv2 ha' Fo;unfold aq at *;go_wp2_with fail;exact⟨⟨trivial,⟨k,HON.out⟩⟩,by rw[hf];omega⟩
  |nil=>
   have HD:Hid (t=.nil):=by show _=_;rw[←hm];exact gB rfl _
   unfold bf at hd;subst hd;have Fp:(Λ (.iface 272 (.agg #[])) 58 212 true).run prog wr=_:=ai wr iR mf (by decide);clear hm BR ha;go_wp2_with fail;go_ret;exact⟨_,rfl,rfl,by rw[HD.out];unfold bf;rfl⟩
  |sym s=>
   have HD:Hid (t=.sym s):=by show _=_;rw[←hm];exact gB rfl _
   unfold bf at hd;subst hd;have Fp:(Λ (.iface 168 (.agg #[.string ⟨⟨s⟩⟩])) 58 212 true).run prog wr=_:=ai wr iR mf (by decide);clear hm BR ha;go_wp2_with fail;go_ret;exact⟨_,rfl,rfl,by rw[HD.out];unfold bf;rfl⟩
  |num a b=>
   have HD:Hid (t=.num a b):=by show _=_;rw[←hm];exact gB rfl _
   unfold bf at hd;subst hd;have Fp:(Λ (.iface 153 (.agg #[Γ Δ a,Γ Δ b])) 58 212 true).run prog wr=_:=ai wr iR mf (by decide);clear hm BR ha;go_wp2_with fail;go_ret;exact⟨_,rfl,rfl,by rw[HD.out];unfold bf;rfl⟩
  |cU a=>
   have HD:Hid (t=.cU a):=by show _=_;rw[←hm];exact gB rfl _
   unfold bf at hd;subst hd;have Fp:(Λ (.iface 155 (.agg #[Γ Δ a])) 58 212 true).run prog wr=_:=ai wr iR mf (by decide);clear hm BR ha;go_wp2_with fail;go_ret;exact⟨_,rfl,rfl,by rw[HD.out];unfold bf;rfl⟩
  |sQ a=>
   have HD:Hid (t=.sQ a):=by show _=_;rw[←hm];exact gB rfl _
   unfold bf at hd;subst hd;have Fp:(Λ (.iface 157 (.agg #[Γ Δ a])) 58 212 true).run prog wr=_:=ai wr iR mf (by decide);clear hm BR ha;go_wp2_with fail;go_ret;exact⟨_,rfl,rfl,by rw[HD.out];unfold bf;rfl⟩
  |txt i s=>
   have HD:Hid (t=.txt i s):=by show _=_;rw[←hm];exact gB rfl _
   unfold bf at hd;have Od:Hid _:=hd;obtain⟨-,-,rfl,-⟩:=hd;have Fp:(Λ (.iface 158 (.pointer (some ⟨E.α i,0,none⟩))) 58 212 true).run prog wr=_:=ai wr iR mf (by decide);unfold aq at *;clear hm BR ha;go_wp2_with fail;go_ret;exact⟨_,rfl,rfl,by rw[HD.out];unfold bf;exact⟨Od.out.1,Od.out.2.1,rfl,Od.out.2.2.2⟩⟩
  |pair i a b=>
   have HD:Hid (t=.pair i a b):=by show _=_;rw[←hm];exact gB rfl _
   unfold bf at hd;have Od:Hid _:=hd;obtain⟨-,-,rfl,-⟩:=hd;have Fp:(Λ (.iface 150 (.pointer (some ⟨E.α i,0,none⟩))) 58 212 true).run prog wr=_:=ai wr iR mf (by decide);unfold aq at *;clear hm BR ha;go_wp2_with fail;go_ret;exact⟨_,rfl,rfl,by rw[HD.out];unfold bf;exact⟨Od.out.1,Od.out.2.1,rfl,Od.out.2.2.2⟩⟩
  |vec i l=>
   have HD:Hid (t=.vec i l):=by show _=_;rw[←hm];exact gB rfl _
   unfold bf at hd;have Od:Hid _:=hd;obtain⟨-,-,rfl,-⟩:=hd;have Fp:(Λ (.iface 163 (.pointer (some ⟨E.α i,0,none⟩))) 58 212 true).run prog wr=_:=ai wr iR mf (by decide);unfold aq at *;clear hm BR ha;go_wp2_with fail;go_ret;exact⟨_,rfl,rfl,by rw[HD.out];unfold bf;exact⟨Od.out.1,Od.out.2.1,rfl,Od.out.2.2.2⟩⟩
end
structure gR (w0:Ξ) (K:Nat) (κ:Nat→HK) (E:Env) (met:List (Nat×Nat)):Prop where
 at_:∀p∈met,p.1<K∧lZ w0 (κ p.1) (E.α p.1)
 nd:(met.map (·.1)).Nodup
section
variable {w0 w:Ξ}{G M K:Nat}{κ:Nat→HK}{E:Env}{g:mO}{bC:List Φ}{nv:Φ}
theorem lZ.low {h:HK}{b:Nat}(x:lZ w0 h b)(hb:η w0.heap.size w0 w):lZ w h b:=by
 obtain⟨c,hc⟩:=x;exact⟨c,(hb.block b (zaf.1 hc).1).trans hc⟩
theorem Grown.refl (h:dS w0 w G M κ E g bC nv):Grown w0 w w G M κ E bC nv g:=⟨bC,nv,h,(Kp.refl G M w).a _,.inl rfl,λsv hs _ hb=> .inl ⟨sv,hs,hb⟩⟩
theorem dS.look (h:dS w0 w G M κ E g bC nv)(hm:gR w0 K κ E g.met)(nH:∀i j,i<K→j<K→E.α i=E.α j→i=j){i:Nat}(hi:i<K)(hk:lZ w0 (κ i) (E.α i)):(Instr.lookup 98 (.map (some M)) (lH (κ i) (E.α i)) true).run prog w=.ok (.tuple #[Γ Δ (((g.met.lookup i).getD 0:Nat):Int),.bool (g.met.lookup i).isSome]) w:=
 G1 h.map i (hk.low h.low) (λp hp=>(hm.at_ p hp).2.low h.low) (λp hp e=>nH i p.1 hi (hm.at_ p hp).1 e) hm.nd
theorem dS.met (h:dS w0 w G M κ E g bC nv){i k:Nat}{o:Obj}(hm:j0 { w with heap:=w.heap.setIfInBounds M o } M (G0 κ E ((i,k)::g.met))):dS w0 { w with heap:=w.heap.setIfInBounds M o } G M κ E { g with met:=(i,k)::g.met } bC nv∧kZ G M nv.ownBlock w { w with heap:=w.heap.setIfInBounds M o }:=by
 have ho:∀b,b≠M→(w.heap.setIfInBounds M o)[b]?=w.heap[b]?:=λb hb=>zaB (λe=>hb e.symm);obtain⟨es,c,hM,-⟩:=h.map;refine⟨⟨h.gm,h.glo,h.mlo,⟨h.low.os,h.low.tape,h.low.output,?_,λb hb=>?_⟩,(ho G h.gm).trans h.blk,?_,hm,h.len,λj x sv hx sT=>?_⟩,⟨rfl,rfl,rfl,by simp,λb _ _ b3 _=>ho b b3⟩⟩
 ·have:=h.low.size;simpa using this
 ·have:=h.mlo;exact(ho b (by omega)).trans (h.low.block b hb)
 ·refine⟨h.row.1,h.row.2.imp id ?_⟩;rintro ⟨b,cp,cur,q1,q2,q3,q4⟩;exact⟨b,cp,cur,q1,q2,(ho b (λe=>by rw[e,hM]at q3;cases q3)).trans q3,q4⟩
 ·rcases h.subs j x sv hx sT with q|⟨b,q1,q2,q3⟩
  ·exact .inl q
  ·exact .inr ⟨b,q1,q2,(ho b (λe=>by rw[e,hM]at q3;cases q3)).trans q3⟩
theorem Grown.met {w1:Ξ}{g1:mO}(h:Grown w0 w w1 G M κ E bC nv g1){i k:Nat}{o:Obj}(hm:j0 { w1 with heap:=w1.heap.setIfInBounds M o } M (G0 κ E ((i,k)::g1.met))):Grown w0 w { w1 with heap:=w1.heap.setIfInBounds M o } G M κ E bC nv { g1 with met:=(i,k)::g1.met }:=by
 obtain⟨zX,WC,h1,h2,h3,h4⟩:=h;obtain⟨k1,k2⟩:=h1.met hm;exact⟨zX,WC,k1,h2.put k2 h3,h3,h4⟩
theorem RZ (h:dS w0 w G M κ E g bC nv)(hm:gR w0 K κ E g.met)(nH:∀i j,i<K→j<K→E.α i=E.α j→i=j){i:Nat}{s:List UInt8}(hi:i<K)(hk:κ i=.txt)(hx:w0.heap[E.α i]?=some (.cells #[.string ⟨⟨s⟩⟩] 218))(hlen:g.nodes.length+1≤1000000):Ω prog 81 #[aq G,aq (E.α i)] w λe w'=>∃k g',(match g.met.lookup i with|some k=>some (k,g)|none=>some (g.nodes.length,⟨g.nodes++[⟨3,s,0,0,[]⟩],(i,g.nodes.length)::g.met⟩))=some (k,g')∧e=.returned (Γ Δ k)∧Grown w0 w w' G M κ E bC nv g':=by
 have hat:lZ w0 (κ i) (E.α i):=by rw[hk];exact⟨_,hx⟩
 have cR:=h.look hm nH hi hat
 have hG:G<w.heap.size:=(zaf.1 h.blk).1;obtain⟨g0,g1⟩:w.cell? ⟨G,0,none⟩=some nv∧w.cell? ⟨G,1,none⟩=some (.map (some M)):=by
  constructor<;>simp[Ξ.cell?,h.blk]
 have hx1:=(h.low.block (E.α i) (zaf.1 hx).1).trans hx;have x0:w.cell? ⟨E.α i,0,none⟩=some (.string ⟨⟨s⟩⟩):=by simp[Ξ.cell?,hx1]
 cases hq:g.met.lookup i with
 |some k=>
  rw[hq,hk]at cR;simp only[zbl,Option.isSome_some]at cR;have HG:Hid _:=Grown.refl h;clear h hm hat hx hx1;unfold lH aq at cR;simp only[HK.p]at cR;unfold aq;go_enter func81,ntmps81;go_wp2_with fail;go_ret;exact⟨k,g,rfl,rfl,HG.out⟩
 |none=>
  rw[hq,hk]at cR;simp only[zbB,zcB]at cR;have HC:Hid _:=lI h ⟨3,s,0,0,[]⟩ rfl hlen;have HM:Hid _:=hm;have HAT:Hid _:=hat
  have HI:Hid _:=nH;clear h hm hat hx hx1 nH;unfold lH aq at cR;simp only[HK.p]at cR;unfold aq kO at HC;simp only at HC;unfold aq;go_enter func81,ntmps81;go_wp2_with fail;refine zae HC.out ?_;rintro e w1 ⟨rfl,hgr⟩;obtain⟨Ou,Ym,h1,-,-,-⟩:=id hgr;have R1:(g.add ⟨3,s,0,0,[]⟩).met=g.met:=rfl;obtain⟨o,hput,hmap⟩:=zT h1.map i g.nodes.length (lZ.low HAT.out h1.low) (λp hp=>lZ.low (HM.out.at_ p hp).2 h1.low) (λp hp e=>HI.out i p.1 hi (HM.out.at_ p hp).1 e) HM.out.nd hq;have Jo:Hid _:=Grown.met hgr hmap;obtain⟨y0,y1⟩:w1.cell? ⟨G,0,none⟩=some Ym∧w1.cell? ⟨G,1,none⟩=some (.map (some M)):=by
   constructor<;>simp[Ξ.cell?,h1.blk]
  clear hgr h1 hmap HC R1;rw[hk]at hput;unfold lH aq at hput;simp only[HK.p]at hput;go_wp2_with fail;go_ret;exact⟨g.nodes.length,_,rfl,rfl,Jo.out⟩
end
end Go.Proofs.YtlhimdjkkiflhaaGreatDoor
namespace Go.Loop
open Go.Proofs.Tryz
def Dt.R2:Dt→Nat
 |.cD _ l=>l.R2+1
 |_=>0
def aW (root:Dt):Dt→Bool
 |.ask m=>(bP m root).isSome&&(bN root 200000 (.ask m)).hd
 |.put n d=>(bN root 200000 (.put n d)).hd&&aW root d
 |.pair _ a b=>aW root a&&aW root b
 |.vec _ l=>decide (l.R2≤1000)&&aW root l
 |.cD a l=>aW root a&&aW root l
 |.sym s=>decide (s.length≤1000000)
 |_=>true
theorem fO {root:Dt}:∀{d:Dt},aW root d=true→rA root d=true
 |.ask m,h=>by simp only[aW,zaj]at h;exact h.1
 |.put n d,h=>by simp only[aW,zaj]at h;exact fO (d:=d) h.2
 |.pair _ a b,h=>by simp only[aW,rA,zaj]at h ⊢;exact⟨fO h.1,fO h.2⟩
 |.vec _ l,h=>by simp only[aW,zaj]at h;exact fO (d:=l) h.2
 |.cD a l,h=>by simp only[aW,rA,zaj]at h ⊢;exact⟨fO h.1,fO h.2⟩
 |.nil,_=>rfl
 |.sym _,_=>rfl
 |.num _ _,_=>rfl
 |.cU _,_=>rfl
 |.sQ _,_=>rfl
 |.txt _ _,_=>rfl
 |.gJ,_=>rfl
theorem jH {root:Dt}{m:Int}:∀{r d:Dt},aW root r=true→bP m r=some d→aW root d=true
 |.put n x,d,h,hl=>by
  simp only[aW,zaj]at h;unfold bP at hl;split at hl
  ·cases hl;exact h.2
  ·exact jH (r:=x) h.2 hl
 |.pair _ a b,d,h,hl=>by
  simp only[aW,zaj]at h;unfold bP at hl;cases hq:bP m a with
  |some x=>rw[hq]at hl;cases hl;exact jH h.1 hq
  |none=>rw[hq]at hl;exact jH h.2 hl
 |.vec _ l,d,h,hl=>by
  simp only[aW,zaj]at h;unfold bP at hl;exact jH (r:=l) h.2 hl
 |.cD a l,d,h,hl=>by
  simp only[aW,zaj]at h;unfold bP at hl;cases hq:bP m a with
  |some x=>rw[hq]at hl;cases hl;exact jH h.1 hq
  |none=>rw[hq]at hl;exact jH h.2 hl
 |.nil,d,h,hl=>by simp[bP]at hl
 |.sym _,d,h,hl=>by simp[bP]at hl
 |.num _ _,d,h,hl=>by simp[bP]at hl
 |.cU _,d,h,hl=>by simp[bP]at hl
 |.sQ _,d,h,hl=>by simp[bP]at hl
 |.txt _ _,d,h,hl=>by simp[bP]at hl
 |.gJ,d,h,hl=>by simp[bP]at hl
 |.ask _,d,h,hl=>by simp[bP]at hl
theorem qj {root:Dt}(hr:aW root root=true):∀(f:Nat) (d:Dt),aW root d=true→aW root (bN root f d)=true
 |0,d,h=>h
 |f+1,.put n x,h=>by
  simp only[aW,zaj]at h;exact qj hr f x h.2
 |f+1,.ask m,h=>by
  simp only[aW,zaj]at h;obtain⟨d1,Fo⟩:=zcy.1 h.1;show aW root (bN root f ((bP m root).getD .nil))=true;rw[Fo];exact qj hr f d1 (jH hr Fo)
 |f+1,.nil,h=>h
 |f+1,.sym _,h=>h
 |f+1,.num _ _,h=>h
 |f+1,.cU _,h=>h
 |f+1,.sQ _,h=>h
 |f+1,.txt _ _,h=>h
 |f+1,.pair _ _ _,h=>h
 |f+1,.vec _ _,h=>h
 |f+1,.gJ,h=>h
 |f+1,.cD _ _,h=>h
theorem nI (root:Dt):∀n,(∀d g k g',iy root n d g=some (k,g')→g.nodes.length≤g'.nodes.length)∧∀l acc g ks g',iz root n l acc g=some (ks,g')→g.nodes.length≤g'.nodes.length
 |0=>⟨λd g k g' h=>by simp[iy]at h,λl acc g ks g' h=>by simp[iz]at h⟩
 |n+1=>by
  have ih:=nI root n;refine⟨λd g k g' h=>?_,λl acc g ks g' h=>?_⟩
  ·unfold iy at h;split at h
   ·split at h
    ·cases h;exact zab _
    ·obtain⟨y,hy,e⟩:=zaz.1 h;cases e;have:=ih.2 _ _ _ _ _ hy;simp[dJ]at this ⊢;omega
   ·split at h
    ·cases h;exact zab _
    ·obtain⟨y,hy,e⟩:=zaz.1 h;cases e;have:=ih.2 _ _ _ _ _ hy;simp[dJ]at this ⊢;omega
   ·split at h
    ·cases h;exact zab _
    ·cases h;simp
   all_goals (cases h;simp[mO.add])
  ·unfold iz at h;split at h
   ·cases h;exact zab _
   ·obtain⟨x,hx,e⟩:=zbf.1 h;have:=ih.1 _ _ _ _ hx;have:=ih.2 _ _ _ _ _ e;omega
   ·cases h
end Go.Loop
namespace Go.Proofs.YtlhimdjkkiflhaaGreatDoor
open Go.Proofs.Tryz
open Go.RowKit Go.Loop
theorem R3:(prog.info? 3).map (λi=>(i.zero,i.size,i.bytes))=some (some (Γ Δ 0),1,8):=by kernel_rfl
structure mg (w0:Ξ) (lo K:Nat) (L:List Int) (κ:Nat→HK) (E:Env) (root:Dt):Prop where
 dat:∃rv,bf lo K L w0 E root rv
 good:aW root root=true
 inj:∀i j,i<K→j<K→E.α i=E.α j→i=j
 kind:∀i h,i<K→lZ w0 h (E.α i)→κ i=h
section
variable (w0:Ξ)(lo K:Nat)(L:List Int)(κ:Nat→HK)(E:Env)(root:Dt)(G M:Nat)
def zY (n:Nat):Prop:=∀d v w g bC nv k g',bf lo K L w0 E d v→aW root d=true→dS w0 w G M κ E g bC nv→gR w0 K κ E g.met→iy root n d g=some (k,g')→g'.nodes.length≤999999→Ω prog 48 #[aq G,v] w λe w'=>e=.returned (Γ Δ (k:Nat))∧Grown w0 w w' G M κ E bC nv g'∧gR w0 K κ E g'.met
end
end Go.Proofs.YtlhimdjkkiflhaaGreatDoor
namespace Go.Proofs.YtlhimdjkkiflhaaGreatDoor
open Go.RowKit Go.Loop
theorem Mx:∀(l:List mb) (bC:List Φ) (i:Nat) (x:mb) (sv:Φ),l[i]?=some x→bC[i]?=some sv→(xC l bC)[i*5+4]?=some sv
 |[],_,i,x,sv,h,_=>by simp at h
 |_::_,[],i,x,sv,_,h=>by simp at h
 |y::l,s::bC,0,x,sv,h,h2=>by
  simp at h h2;subst h h2;simp[xC,sS]
 |y::l,s::bC,i+1,x,sv,h,h2=>by
  have:=Mx l bC i x sv (by simpa using h) (by simpa using h2);rw[xC,zbw (by simp[sS];omega)];have e:(i+1)*5+4-(sS y s).length=i*5+4:=by simp[sS];omega
  rw[e];exact this
theorem My:∀(l:List mb) (bC:List Φ) (i:Nat) (ks:List Nat) (sv:Φ),i<l.length→bC.length=l.length→xC (dJ l i ks) (bC.set i sv)=(xC l bC).set (i*5+4) sv
 |[],_,i,ks,sv,h,_=>by simp at h
 |_::_,[],i,ks,sv,_,h=>by simp at h
 |y::l,s::bC,0,ks,sv,_,_=>by
  simp[dJ,xC,sS]
 |y::l,s::bC,i+1,ks,sv,h,h2=>by
  have:=My l bC i ks sv (by simpa using h) (by simpa using h2);have e:dJ (y::l) (i+1) ks=y::dJ l i ks:=rfl;rw[e,List.set_cons_succ,xC,this,xC,List.set_append_right _ _ (by simp[sS];omega)];have e:(i+1)*5+4-(sS y s).length=i*5+4:=by simp[sS];omega
  rw[e]
theorem KB {l:List mb}{i:Nat}{ks:List Nat}{j:Nat}{x:mb}(h:(dJ l i ks)[j]?=some x):(j=i∧x.subs=ks)∨(j≠i∧l[j]?=some x):=by
 unfold dJ at h;rw[List.getElem?_modify]at h;by_cases e:i=j
 ·subst e;simp at h;obtain⟨y,-,rfl⟩:=h;exact .inl ⟨rfl,rfl⟩
 ·simp[e]at h;exact .inr ⟨λq=>e q.symm,h⟩
section
variable {w0 w:Ξ}{G M K:Nat}{κ:Nat→HK}{E:Env}{g:mO}{bC:List Φ}{nv:Φ}
theorem dS.sub (h:dS w0 w G M κ E g bC nv){i:Nat}(hi:i<g.nodes.length){ks:List Nat}{B:Nat}(hB:w0.heap.size≤B)(hblk:w.heap[B]?=some (.cells (ks.map λk:Nat=>Φ.int .i64 (k:Int)).toArray 3)):∃nb cap,nv=.slice (some ⟨nb,0,none⟩) g.nodes.length cap∧(∃sv,w.cell? ⟨nb,i*5+4,none⟩=some sv)∧w.frozen? ⟨nb,i*5+4,none⟩=false∧dS w0 (w.setCell ⟨nb,i*5+4,none⟩ (.slice (some ⟨B,0,none⟩) ks.length ks.length)) G M κ E { g with nodes:=dJ g.nodes i ks } (bC.set i (.slice (some ⟨B,0,none⟩) ks.length ks.length)) nv∧kZ G M nv.ownBlock w (w.setCell ⟨nb,i*5+4,none⟩ (.slice (some ⟨B,0,none⟩) ks.length ks.length)):=by
 obtain⟨es,c,hm,hme⟩:=h.map;rcases h.row.2 with⟨_,h0⟩|⟨nb,cap,cur,rfl,q1,q2,q3,q4,q5,q6⟩
 ·omega
 have sT:i<bC.length:=by rw[h.len];exact hi
 have hcell:w.cell? ⟨nb,i*5+4,none⟩=some bC[i]:=by
  have:=h.row.cells (g:=nb) rfl (i*5+4) _ (Mx _ _ i _ _ (zaq hi) (zaq sT));simpa[ψ]using this
 have ho:∀b,b≠nb→(w.setCell ⟨nb,i*5+4,none⟩ (.slice (some ⟨B,0,none⟩) ks.length ks.length)).heap[b]?=w.heap[b]?:=λb hb=>zau _ _ _ _ hb;have nG:G≠nb:=λe=>by rw[←e,h.blk]at q2;simp at q2
 have nM:M≠nb:=λe=>by rw[←e,hm]at q2;simp at q2
 have aex:(w.setCell ⟨nb,i*5+4,none⟩ (.slice (some ⟨B,0,none⟩) ks.length ks.length)).heap[nb]?=some (.cells (cur.setIfInBounds (i*5+4) (.slice (some ⟨B,0,none⟩) ks.length ks.length)) 45):=eC q2 _ _;refine⟨nb,cap,rfl,⟨_,hcell⟩,by simp[Ξ.frozen?,q2],⟨h.gm,h.glo,h.mlo,⟨h.low.os,h.low.tape,h.low.output,by have:=h.low.size;simpa using this,λb hb=>(ho b (by omega)).trans (h.low.block b hb)⟩,(ho G nG).trans h.blk,?_,⟨es,c,(ho M nM).trans hm,hme⟩,by simp[dJ,h.len],λj x sv hx WE=>?_⟩,⟨rfl,rfl,rfl,by simp,λb _ _ _ b4=>ho b (λe=>b4 (by rw[e];rfl))⟩⟩
 ·have e1:(dJ g.nodes i ks).length=g.nodes.length:=by simp[dJ]
  show Ξ.ownsRow _ _ _ _ _ (dJ g.nodes i ks).length (xC (dJ g.nodes i ks) _);rw[My _ _ _ _ _ hi h.len,e1];refine⟨by rw[List.length_set];exact h.row.1,.inr ⟨nb,cap,_,rfl,q1,aex,q3,q4,by simpa using q5,?_⟩⟩;rw[Array.toList_setIfInBounds,List.take_set,q6]
 ·rcases KB hx with⟨rfl,hk⟩|⟨hne,DM⟩
  ·rw[List.getElem?_set_self (by rw[h.len];exact hi)]at WE;cases WE;right;refine⟨B,by rw[hk],hB,?_⟩;rw[hk];exact(ho B (λe=>by rw[e,q2]at hblk;simp at hblk)).trans hblk
  ·rw[List.getElem?_set_ne (λe=>hne e.symm)]at WE;rcases h.subs j x sv DM WE with q|⟨b,p1,p2,p3⟩
   ·exact .inl q
   ·exact .inr ⟨b,p1,p2,(ho b (λe=>by rw[e,q2]at p3;simp at p3)).trans p3⟩
end
end Go.Proofs.YtlhimdjkkiflhaaGreatDoor
namespace Go.Proofs.YtlhimdjkkiflhaaGreatDoor
open Go.Proofs.Tryz
open Go.RowKit Go.Loop
def aZ:Code→Code
 |.seq _ y=>y
 |c=>c
section
variable {R M g cap:Nat}{T:List Tok}{dp:Nat}
theorem R4 {n:Nat}(ih:IH R M g cap T dp n)(t:Tok)(p:Pl)(a0:Option Addr)(n0 c0:Nat)(w w1 w3:Ξ)(E:Env)(s:gK)(r:RR Dt)(Bt:p.passed=false)(hl:¬t.n∈s.aT)(hd:p.depth+1≤dp∧p.ahead.length≤p.depth)(Cg:dp≤30)(RN:w.heap.size+1+1≤w1.heap.size)
 (hs3:w3.heap.size=w1.heap.size+2)(HE:Hid (r=(aO T dp n ⟨p.depth+1,p.passed,p.ahead++[t.n]⟩ { s with aT:=t.n::s.aT }).bind λd s=> .ok (.put t.n d) s))(HO:Hid (r≠.out))(CP:∀k,(Φ.slice a0 n0 c0).ownBlock=some k→k<w.heap.size)(HlA:Hid (∀m∈p.ahead,m∈s.aT))
 (Mu:Hid (bU w3 R M g cap T dp (E.label t.n (w1.heap.size+1)) { s with aT:=t.n::s.aT }))(HL3:Hid (w3.heap[w1.heap.size+1]?=some (.cells #[.nilIface] 215)))(U2:Hid (w3.heap[w1.heap.size]?=some (.cells #[Γ Δ ((p.depth:Int)+1),.bool false,.slice none 0 0] 128)))
 (RU:Hid (w3.heap[w.heap.size+1]?=some (jR p.depth false a0 n0 c0)))(oD:Hid (w3.ownsRow 0 212 1 (.slice a0 n0 c0) p.ahead.length (p.ahead.map λm=>aq ((E.label t.n (w1.heap.size+1)).eG m))))(oy:Hid (Kp R M w w3))
 (x1 x2 x3 x4 x6 x7 x9 x11 x12 x13 x14 x15 x16 x17 x18 x19 x20 x21 x22 x23 x24 x25 x26 x27 x28 x29 x30 x31 jh x33 x34 x35 x36 x37 x38 x39 x40 jm x42 ji x44 x45 x46 x47 x48 jq x50 jk x52 x53 x54 x55 x56 x57 x58 x59 x60 x61 x62 x63 x64 x65 x66:Φ):
 (aZ (aZ (aZ (aZ (aZ (aZ (f160.body.getD .skip))))))).wp prog (bodyPost prog f160 λe w'=>k9 R M g cap T dp (Φ.slice a0 n0 c0).ownBlock w E s r e w') ⟨#[.pointer (some ⟨R,0,none⟩),x1,x2,x3,x4,.pointer (some ⟨w.heap.size+1,0,none⟩),x6,x7,.pointer (some ⟨w1.heap.size,0,none⟩),x9,.pointer (some ⟨w1.heap.size+1,0,none⟩),x11,x12,x13,x14,x15,x16,x17,x18,x19,x20,x21,x22,x23,x24,x25,x26,x27,x28,x29,x30,x31,jh,x33,x34,x35,x36,x37,x38,x39,x40,jm,x42,ji,x44,x45,x46,x47,x48,jq,x50,jk,x52,x53,x54,x55,x56,x57,x58,x59,x60,x61,x62,x63,x64,x65,x66],[]⟩ w3:=by
 have mixed:prog.follows ι=true:=by kernel_rfl
 obtain⟨q0,q1,q2⟩:=fR RU.out;obtain⟨z0,z1,z2⟩:=fR U2.out;have hf3:w3.frozen? ⟨w1.heap.size,2,none⟩=false:=by simp[Ξ.frozen?,U2.out]
 obtain⟨i0,hi,hz0,hz1,hz2⟩:=info_parts Ob;have hlen:p.ahead.length+1≤1000000:=by omega
 have Ov:Hid _:=ih;have HS3:Hid _:=hs3;clear ih hs3;dsimp only[f160,aZ,ζ];go_wp2_with (at_builtin;(refine fH rfl _ _ 126 rfl 0 212 i0 (.pointer none) 8 Ol hi hz0 hz1 hz2 (by decide) rfl (.slice a0 n0 c0) p.ahead.length (p.ahead.map λm=>aq ((E.label t.n (w1.heap.size+1)).eG m)) rfl (zcw oD.out _) ⟨w3.heap.size,0,none⟩ 1 1 [aq (w1.heap.size+1)] rfl (by decide) rfl ?c1 ?c2 ?c3 ?c4 ?_))
 case c1=>
  intro j u hj
  match j,hj with
  |0,hj=>simp at hj;subst hj;simp[ψ,aq]
 case c2=>intro u hu;simp at hu;subst hu;rfl
 case c3=>exact hlen
 case c4=>exact zaw _
 intro v' w4 hown' hgrow nB;have hs3:=HS3.out;obtain⟨hr4,hk4,hb4,Re⟩:=Om Mu.out oD.out hgrow
 skip
 have Q5:=(hb4 w1.heap.size (by omega) (λe=>by have:=CP _ e.symm;omega)).trans U2.out;have hL4:=(hb4 (w1.heap.size+1) (by omega) (λe=>by have:=CP _ e.symm;omega)).trans HL3.out;obtain⟨a1,c1,rfl⟩:=bq hown';have HR5:Hid (bU (w4.setCell ⟨w1.heap.size,2,none⟩ (.slice a1 (p.ahead.length+1) c1)) R M g cap T dp (E.label t.n (w1.heap.size+1)) { s with aT:=t.n::s.aT }):=bU.place hr4 Q5 2 _;have HA5:Hid (jF (w4.setCell ⟨w1.heap.size,2,none⟩ (.slice a1 (p.ahead.length+1) c1)) (E.label t.n (w1.heap.size+1)) { s with aT:=t.n::s.aT } (p.ahead++[t.n]) (.slice a1 (p.ahead.length+1) c1)):=jF.more hown' Q5 HlA.out _;have hL5:(w4.setCell ⟨w1.heap.size,2,none⟩ (.slice a1 (p.ahead.length+1) c1)).heap[w1.heap.size+1]?=some (.cells #[.nilIface] 215):=(zau _ _ _ _ (by show w1.heap.size+1≠w1.heap.size;omega)).trans hL4;have hP5:(w4.setCell ⟨w1.heap.size,2,none⟩ (.slice a1 (p.ahead.length+1) c1)).heap[w1.heap.size]?=some (.cells #[Γ Δ ((p.depth:Int)+1),.bool false,.slice a1 (p.ahead.length+1) c1] 128):=eC Q5 2 _;have Mv:Hid (kZ R M (Φ.slice a0 n0 c0).ownBlock w (w4.setCell ⟨w1.heap.size,2,none⟩ (.slice a1 (p.ahead.length+1) c1))):=by
  exact kZ.above (((oy.out).a _).trans hk4) (by omega) 2 _
 have hv5:(Φ.slice a1 (p.ahead.length+1) c1).ownBlock=(Φ.slice a0 n0 c0).ownBlock∨∃k,(Φ.slice a1 (p.ahead.length+1) c1).ownBlock=some k∧w.heap.size≤k:=nB.imp id λ⟨k,k1,k2⟩=>⟨k,k1,by have k3:w3.heap.size≤k:=zah (by simp) k2;omega⟩;have HV5:Hid _:=hv5;have HL5:Hid _:=hL5;have hne:aO T dp n ⟨p.depth+1,false,p.ahead++[t.n]⟩ { s with aT:=t.n::s.aT }≠.out:=λh=>HO.out (by rw[HE.out,Bt,h];rfl);have HD:Hid _:=Ov.out.datum ⟨p.depth+1,false,p.ahead++[t.n]⟩ (.slice a1 (p.ahead.length+1) c1) _ _ _ HR5.out HA5.out ⟨hd.1,by show(p.ahead++[t.n]).length≤_;rw[zbg];have:=hd.2;simp;omega⟩ hne;obtain⟨y0,y1,y2⟩:=fR hP5;have hf4:w4.frozen? ⟨w1.heap.size,2,none⟩=false:=by simp[Ξ.frozen?,Q5]
 obtain⟨u0,u1,u2⟩:=fR Q5;have hs5:(w4.setCell ⟨w1.heap.size,2,none⟩ (.slice a1 (p.ahead.length+1) c1)).heap.size=w4.heap.size:=by simp
 clear hr4 hk4 hb4 Q5 hL4 hL5 hP5 hown' hgrow nB hv5 hne Ov Mu oD RU U2 HL3 oy;unfold jd aq at HD;go_wp2_with fail;refine zae HD.out ?_;clear HD;intro e w6 cg;cases hF:aO T dp n ⟨p.depth+1,false,p.ahead++[t.n]⟩ { s with aT:=t.n::s.aT } with
 |out=>exact absurd (by rw[HE.out,Bt,hF];rfl) HO.out
 |fail er a=>
  rw[hF]at cg;obtain⟨⟨b,rfl,hf⟩,Wy⟩:=cg;have HG:Hid (k9 R M g cap T dp (Φ.slice a0 n0 c0).ownBlock w E s (RR.fail er a) (.returned (.tuple #[.nilIface,aq b])) w6):=⟨⟨b,rfl,hf⟩,kZ.put Mv.out Wy HV5.out⟩;have nU:Hid (r=.fail er a):=by show _=_;rw[HE.out,Bt,hF];rfl
  clear hf Wy Mv HV5 HL5 HR5 HA5;unfold aq;go_wp2_with fail;go_ret2;rw[nU.out];exact HG.out
 |ok d s2=>
  rw[hF]at cg;obtain⟨v,E2,rfl,⟨ty,y,rfl⟩,cI,hx2,hr2,hk2⟩:=cg;obtain⟨hl6,hG⟩:=WB Mv.out (by omega) HL5.out HA5.out.1 HV5.out HR5.out hl ⟨ty,y,rfl⟩ cI hx2 hr2 hk2;have HG:Hid _:=hG;have nU:Hid (r=.ok (.put t.n d) s2):=by show _=_;rw[HE.out,Bt,hF];rfl
  have c0:w6.cell? ⟨w1.heap.size+1,0,none⟩=some .nilIface:=by simp[Ξ.cell?,hl6]
  have f0:w6.frozen? ⟨w1.heap.size+1,0,none⟩=false:=by simp[Ξ.frozen?,hl6]
  clear cI hx2 hr2 hk2 Mv HV5 HL5 HR5 HA5 hl6 hG;go_wp2_with fail;go_ret2;rw[nU.out];exact HG.out
end
def iT (acc:List Nat)(n:Nat):Array Φ:=(acc.map (λk:Nat=>Φ.int .i64 (k:Int))++List.replicate (n-acc.length) (Φ.int .i64 0)).toArray
section
variable {w0 w:Ξ}{G M K:Nat}{κ:Nat→HK}{E:Env}{g:mO}{bC:List Φ}{nv:Φ}
theorem dS.other (h:dS w0 w G M κ E g bC nv){B:Nat}{c:Array Φ}(hB:w.heap[B]?=some (.cells c 3))(Mk:w0.heap.size≤B)(hn:∀sv∈bC,sv.ownBlock≠some B)(j:Nat)(v:Φ):dS w0 (w.setCell ⟨B,j,none⟩ v) G M κ E g bC nv:=by
 have ho:∀b,b≠B→(w.setCell ⟨B,j,none⟩ v).heap[b]?=w.heap[b]?:=λb hb=>zau _ _ _ _ hb;obtain⟨es,cl,hm,hme⟩:=h.map;refine⟨h.gm,h.glo,h.mlo,⟨h.low.os,h.low.tape,h.low.output,by have:=h.low.size;simpa using this,λb hb=>(ho b (by omega)).trans (h.low.block b hb)⟩,(ho G (λe=>by rw[←e,h.blk]at hB;simp at hB)).trans h.blk,?_,⟨es,cl,(ho M (λe=>by rw[←e,hm]at hB;simp at hB)).trans hm,hme⟩,h.len,λi x sv hx sT=>?_⟩
 ·refine⟨h.row.1,h.row.2.imp id ?_⟩;rintro ⟨b,cp,cur,q1,q2,q3,q4⟩;exact⟨b,cp,cur,q1,q2,(ho b (λe=>by rw[←e,q3]at hB;simp at hB)).trans q3,q4⟩
 ·rcases h.subs i x sv hx sT with q|⟨b,q1,q2,q3⟩
  ·exact .inl q
  ·exact .inr ⟨b,q1,q2,(ho b (λe=>hn sv (zcC sT) (by rw[q1,←e];rfl))).trans q3⟩
theorem KC {acc:List Nat}{n:Nat}(h:acc.length<n)(k:Nat):(iT acc n).setIfInBounds acc.length (Γ Δ (k:Int))=iT (acc++[k]) n:=by
 unfold iT;obtain⟨r,hr⟩:∃r,n-acc.length=r+1:=⟨n-acc.length-1,by omega⟩;have pN:n-(acc++[k]).length=r:=by simp;omega
 rw[hr,pN,zcv];apply Array.ext';simp
theorem Ha {acc:List Nat}{n:Nat}(h:acc.length=n):iT acc n=(acc.map λk:Nat=>Φ.int .i64 (k:Int)).toArray:=by
 unfold iT;rw[h,Nat.sub_self];simp
theorem KD {acc:List Nat}{n j:Nat}(h:j<n)(ha:acc.length≤n):∃v,(iT acc n)[j]?=some v:=by
 have:j<(iT acc n).size:=by simp[iT];omega
 exact⟨_,zaH this⟩
theorem xW {α:Type}{l:List α}{j:Nat}{x:α}{r:List α}(h:l.drop j=x::r):l[j]?=some x∧l.drop (j+1)=r:=by
 constructor
 ·rw[←List.head?_drop,h];rfl
 ·rw[←List.tail_drop,h];rfl
theorem Hb {lo:Nat}{L:List Int}{root:Dt}{n:Nat}(ih:∀m,m≤n→zY w0 lo K L κ E root G M m)(wb w:Ξ)(Ow:List Φ)(U5:Φ)(at_ B:Nat)(hv:Φ)(vs:List Φ)(l:Dt)(g1 g2:mO)(Ou:List Φ)(Ym:Φ)(ks:List Nat)
 (cn:iz root n l [] g1=some (ks,g2))(hlen:g2.nodes.length≤999999)(hat:at_<g1.nodes.length)(UQ:vs.length≤1000)(hD:cX lo K L w0 E l vs)(bV:aW root l=true)(hG:dS w0 w G M κ E g1 Ou Ym)(hM:gR w0 K κ E g1.met)(hK:kZ G M U5.ownBlock wb w)
 (hnv:Ym.ownBlock=U5.ownBlock∨∃b,Ym.ownBlock=some b∧wb.heap.size≤b)(hns:RY wb Ow Ou)(hB:w.heap[B]?=some (.cells (iT [] vs.length) 3))(rz:wb.heap.size≤B)(hB0:w0.heap.size≤B)(hBn:∀sv∈Ou,sv.ownBlock≠some B)(hrow:w.ownsRow 0 58 1 hv vs.length vs)
 (x1 x2 x4 x5 x6 x7 x8 x9 x10 x13 x14 x15 x16 x17 x18 x19 x20 x21 x22 x23 x24 x25 x26 x27 x28 x29 x30 x31 jh x33 x34 x35 x36 x37 x38 x39 x40 jm x42 ji x44 x45 x46 x47 x48 jq x50 jk x52 x53 x54 x55 x56 x57 x58 x59 x60 x61:Φ):
 (aZ (aZ (aZ (aZ (aZ (f80.body.getD .skip)))))).wp prog (bodyPost prog f80 λe w'=>e=.returned (Γ Δ (at_:Nat))∧Grown w0 wb w' G M κ E Ow U5 { g2 with nodes:=dJ g2.nodes at_ ks }∧gR w0 K κ E g2.met) ⟨#[.pointer (some ⟨G,0,none⟩),x1,x2,hv,x4,x5,x6,x7,x8,x9,x10,Γ Δ (at_:Nat),.slice (some ⟨B,0,none⟩) vs.length vs.length,x13,x14,x15,x16,x17,x18,x19,x20,x21,x22,x23,x24,x25,x26,x27,x28,x29,x30,x31,jh,x33,x34,x35,x36,x37,x38,x39,x40,jm,x42,ji,x44,x45,x46,x47,x48,jq,x50,jk,x52,x53,x54,x55,x56,x57,x58,x59,x60,x61],[]⟩ w:=by
 obtain⟨ha,hc,rfl⟩:=bq hrow;have HI:Hid _:=ih;have H0:Hid (∃(m:Nat) (l':Dt) (acc:List Nat) (gj:mO) (vR:List Φ) (Mz:Φ),(Γ Δ 0:Φ)=Γ Δ (acc.length:Nat)∧acc.length≤vs.length∧m≤n∧at_<gj.nodes.length∧Hid (iz root m l' acc gj=some (ks,g2))∧Hid (cX lo K L w0 E l' (vs.drop acc.length))∧Hid (aW root l'=true)∧Hid (dS w0 w G M κ E gj vR Mz)∧Hid (gR w0 K κ E gj.met)∧Hid (kZ G M U5.ownBlock wb w)∧Hid (Mz.ownBlock=U5.ownBlock∨∃b,Mz.ownBlock=some b∧wb.heap.size≤b)∧Hid (RY wb Ow vR)∧Hid (w.heap[B]?=some (.cells (iT acc vs.length) 3))∧Hid (∀sv∈vR,sv.ownBlock≠some B)∧Hid (w.ownsRow 0 58 1 (.slice ha vs.length hc) vs.length vs)):=
  ⟨n,l,[],g1,Ou,Ym,rfl,zaw _,zab _,hat,cn,hD,bV,hG,hM,hK,hnv,hns,hB,hBn,hrow⟩
 clear ih cn hat hD bV hG hM hK hnv hns hB hBn hrow;dsimp only[f80,aZ,ζ];go_wp2_with fail;go_loopw [41] (λsv wr=>∃(m:Nat) (l':Dt) (acc:List Nat) (gj:mO) (vR:List Φ) (Mz:Φ),sv=Γ Δ (acc.length:Nat)∧acc.length≤vs.length∧m≤n∧at_<gj.nodes.length∧Hid (iz root m l' acc gj=some (ks,g2))∧Hid (cX lo K L w0 E l' (vs.drop acc.length))∧Hid (aW root l'=true)∧Hid (dS w0 wr G M κ E gj vR Mz)∧Hid (gR w0 K κ E gj.met)∧Hid (kZ G M U5.ownBlock wb wr)∧Hid (Mz.ownBlock=U5.ownBlock∨∃b,Mz.ownBlock=some b∧wb.heap.size≤b)∧Hid (RY wb Ow vR)∧Hid (wr.heap[B]?=some (.cells (iT acc vs.length) 3))∧Hid (∀sv∈vR,sv.ownBlock≠some B)∧Hid (wr.ownsRow 0 58 1 (.slice ha vs.length hc) vs.length vs)) (λsv _=>vs.length-(intOf sv).toNat)
 case atStart=>exact H0.out
 case round=>
  obtain⟨m,l',acc,gj,vR,Mz,rfl,aey,hm,hat,HN,HD,MA,HG,HM,HK,Yn,HNS,HB,HBN,oD⟩:=hrel;have hBl:B<wr.heap.size:=(zaf.1 HB.out).1;have hnG:B≠G:=λe=>by have h1:=HB.out;rw[e,HG.out.blk]at h1;simp at h1
  have hnM:B≠M:=λe=>by obtain⟨es,c,h2,-⟩:=HG.out.map;have h1:=HB.out;rw[e,h2]at h1;simp at h1
  have hnN:=dS.vQ HG.out B _ HB.out (λcur e=>by simp at e);by_cases hlt:acc.length<vs.length
  ·obtain⟨x,r,BG⟩:∃x r,vs.drop acc.length=x::r:=by
    cases hq:vs.drop acc.length with
    |nil=>simp at hq;omega
    |cons x r=>exact⟨x,r,rfl⟩
   obtain⟨hx,hr⟩:=xW BG;have cI:=HD.out;rw[BG]at cI;obtain⟨a,l2,rfl,Ox,hdl⟩:∃a l2,l'=.cD a l2∧bf lo K L w0 E a x∧cX lo K L w0 E l2 r:=by
    cases l'<;>unfold cX at cI<;>first|exact cI.elim|(cases cI;done)|skip
    rename_i a l2;obtain⟨v,r',e,h1,h2⟩:=cI;cases e;exact⟨a,l2,rfl,h1,h2⟩
   have hgd:=MA.out;simp only[aW,zaj]at hgd;obtain⟨m',rfl⟩:∃m',m=m'+1:=by
    cases m with
    |zero=>have h1:=HN.out;simp[iz]at h1
    |succ m'=>exact⟨m',rfl⟩
   have hN:=HN.out;unfold iz at hN;obtain⟨⟨k1,g'⟩,hN1,hN2⟩:=zbf.1 hN;have Jj:=(nI root m').2 _ _ _ _ _ hN2;have afR:=(nI root m').1 _ _ _ _ hN1;have HC:Hid _:=HI.out m' (by omega) a x wr gj vR Mz k1 g' Ox hgd.1 HG.out HM.out hN1 (by simp at Jj;omega);obtain⟨hb,cap,cur,hhv,q1,q2,q3⟩:∃hb cap cur,Φ.slice ha vs.length hc=.slice (some ⟨hb,0,none⟩) vs.length cap∧0≤hb∧wr.heap[hb]?=some (.cells cur 58)∧True:=by
    rcases oD.out.2 with⟨e,h0⟩|⟨hb,cap,cur,e,p1,p2,_⟩
    ·omega
    ·exact⟨hb,cap,cur,e,p1,p2,trivial⟩
   obtain rfl:ha=some ⟨hb,0,none⟩:=by cases hhv;rfl
   have cx:wr.cell? ⟨hb,acc.length,none⟩=some x:=by
    rw[Ξ.ownsRow.cellAt oD.out acc.length (by omega)];exact hx
   have hbl:hb<wr.heap.size:=(zaf.1 q2).1;have hbG:hb≠G:=λe=>by rw[e,HG.out.blk]at q2;simp at q2
   have hbM:hb≠M:=λe=>by obtain⟨es,c,h2,-⟩:=HG.out.map;rw[e,h2]at q2;simp at q2
   have hbN:=dS.vQ HG.out hb _ q2 (λcur e=>by simp at e);have afS:(acc.length:Int)<(vs.length:Int):=by omega
   have H2:Hid _:=hN2;have HDL:Hid _:=hdl;have HR:Hid _:=hr;have HGL:Hid _:=hgd.2;have HQ2:Hid _:=q2;clear hN hN1 hN2 Ox hdl cI hgd hhv q1 q2 q3 BG hx hr;unfold aq at HC;go_wp2_with fail;refine zae HC.out ?_;clear HC;rintro e w2 ⟨rfl,⟨zX,WC,Zw,hK2,ab7,aac⟩,Pz⟩;have hs2:=hK2.size;have hB2:=(hK2.block B hBl hnG hnM hnN).trans HB.out;have hb2:=(hK2.block hb hbl hbG hbM hbN).trans HQ2.out;have aad:∀sv∈zX,sv.ownBlock≠some B:=λsv sT e=>by
    rcases aac sv sT B e with⟨sv0,h1,h2⟩|h1
    ·exact HBN.out sv0 h1 h2
    ·omega
   obtain⟨v0,hv0⟩:=KD (acc:=acc) hlt aey;have cB:w2.cell? ⟨B,acc.length,none⟩=some v0:=by simp[Ξ.cell?,hB2,hv0]
   have fB:w2.frozen? ⟨B,acc.length,none⟩=false:=by simp[Ξ.frozen?,hB2]
   have aab:Hid (∃(m:Nat) (l':Dt) (R5:List Nat) (gj:mO) (vR:List Φ) (Mz:Φ),(Φ.int .i64 ((acc.length:Int)+1))=Γ Δ (R5.length:Nat)∧R5.length≤vs.length∧m≤n∧at_<gj.nodes.length∧Hid (iz root m l' R5 gj=some (ks,g2))∧Hid (cX lo K L w0 E l' (vs.drop R5.length))∧Hid (aW root l'=true)∧Hid (dS w0 (w2.setCell ⟨B,acc.length,none⟩ (Γ Δ k1)) G M κ E gj vR Mz)∧Hid (gR w0 K κ E gj.met)∧Hid (kZ G M U5.ownBlock wb (w2.setCell ⟨B,acc.length,none⟩ (Γ Δ k1)))∧Hid (Mz.ownBlock=U5.ownBlock∨∃b,Mz.ownBlock=some b∧wb.heap.size≤b)∧Hid (RY wb Ow vR)∧Hid ((w2.setCell ⟨B,acc.length,none⟩ (Γ Δ k1)).heap[B]?=some (.cells (iT R5 vs.length) 3))∧Hid (∀sv∈vR,sv.ownBlock≠some B)∧Hid ((w2.setCell ⟨B,acc.length,none⟩ (Γ Δ k1)).ownsRow 0 58 1 (.slice (some ⟨hb,0,none⟩) vs.length hc) vs.length vs)):=by
    have hws:=HK.out.size;refine⟨m',l2,acc++[k1],g',zX,WC,by simp,by simp;omega,by omega,by omega,H2.out,?_,HGL.out,dS.other Zw hB2 hB0 aad _ _,Pz,?_,?_,λsv sT b hb'=>?_,?_,aad,?_⟩
    ·show cX lo K L w0 E l2 (vs.drop (acc++[k1]).length);rw[zbg];show cX lo K L w0 E l2 (vs.drop (acc.length+1));rw[HR.out];exact HDL.out
    ·exact kZ.above (kZ.put HK.out hK2 Yn.out) rz _ _
    ·rcases ab7 with e|⟨b,e,PL⟩
     ·rcases Yn.out with e2|⟨b,e2,PL⟩
      ·exact .inl (e.trans e2)
      ·exact .inr ⟨b,e.trans e2,PL⟩
     ·exact .inr ⟨b,e,by omega⟩
    ·rcases aac sv sT b hb' with⟨sv0,h1,h2⟩|h1
     ·exact HNS.out sv0 h1 b h2
     ·exact .inr (by omega)
    ·show _=_;rw[←KC hlt];exact eC hB2 _ _
    ·have hrow:=oD.out;refine⟨hrow.1,hrow.2.imp id ?_⟩;rintro ⟨b,cp,cu,p1,p2,p3,p4⟩;have eb:b=hb:=by cases p1;rfl
     subst eb;have hne:b≠B:=λe=>by rw[e,hB2]at hb2;simp at hb2
     exact⟨b,cp,cu,p1,p2,(zau _ _ _ _ hne).trans ((hK2.block b hbl hbG hbM hbN).trans p3),p4⟩
   clear Zw hK2 ab7 aac Pz hB2 hb2 aad hv0 HN HD MA HG HM HK Yn HNS HB HBN oD H2 HDL HR HGL HQ2;go_wp2_with fail;exact⟨aab.out,by simp[intOf];omega⟩
  ·have he:acc.length=vs.length:=by omega
   have jN:¬((acc.length:Int)<(vs.length:Int)):=by omega
   obtain⟨rfl,hks,hg2⟩:l'=.gJ∧ks=acc∧g2=gj:=by
    have cI:=HD.out;rw[he,List.drop_length]at cI;have hl:l'=.gJ:=by
     cases l'<;>unfold cX at cI<;>first|rfl|exact cI.elim|skip
     obtain⟨v,r',e,-⟩:=cI;cases e
    subst hl;have hN:=HN.out;cases m with
    |zero=>simp[iz]at hN
    |succ m'=>
     unfold iz at hN;cases hN;exact⟨rfl,rfl,rfl⟩
   have QH:=HB.out;rw[Ha he]at QH;obtain⟨nb,afT,hnv,⟨sv0,hc0⟩,hf0,hG3,hK3⟩:=dS.sub HG.out hat hB0 QH;obtain⟨y0,y1⟩:wr.cell? ⟨G,0,none⟩=some Mz∧wr.cell? ⟨G,1,none⟩=some (.map (some M)):=by
    have hblk:=HG.out.blk;constructor<;>simp[Ξ.cell?,hblk]
   rw[he]at hG3 hK3;have WG:Hid (Grown w0 wb (wr.setCell ⟨nb,at_*5+4,none⟩ (.slice (some ⟨B,0,none⟩) vs.length vs.length)) G M κ E Ow U5 { g2 with nodes:=dJ g2.nodes at_ ks }∧gR w0 K κ E g2.met):=by
    subst hks hg2;refine⟨⟨_,_,hG3,kZ.put HK.out hK3 Yn.out,Yn.out,λsv sT b hb'=>?_⟩,HM.out⟩;rcases List.mem_or_eq_of_mem_set sT with h1|h1
    ·exact HNS.out sv h1 b hb'
    ·subst h1;cases hb';exact .inr rz
   subst hnv;have afU:(at_:Int)<(gj.nodes.length:Int):=by omega
   clear hG3 hK3 QH HN HD MA HG HM HK Yn HNS HB HBN oD hks hg2;go_wp2_with fail;go_ret;exact⟨rfl,WG.out⟩
end
theorem R6 (n:Nat):π #[Γ Δ 0] n=iT [] n:=by
 unfold π iT;apply Array.ext
 ·simp
 ·intro i h1 h2;simp[Nat.mod_one]
section
variable {w0 w:Ξ}{G M K:Nat}{κ:Nat→HK}{E:Env}{g:mO}{bC:List Φ}{nv:Φ}
theorem dS.above {w':Ξ}(h:dS w0 w G M κ E g bC nv)(hb:η w.heap.size w w'):dS w0 w' G M κ E g bC nv:=by
 obtain⟨es,c,hm,hme⟩:=h.map;have hl:=h.low.size;refine⟨h.gm,h.glo,h.mlo,⟨hb.os.trans h.low.os,hb.tape.trans h.low.tape,hb.output.trans h.low.output,zah hl hb.size,λb hb'=>(hb.block b (by omega)).trans (h.low.block b hb')⟩,(hb.block G (zaf.1 h.blk).1).trans h.blk,aX h.row (zab _) λb _ hlt=>hb.block b hlt,⟨es,c,(hb.block M (zaf.1 hm).1).trans hm,hme⟩,h.len,λj x sv hx sT=>?_⟩;rcases h.subs j x sv hx sT with q|⟨b,q1,q2,q3⟩
 ·exact .inl q
 ·exact .inr ⟨b,q1,q2,(hb.block b (zaf.1 q3).1).trans q3⟩
theorem dS.sub_lt (h:dS w0 w G M κ E g bC nv):∀sv∈bC,∀b,sv.ownBlock=some b→b<w.heap.size:=by
 intro sv sT b hb;obtain⟨j,hj⟩:=List.mem_iff_getElem?.1 sT;have tC:j<g.nodes.length:=by rw[←h.len];exact(zbV.1 hj).1
 rcases h.subs j _ sv (zaq tC) hj with⟨rfl,_⟩|⟨b',rfl,_,q3⟩
 ·cases hb
 ·cases hb;exact(zaf.1 q3).1
theorem zZ {lo:Nat}{L:List Int}{root:Dt}{n:Nat}(hgr:mg w0 lo K L κ E root)(ih:∀m,m≤n→zY w0 lo K L κ E root G M m)(h:dS w0 w G M κ E g bC nv)(hm:gR w0 K κ E g.met){i:Nat}(hi:i<K){hk:HK}(Yo:lZ w0 hk (E.α i))(c:Nat)
 (l:Dt)(hv:Φ)(vs:List Φ)(hD:cX lo K L w0 E l vs)(bV:aW root l=true)(UQ:vs.length≤1000)(hrow:w.ownsRow 0 58 1 hv vs.length vs)(k:Nat)(g':mO)
 (cn:(match g.met.lookup i with|some k=>some (k,g)|none=>(iz root n l [] ⟨g.nodes++[⟨c,[],0,0,[]⟩],(i,g.nodes.length)::g.met⟩).map λy=>(g.nodes.length,{ y.2 with nodes:=dJ y.2.nodes g.nodes.length y.1 }))=some (k,g'))(hlen:g'.nodes.length≤999999):
 Ω prog 80 #[aq G,lH hk (E.α i),Γ Δ c,hv] w λe w'=>e=.returned (Γ Δ (k:Nat))∧Grown w0 w w' G M κ E bC nv g'∧gR w0 K κ E g'.met:=by
 have Yp:κ i=hk:=hgr.kind i hk hi Yo;have hat:lZ w0 (κ i) (E.α i):=by rw[Yp];exact Yo
 have cR:=h.look hm hgr.inj hi hat
 obtain⟨ha,hc,rfl⟩:=bq hrow;obtain⟨g0,g1⟩:w.cell? ⟨G,0,none⟩=some nv∧w.cell? ⟨G,1,none⟩=some (.map (some M)):=by
  constructor<;>simp[Ξ.cell?,h.blk]
 cases hq:g.met.lookup i with
 |some k0=>
  rw[hq]at cn;cases cn;rw[hq,Yp]at cR;simp only[zbl,Option.isSome_some]at cR;have HG:Hid _:=(⟨Grown.refl h,hm⟩:_∧_);clear h hm hat hD hrow bV;unfold lH aq at cR ⊢;go_enter func80,ntmps80;go_wp2_with fail;go_ret;exact⟨rfl,HG.out⟩
 |none=>
  rw[hq]at cn;obtain⟨⟨ks,g2⟩,hL,e⟩:=zaz.1 cn;cases e;have Jj:=(nI root n).2 _ _ _ _ _ hL;have ud:g2.nodes.length≤999999:=by simpa[dJ]using hlen
  have RD:g.nodes.length+1≤1000000:=by simp at Jj;omega
  rw[hq,Yp]at cR;simp only[zbB,zcB]at cR;have HC:Hid _:=lI h ⟨c,[],0,0,[]⟩ rfl RD;have U6:=run_make_row' (P:=prog) 43 3 (Γ Δ 0) 8 underlying43 R3 rfl .i64 .i64 vs.length (by omega) (by omega);have HH:Hid _:=h;have HM:Hid _:=hm;have Jo:Hid _:=hgr;have HAT:Hid _:=hat
  have HL:Hid _:=hL;have oD:Hid _:=hrow;have Ov:Hid _:=ih;clear h hm hgr hat hL cn hrow ih;unfold lH aq at cR ⊢;unfold aq kO at HC;simp only at HC;go_enter func80,ntmps80;go_wp2_with fail;refine zae HC.out ?_;rintro e w1 ⟨rfl,vS⟩;obtain⟨Ou,Ym,h1,k1,b1,s1⟩:=id vS;obtain⟨o,hput,hmap⟩:=zT h1.map i g.nodes.length (lZ.low HAT.out h1.low) (λp hp=>lZ.low (HM.out.at_ p hp).2 h1.low) (λp hp e=>Jo.out.inj i p.1 hi (HM.out.at_ p hp).1 e) HM.out.nd hq;obtain⟨Oy,nv2,h2,k2,b2,s2⟩:=Grown.met vS hmap;obtain⟨y0,y1⟩:w1.cell? ⟨G,0,none⟩=some Ym∧w1.cell? ⟨G,1,none⟩=some (.map (some M)):=by
   constructor<;>simp[Ξ.cell?,h1.blk]
  rw[Yp]at hput;unfold lH aq at hput;have Pz:gR w0 K κ E ((i,g.nodes.length)::g.met):=by
   refine⟨λp hp=>?_,?_⟩
   ·rcases zav.1 hp with rfl|hp
    ·exact⟨hi,HAT.out⟩
    ·exact HM.out.at_ p hp
   ·rw[zaD,List.nodup_cons];refine⟨λsf=>?_,HM.out.nd⟩;obtain⟨q,hq1,xw⟩:=zbc.1 sf;have:=List.lookup_eq_none_iff.1 hq q hq1;simp[xw]at this
  have h1b:=h1.blk;generalize hw2:({ w1 with heap:=w1.heap.setIfInBounds M o }:Ξ)=w2 at *;have hs2:=k2.size;have mk2:=U6 w2;have hb3:η w2.heap.size w2 (w2.alloc (.cells (π #[Γ Δ 0] vs.length) 3)):=(zad _ _).alloc (zab _) _;have h3:=h2.above hb3;have Yq:Hid ((w2.alloc (.cells (π #[Γ Δ 0] vs.length) 3)).ownsRow 0 58 1 (.slice ha vs.length hc) vs.length vs):=by
   have hrow:=oD.out;refine⟨hrow.1,hrow.2.imp id ?_⟩;rintro ⟨b,cp,cu,p1,p2,p3,p4⟩;have hbl:b<w.heap.size:=(zaf.1 p3).1;have hbG:b≠G:=λe=>by rw[e,HH.out.blk]at p3;simp at p3
   have hbM:b≠M:=λe=>by obtain⟨es,cl,q2,-⟩:=HH.out.map;rw[e,q2]at p3;simp at p3
   have hbN:=dS.vQ HH.out b _ p3 (λcur e=>by simp at e);exact⟨b,cp,cu,p1,p2,(hb3.block b (by omega)).trans ((k2.block b hbl hbG hbM hbN).trans p3),p4⟩
  have oy:Hid (kZ G M nv.ownBlock w (w2.alloc (.cells (π #[Γ Δ 0] vs.length) 3))):=k2.trans ((Kp.aA hb3).a _);have hw0:=h2.low.size;have HT:Hid _:=Hb Ov.out w (w2.alloc (.cells (π #[Γ Δ 0] vs.length) 3)) bC nv g.nodes.length w2.heap.size (.slice ha vs.length hc) vs l _ g2 Oy nv2 ks HL.out ud (by simp) UQ hD bV h3 Pz oy.out b2 s2 (by rw[zas,R6]) hs2 hw0 (λsv sT e=>by have:=h2.sub_lt sv sT _ e;omega) Yq.out;clear vS h1 k1 b1 s1 hmap h2 k2 b2 s2 hb3 h3 Pz hw2 HC HL Ov oD Yq oy HH HM Jo HAT U6
  go_upto_region 6 with fail
  rename_i hK;have HKK:Hid _:=hK;clear hK;go_wp2_with fail;exact HKK.out _ _ (HT.out _ _ _ _ _ _ _ _ _ _ _ _ _ _ _ _ _ _ _ _ _ _ _ _ _ _ _ _ _ _ _ _ _ _ _ _ _ _ _ _ _ _ _ _ _ _ _ _ _ _ _ _ _ _ _ _ _ _)
end
theorem ql:eW prog 150=true:=by kernel_rfl
theorem Aa:(prog.info? 150).bind (·.zero)=some (.pointer none):=by kernel_rfl
theorem oF:eW prog 163=true:=by kernel_rfl
theorem zeroV:(prog.info? 163).bind (·.zero)=some (.pointer none):=by kernel_rfl
theorem vT:eW prog 158=true:=by kernel_rfl
theorem Hc:(prog.info? 158).bind (·.zero)=some (.pointer none):=by kernel_rfl
theorem Ab:eW prog 168=true:=by kernel_rfl
theorem MB:(prog.info? 168).bind (·.zero)=some (.agg #[.string ⟨#[]⟩]):=by kernel_rfl
theorem Ew:eW prog 153=true:=by kernel_rfl
theorem KE:(prog.info? 153).bind (·.zero)=some (.agg #[Γ Δ 0,Γ Δ 0]):=by kernel_rfl
theorem Ex:eW prog 155=true:=by kernel_rfl
theorem R7:(prog.info? 155).bind (·.zero)=some (.agg #[Γ Δ 0]):=by kernel_rfl
theorem R8:eW prog 157=true:=by kernel_rfl
theorem ab8:(prog.info? 157).bind (·.zero)=some (.agg #[Γ Δ 0]):=by kernel_rfl
theorem Oz (s:ByteArray)(w:Ξ)(ZR:s.size≤281474976710656):Ω prog 83 #[.string s] w λe w'=>e=.returned (.string s)∧η w.heap.size w w':=by
 have HC:Hid _:=Tryz.stringslite_Clone s w ZR;go_enter func83,ntmps83;go_wp2_with fail;refine zae HC.out ?_;rintro e w1 ⟨rfl,hb⟩;have HB:Hid _:=hb;clear hb;go_wp2_with fail;go_ret;exact⟨rfl,HB.out⟩
section
variable {w0 w:Ξ}{G M K lo:Nat}{L:List Int}{κ:Nat→HK}{E:Env}{g:mO}{bC:List Φ}{nv v:Φ}
theorem Grown.above {w1 w2:Ξ}{g':mO}(h:Grown w0 w1 w2 G M κ E bC nv g')(hb:η w.heap.size w w1):Grown w0 w w2 G M κ E bC nv g':=by
 obtain⟨zX,WC,h1,h2,h3,h4⟩:=h;have hs:=hb.size;exact⟨zX,WC,h1,((Kp.aA hb).a _).trans h2,h3.imp id (λ⟨b,e,q⟩=>⟨b,e,by omega⟩),λsv sT b hb'=>(h4 sv sT b hb').imp id λq=>by omega⟩
theorem WH (h:dS w0 w G M κ E g bC nv)(hl:g.nodes.length+1≤1000000)(HC:Hid (Ω prog 78 #[v] w λe w'=>∃v',e=.returned v'∧w'=w∧bf lo K L w0 E .nil v')):Ω prog 48 #[aq G,v] w λe w'=>e=.returned (Γ Δ (g.nodes.length:Nat))∧Grown w0 w w' G M κ E bC nv (g.add ⟨0,[],0,0,[]⟩):=by
 have HA:Hid _:=lI h ⟨0,[],0,0,[]⟩ rfl hl;clear h;unfold aq kO at HA;simp only at HA;unfold aq;go_enter func48,ntmps48;go_wp2_with fail;refine zae HC.out ?_;rintro e w' ⟨v',rfl,rfl,hd⟩;unfold bf at hd;subst hd;have a1:(Λ (.iface 272 (.agg #[])) 58 150 true).run prog w'=_:=ai w' ql Aa (by decide);have a2:(Λ (.iface 272 (.agg #[])) 58 163 true).run prog w'=_:=ai w' oF zeroV (by decide);have a3:(Λ (.iface 272 (.agg #[])) 58 158 true).run prog w'=_:=ai w' vT Hc (by decide);have a4:(Λ (.iface 272 (.agg #[])) 58 168 true).run prog w'=_:=ai w' Ab MB (by decide);have a5:(Λ (.iface 272 (.agg #[])) 58 153 true).run prog w'=_:=ai w' Ew KE (by decide);have a6:(Λ (.iface 272 (.agg #[])) 58 155 true).run prog w'=_:=ai w' Ex R7 (by decide);have a7:(Λ (.iface 272 (.agg #[])) 58 157 true).run prog w'=_:=ai w' R8 ab8 (by decide);clear HC;go_wp2_with fail;refine zae HA.out ?_;rintro e w1 ⟨rfl,vS⟩;have HG:Hid _:=vS;clear vS HA;go_wp2_with fail;go_ret;exact⟨rfl,HG.out⟩
end
section
variable {w0 w:Ξ}{G M K lo:Nat}{L:List Int}{κ:Nat→HK}{E:Env}{g:mO}{bC:List Φ}{nv v:Φ}
theorem WI (a b:Int)(h:dS w0 w G M κ E g bC nv)(hl:g.nodes.length+1≤1000000)(HC:Hid (Ω prog 78 #[v] w λe w'=>∃v',e=.returned v'∧w'=w∧bf lo K L w0 E (.num a b) v')):Ω prog 48 #[aq G,v] w λe w'=>e=.returned (Γ Δ (g.nodes.length:Nat))∧Grown w0 w w' G M κ E bC nv (g.add ⟨5,[],a,b,[]⟩):=by
 have hb:η w.heap.size w (w.alloc (.cells #[Γ Δ a,Γ Δ b] 153)):=(zad _ _).alloc (zab _) _;have HB:Hid _:=hb;have HA:Hid _:=lI (h.above hb) ⟨5,[],a,b,[]⟩ rfl hl;clear h hb;unfold aq kO at HA;simp only at HA;unfold aq;go_enter func48,ntmps48;go_wp2_with fail;refine zae HC.out ?_;rintro e w' ⟨v',rfl,rfl,hd⟩;unfold bf at hd;subst hd;have a1:(Λ (.iface 153 (.agg #[Γ Δ a,Γ Δ b])) 58 150 true).run prog w'=_:=ai w' ql Aa (by decide);have a2:(Λ (.iface 153 (.agg #[Γ Δ a,Γ Δ b])) 58 163 true).run prog w'=_:=ai w' oF zeroV (by decide);have a3:(Λ (.iface 153 (.agg #[Γ Δ a,Γ Δ b])) 58 158 true).run prog w'=_:=ai w' vT Hc (by decide);have a4:(Λ (.iface 153 (.agg #[Γ Δ a,Γ Δ b])) 58 168 true).run prog w'=_:=ai w' Ab MB (by decide);have a5:(Λ (.iface 153 (.agg #[Γ Δ a,Γ Δ b])) 58 153 true).run prog w'=_:=bA w' Ew;clear HC;go_wp2_with fail;refine zae HA.out ?_;rintro e w1 ⟨rfl,vS⟩;have HG:Hid _:=Grown.above vS HB.out;clear vS HA HB;go_wp2_with fail;go_ret;exact⟨rfl,HG.out⟩
theorem OA (a:Int)(h:dS w0 w G M κ E g bC nv)(hl:g.nodes.length+1≤1000000)(HC:Hid (Ω prog 78 #[v] w λe w'=>∃v',e=.returned v'∧w'=w∧bf lo K L w0 E (.cU a) v')):Ω prog 48 #[aq G,v] w λe w'=>e=.returned (Γ Δ (g.nodes.length:Nat))∧Grown w0 w w' G M κ E bC nv (g.add ⟨6,[],a,0,[]⟩):=by
 have hb:η w.heap.size w (w.alloc (.cells #[Γ Δ a] 155)):=(zad _ _).alloc (zab _) _;have HB:Hid _:=hb;have HA:Hid _:=lI (h.above hb) ⟨6,[],a,0,[]⟩ rfl hl;clear h hb;unfold aq kO at HA;simp only at HA;unfold aq;go_enter func48,ntmps48;go_wp2_with fail;refine zae HC.out ?_;rintro e w' ⟨v',rfl,rfl,hd⟩;unfold bf at hd;subst hd;have a1:(Λ (.iface 155 (.agg #[Γ Δ a])) 58 150 true).run prog w'=_:=ai w' ql Aa (by decide);have a2:(Λ (.iface 155 (.agg #[Γ Δ a])) 58 163 true).run prog w'=_:=ai w' oF zeroV (by decide);have a3:(Λ (.iface 155 (.agg #[Γ Δ a])) 58 158 true).run prog w'=_:=ai w' vT Hc (by decide);have a4:(Λ (.iface 155 (.agg #[Γ Δ a])) 58 168 true).run prog w'=_:=ai w' Ab MB (by decide);have a5:(Λ (.iface 155 (.agg #[Γ Δ a])) 58 153 true).run prog w'=_:=ai w' Ew KE (by decide);have a6:(Λ (.iface 155 (.agg #[Γ Δ a])) 58 155 true).run prog w'=_:=bA w' Ex;clear HC;go_wp2_with fail;refine zae HA.out ?_;rintro e w1 ⟨rfl,vS⟩;have HG:Hid _:=Grown.above vS HB.out;clear vS HA HB;go_wp2_with fail;go_ret;exact⟨rfl,HG.out⟩
theorem WJ (a:Int)(h:dS w0 w G M κ E g bC nv)(hl:g.nodes.length+1≤1000000)(HC:Hid (Ω prog 78 #[v] w λe w'=>∃v',e=.returned v'∧w'=w∧bf lo K L w0 E (.sQ a) v')):Ω prog 48 #[aq G,v] w λe w'=>e=.returned (Γ Δ (g.nodes.length:Nat))∧Grown w0 w w' G M κ E bC nv (g.add ⟨7,[],a,0,[]⟩):=by
 have hb:η w.heap.size w (w.alloc (.cells #[Γ Δ a] 157)):=(zad _ _).alloc (zab _) _;have HB:Hid _:=hb;have HA:Hid _:=lI (h.above hb) ⟨7,[],a,0,[]⟩ rfl hl;clear h hb;unfold aq kO at HA;simp only at HA;unfold aq;go_enter func48,ntmps48;go_wp2_with fail;refine zae HC.out ?_;rintro e w' ⟨v',rfl,rfl,hd⟩;unfold bf at hd;subst hd;have a1:(Λ (.iface 157 (.agg #[Γ Δ a])) 58 150 true).run prog w'=_:=ai w' ql Aa (by decide);have a2:(Λ (.iface 157 (.agg #[Γ Δ a])) 58 163 true).run prog w'=_:=ai w' oF zeroV (by decide);have a3:(Λ (.iface 157 (.agg #[Γ Δ a])) 58 158 true).run prog w'=_:=ai w' vT Hc (by decide);have a4:(Λ (.iface 157 (.agg #[Γ Δ a])) 58 168 true).run prog w'=_:=ai w' Ab MB (by decide);have a5:(Λ (.iface 157 (.agg #[Γ Δ a])) 58 153 true).run prog w'=_:=ai w' Ew KE (by decide);have a6:(Λ (.iface 157 (.agg #[Γ Δ a])) 58 155 true).run prog w'=_:=ai w' Ex R7 (by decide);have a7:(Λ (.iface 157 (.agg #[Γ Δ a])) 58 157 true).run prog w'=_:=bA w' R8;clear HC;go_wp2_with fail;refine zae HA.out ?_;rintro e w1 ⟨rfl,vS⟩;have HG:Hid _:=Grown.above vS HB.out;clear vS HA HB;go_wp2_with fail;go_ret;exact⟨rfl,HG.out⟩
theorem WK (s:List UInt8)(hs:s.length≤1000000)(h:dS w0 w G M κ E g bC nv)(hl:g.nodes.length+1≤1000000)(HC:Hid (Ω prog 78 #[v] w λe w'=>∃v',e=.returned v'∧w'=w∧bf lo K L w0 E (.sym s) v')):Ω prog 48 #[aq G,v] w λe w'=>e=.returned (Γ Δ (g.nodes.length:Nat))∧Grown w0 w w' G M κ E bC nv (g.add ⟨4,s,0,0,[]⟩):=by
 have hb:η w.heap.size w (w.alloc (.cells #[.string ⟨⟨s⟩⟩] 168)):=(zad _ _).alloc (zab _) _;have HCL:Hid _:=Oz ⟨⟨s⟩⟩ (w.alloc (.cells #[.string ⟨⟨s⟩⟩] 168)) (by show s.length≤_;omega);have HB:Hid _:=hb;have HH:Hid _:=h;clear h hb;unfold aq;go_enter func48,ntmps48;go_wp2_with fail;refine zae HC.out ?_;rintro e w' ⟨v',rfl,rfl,hd⟩;unfold bf at hd;subst hd;have a1:(Λ (.iface 168 (.agg #[.string ⟨⟨s⟩⟩])) 58 150 true).run prog w'=_:=ai w' ql Aa (by decide);have a2:(Λ (.iface 168 (.agg #[.string ⟨⟨s⟩⟩])) 58 163 true).run prog w'=_:=ai w' oF zeroV (by decide);have a3:(Λ (.iface 168 (.agg #[.string ⟨⟨s⟩⟩])) 58 158 true).run prog w'=_:=ai w' vT Hc (by decide);have a4:(Λ (.iface 168 (.agg #[.string ⟨⟨s⟩⟩])) 58 168 true).run prog w'=_:=bA w' Ab;clear HC;go_wp2_with fail;refine zae HCL.out ?_;rintro e w2 ⟨rfl,hb2⟩;have hb3:η w'.heap.size w' w2:=⟨hb2.os.trans HB.out.os,hb2.tape.trans HB.out.tape,hb2.output.trans HB.out.output,zah HB.out.size hb2.size,λb hlt=>(hb2.block b (zaL hlt HB.out.size)).trans (HB.out.block b hlt)⟩;have jl:Hid _:=hb3;have HA:Hid _:=lI (dS.above HH.out hb3) ⟨4,s,0,0,[]⟩ rfl hl;clear hb2 hb3 HCL HB HH;unfold aq kO at HA;simp only at HA;go_wp2_with fail;refine zae HA.out ?_;rintro e w1 ⟨rfl,vS⟩;have HG:Hid _:=Grown.above vS jl.out;clear vS HA jl;go_wp2_with fail;go_ret;exact⟨rfl,HG.out⟩
end
section
variable {w0 w:Ξ}{G M K lo:Nat}{L:List Int}{κ:Nat→HK}{E:Env}{g:mO}{bC:List Φ}{nv v:Φ}{root:Dt}
theorem cX.len:∀{l:Dt} {vs:List Φ},cX lo K L w0 E l vs→vs.length=l.R2
 |.cD a l,vs,h=>by
  unfold cX at h;obtain⟨v,r,rfl,_,h2⟩:=h;simp[Dt.R2,cX.len h2]
 |.gJ,vs,h=>by unfold cX at h;subst h;rfl
 |.nil,_,h=>by unfold cX at h;exact h.elim
 |.sym _,_,h=>by unfold cX at h;exact h.elim
 |.num _ _,_,h=>by unfold cX at h;exact h.elim
 |.cU _,_,h=>by unfold cX at h;exact h.elim
 |.sQ _,_,h=>by unfold cX at h;exact h.elim
 |.txt _ _,_,h=>by unfold cX at h;exact h.elim
 |.pair _ _ _,_,h=>by unfold cX at h;exact h.elim
 |.vec _ _,_,h=>by unfold cX at h;exact h.elim
 |.put _ _,_,h=>by unfold cX at h;exact h.elim
 |.ask _,_,h=>by unfold cX at h;exact h.elim
theorem bf.iface:∀{d:Dt} {v:Φ},bf lo K L w0 E d v→∃t y,v=.iface t y
 |.nil,v,h=>by unfold bf at h;exact⟨_,_,h⟩
 |.sym _,v,h=>by unfold bf at h;exact⟨_,_,h⟩
 |.num _ _,v,h=>by unfold bf at h;exact⟨_,_,h⟩
 |.cU _,v,h=>by unfold bf at h;exact⟨_,_,h⟩
 |.sQ _,v,h=>by unfold bf at h;exact⟨_,_,h⟩
 |.txt _ _,v,h=>by unfold bf at h;exact⟨_,_,h.2.2.1⟩
 |.pair _ _ _,v,h=>by unfold bf at h;exact⟨_,_,h.2.2.1⟩
 |.vec _ _,v,h=>by unfold bf at h;exact⟨_,_,h.2.2.1⟩
 |.put _ d,v,h=>by unfold bf at h;exact bf.iface (d:=d) h.2.2.2
 |.ask _,v,h=>by unfold bf at h;exact⟨_,_,h.2⟩
 |.gJ,v,h=>by unfold bf at h;exact h.elim
 |.cD _ _,v,h=>by unfold bf at h;exact h.elim
theorem WL (i:Nat)(s:List UInt8)(hgr:mg w0 lo K L κ E root)(h:dS w0 w G M κ E g bC nv)(hm:gR w0 K κ E g.met)(hl:g.nodes.length+1≤1000000)(HC:Hid (Ω prog 78 #[v] w λe w'=>∃v',e=.returned v'∧w'=w∧bf lo K L w0 E (.txt i s) v'))(k:Nat)(g':mO)
 (cn:(match g.met.lookup i with|some k=>some (k,g)|none=>some (g.nodes.length,⟨g.nodes++[⟨3,s,0,0,[]⟩],(i,g.nodes.length)::g.met⟩))=some (k,g')):
 Ω prog 48 #[aq G,v] w λe w'=>e=.returned (Γ Δ (k:Nat))∧Grown w0 w w' G M κ E bC nv g'∧i<K∧lZ w0 (κ i) (E.α i):=by
 have HH:Hid _:=h;have HM:Hid _:=hm;have Jo:Hid _:=hgr;have HN:Hid _:=cn;clear h hm hgr cn;unfold aq;go_enter func48,ntmps48;go_wp2_with fail;refine zae HC.out ?_;rintro e w' ⟨v',rfl,rfl,hd⟩;unfold bf at hd;obtain⟨hi,-,rfl,hx⟩:=hd;have hk:κ i=.txt:=Jo.out.kind i .txt hi ⟨_,hx⟩;have hat:lZ w0 (κ i) (E.α i):=by rw[hk];exact⟨_,hx⟩
 have HAT:Hid _:=hat
 have HT:Hid _:=RZ HH.out HM.out Jo.out.inj hi hk hx hl;unfold aq at HT ⊢;have a1:(Λ (.iface 158 (.pointer (some ⟨E.α i,0,none⟩))) 58 150 true).run prog w'=_:=ai w' ql Aa (by decide);have a2:(Λ (.iface 158 (.pointer (some ⟨E.α i,0,none⟩))) 58 163 true).run prog w'=_:=ai w' oF zeroV (by decide);have a3:(Λ (.iface 158 (.pointer (some ⟨E.α i,0,none⟩))) 58 158 true).run prog w'=_:=bA w' vT;clear HC hx HH HM Jo hat
 go_wp2_with fail;refine zae HT.out ?_;rintro e w1 ⟨k1,g1,hq,rfl,vS⟩;obtain⟨rfl,rfl⟩:k1=k∧g1=g':=by
  have:=hq.symm.trans HN.out;simp only[zaG,zag]at this;exact this
 have HG:Hid _:=vS;clear hq vS HT HN;go_wp2_with fail;go_ret;exact⟨rfl,HG.out,hi,HAT.out⟩
theorem WM {n:Nat}(i:Nat)(l:Dt)(hgr:mg w0 lo K L κ E root)(ih:∀m,m≤n→zY w0 lo K L κ E root G M m)(h:dS w0 w G M κ E g bC nv)(hm:gR w0 K κ E g.met)(bV:aW root (.vec i l)=true)(HC:Hid (Ω prog 78 #[v] w λe w'=>∃v',e=.returned v'∧w'=w∧bf lo K L w0 E (.vec i l) v'))(k:Nat)(g':mO)
 (cn:(match g.met.lookup i with|some k=>some (k,g)|none=>(iz root n l [] ⟨g.nodes++[⟨2,[],0,0,[]⟩],(i,g.nodes.length)::g.met⟩).map λy=>(g.nodes.length,{ y.2 with nodes:=dJ y.2.nodes g.nodes.length y.1 }))=some (k,g'))(hlen:g'.nodes.length≤999999):
 Ω prog 48 #[aq G,v] w λe w'=>e=.returned (Γ Δ (k:Nat))∧Grown w0 w w' G M κ E bC nv g'∧gR w0 K κ E g'.met:=by
 have HH:Hid _:=h;have HM:Hid _:=hm;have Jo:Hid _:=hgr;have Ov:Hid _:=ih;have HN:Hid _:=cn;simp only[aW,zaj,zaQ]at bV;clear h hm hgr ih cn;unfold aq;go_enter func48,ntmps48;go_wp2_with fail;refine zae HC.out ?_;rintro e w' ⟨v',rfl,rfl,hd⟩;unfold bf at hd;obtain⟨hi,-,rfl,sl,vs,hx,hrow,hdl⟩:=hd;have dP:=HH.out.low;have HT:Hid _:=zZ Jo.out Ov.out HH.out HM.out hi (hk:= .vec) ⟨_,hx⟩ 2 l sl vs hdl bV.2 (by rw[hdl.len];exact bV.1) (aX hrow (zaw _) λb _ hb=>dP.block b hb) k g' HN.out hlen;have hx1:=(dP.block (E.α i) (zaf.1 hx).1).trans hx;have x0:w'.cell? ⟨E.α i,0,none⟩=some sl:=by simp[Ξ.cell?,hx1]
 unfold lH aq at HT;unfold aq;simp only[HK.p]at HT;have a1:(Λ (.iface 163 (.pointer (some ⟨E.α i,0,none⟩))) 58 150 true).run prog w'=_:=ai w' ql Aa (by decide);have a2:(Λ (.iface 163 (.pointer (some ⟨E.α i,0,none⟩))) 58 163 true).run prog w'=_:=bA w' oF;clear HC hx HH HM Jo Ov HN dP hx1 hrow hdl;go_wp2_with fail;refine zae HT.out ?_;rintro e w1 ⟨rfl,vS⟩;have HG:Hid _:=vS;clear vS HT;go_wp2_with fail;go_ret;exact⟨rfl,HG.out⟩
theorem R9 {n:Nat}(i:Nat)(a b:Dt)(hgr:mg w0 lo K L κ E root)(ih:∀m,m≤n→zY w0 lo K L κ E root G M m)(h:dS w0 w G M κ E g bC nv)(hm:gR w0 K κ E g.met)(bV:aW root (.pair i a b)=true)(HC:Hid (Ω prog 78 #[v] w λe w'=>∃v',e=.returned v'∧w'=w∧bf lo K L w0 E (.pair i a b) v'))(k:Nat)(g':mO)
 (cn:(match g.met.lookup i with|some k=>some (k,g)|none=>(iz root n (.cD a (.cD b .gJ)) [] ⟨g.nodes++[⟨1,[],0,0,[]⟩],(i,g.nodes.length)::g.met⟩).map λy=>(g.nodes.length,{ y.2 with nodes:=dJ y.2.nodes g.nodes.length y.1 }))=some (k,g'))(hlen:g'.nodes.length≤999999):
 Ω prog 48 #[aq G,v] w λe w'=>e=.returned (Γ Δ (k:Nat))∧Grown w0 w w' G M κ E bC nv g'∧gR w0 K κ E g'.met:=by
 have mixed:prog.follows ι=true:=by kernel_rfl
 have HH:Hid _:=h;have HM:Hid _:=hm;have Jo:Hid _:=hgr;have Ov:Hid _:=ih;have HN:Hid _:=cn;simp only[aW,zaj]at bV;clear h hm hgr ih cn;unfold aq;go_enter func48,ntmps48;go_wp2_with fail;refine zae HC.out ?_;rintro e w' ⟨v',rfl,rfl,hd⟩;unfold bf at hd;obtain⟨hi,-,rfl,va,vb,hx,Ox,U7⟩:=hd;obtain⟨ta,ya,rfl⟩:=Ox.iface;obtain⟨tb,yb,rfl⟩:=U7.iface;have dP:=HH.out.low;have hb:η w'.heap.size w' ((w'.alloc (.cells #[.iface ta ya,.iface tb yb] 58)).drew):=((zad _ _).alloc (zab _) _).drew;have HB:Hid _:=hb;have HT:Hid _:=zZ Jo.out Ov.out (dS.above HH.out hb) HM.out hi (hk:= .pair) ⟨_,hx⟩ 1 (.cD a (.cD b .gJ)) (.slice (some ⟨w'.heap.size,0,none⟩) 2 2) [.iface ta ya,.iface tb yb] (by unfold cX;exact⟨.iface ta ya,[.iface tb yb],rfl,Ox,by unfold cX;exact⟨.iface tb yb,[],rfl,U7,by unfold cX;rfl⟩⟩) (by simp[aW,bV]) (by simp) (aX (w:=w'.alloc (.cells #[.iface ta ya,.iface tb yb] 58)) (aev w' _ _) (zaw _) λ_ _ _=>rfl) k g' HN.out hlen;have hx1:=(dP.block (E.α i) (zaf.1 hx).1).trans hx;have x0:w'.cell? ⟨E.α i,0,none⟩=some (.iface ta ya):=by simp[Ξ.cell?,hx1]
 have x1:w'.cell? ⟨E.α i,1,none⟩=some (.iface tb yb):=by simp[Ξ.cell?,hx1]
 unfold lH aq at HT;unfold aq;simp only[HK.p]at HT;have a1:(Λ (.iface 150 (.pointer (some ⟨E.α i,0,none⟩))) 58 150 true).run prog w'=_:=bA w' ql;clear HC hx HH HM Jo Ov HN dP hx1 Ox U7 hb;go_wp2_with fail
 go_region_with (refine zae HT.out ?_;rintro e w1 ⟨rfl,vS⟩;have HG:Hid _:=vS;clear vS)
 all_goals
  go_wp2_with fail;go_ret;exact⟨rfl,Grown.above HG.out.1 HB.out,HG.out.2⟩
end
end Go.Proofs.YtlhimdjkkiflhaaGreatDoor
namespace Go.Proofs.YtlhimdjkkiflhaaGreatDoor
open Go.RowKit Go.Loop
theorem Ac {root:Dt}:∀{d:Dt} {v:Φ} {w0:Ξ} {lo K:Nat} {L:List Int} {E:Env},bf lo K L w0 E d v→aW root d=true→(bN root 200000 d).hd=true
 |.ask m,_,_,_,_,_,_,_,h=>by simp only[aW,zaj]at h;exact h.2
 |.put n x,_,_,_,_,_,_,_,h=>by simp only[aW,zaj]at h;exact h.1
 |.nil,_,_,_,_,_,_,_,_=>rfl
 |.sym _,_,_,_,_,_,_,_,_=>rfl
 |.num _ _,_,_,_,_,_,_,_,_=>rfl
 |.cU _,_,_,_,_,_,_,_,_=>rfl
 |.sQ _,_,_,_,_,_,_,_,_=>rfl
 |.txt _ _,_,_,_,_,_,_,_,_=>rfl
 |.pair _ _ _,_,_,_,_,_,_,_,_=>rfl
 |.vec _ _,_,_,_,_,_,_,_,_=>rfl
 |.gJ,_,_,_,_,_,_,hd,_=>by unfold bf at hd;exact hd.elim
 |.cD _ _,_,_,_,_,_,_,hd,_=>by unfold bf at hd;exact hd.elim
theorem gR.cons {w0:Ξ}{K:Nat}{κ:Nat→HK}{E:Env}{met:List (Nat×Nat)}(h:gR w0 K κ E met){i k:Nat}(hi:i<K)(hat:lZ w0 (κ i) (E.α i))(hq:met.lookup i=none):gR w0 K κ E ((i,k)::met):=by
 refine⟨λp hp=>?_,?_⟩
 ·rcases zav.1 hp with rfl|hp
  ·exact⟨hi,hat⟩
  ·exact h.at_ p hp
 ·rw[zaD,List.nodup_cons];refine⟨λsf=>?_,h.nd⟩;obtain⟨q,hq1,xw⟩:=zbc.1 sf;have:=List.lookup_eq_none_iff.1 hq q hq1;simp[xw]at this
section
variable {w0:Ξ}{G M K lo:Nat}{L:List Int}{κ:Nat→HK}{E:Env}{root:Dt}
theorem Hd {n:Nat}(hgr:mg w0 lo K L κ E root)(ih:∀m,m≤n→zY w0 lo K L κ E root G M m):zY w0 lo K L κ E root G M (n+1):=by
 intro d v w g bC nv k g' cI bV h hm cn hlen;obtain⟨rv,nE⟩:=hgr.dat
 have CR:=Ac cI bV;have HC:Hid _:=CQ h.low nE (fO hgr.good) 200000 d v cI (fO bV) CR;have hgm:=qj hgr.good 200000 d bV;have hgrow:=(nI root (n+1)).1 _ _ _ _ cn;unfold iy at cn;cases ht:bN root 200000 d with
 |nil=>
  rw[ht]at cn HC;cases cn;exact(WH h (by simp[mO.add]at hlen;omega) HC).mono λe w' hx=>⟨hx.1,hx.2,hm⟩
 |sym s=>
  rw[ht]at cn HC hgm;cases cn;exact(WK s (by simpa[aW]using hgm) h (by simp[mO.add]at hlen;omega) HC).mono λe w' hx=>⟨hx.1,hx.2,hm⟩
 |num a b=>
  rw[ht]at cn HC;cases cn;exact(WI a b h (by simp[mO.add]at hlen;omega) HC).mono λe w' hx=>⟨hx.1,hx.2,hm⟩
 |cU a=>
  rw[ht]at cn HC;cases cn;exact(OA a h (by simp[mO.add]at hlen;omega) HC).mono λe w' hx=>⟨hx.1,hx.2,hm⟩
 |sQ a=>
  rw[ht]at cn HC;cases cn;exact(WJ a h (by simp[mO.add]at hlen;omega) HC).mono λe w' hx=>⟨hx.1,hx.2,hm⟩
 |txt i s=>
  rw[ht]at cn HC;have hl:g.nodes.length+1≤1000000:=by omega
  refine(WL i s hgr h hm hl HC k g' cn).mono λe w' hx=>⟨hx.1,hx.2.1,?_⟩;cases hq:g.met.lookup i with
  |some k0=>simp only[hq]at cn;cases cn;exact hm
  |none=>simp only[hq]at cn;cases cn;exact hm.cons hx.2.2.1 hx.2.2.2 hq
 |pair i a b=>
  rw[ht]at cn HC hgm;exact R9 i a b hgr ih h hm hgm HC k g' cn hlen
 |vec i l=>
  rw[ht]at cn HC hgm;exact WM i l hgr ih h hm hgm HC k g' cn hlen
 |put n x=>rw[ht]at CR;simp[Dt.hd]at CR
 |ask m=>rw[ht]at CR;simp[Dt.hd]at CR
 |gJ=>rw[ht]at CR;simp[Dt.hd]at CR
 |cD a l=>rw[ht]at CR;simp[Dt.hd]at CR
theorem Ad (hgr:mg w0 lo K L κ E root):∀N n,n≤N→zY w0 lo K L κ E root G M n
 |0,n,h=>by
  obtain rfl:n=0:=by omega
  intro d v w g bC nv k g' _ _ _ _ cn;simp[iy]at cn
 |N+1,n,h=>by
  have ih:=Ad hgr N;cases n with
  |zero=>exact ih 0 (zaw _)
  |succ n=>exact Hd hgr λm hm=>ih m (by omega)
end
end Go.Proofs.YtlhimdjkkiflhaaGreatDoor
namespace Go.Proofs.YtlhimdjkkiflhaaGreatDoor
open Go.Proofs.Tryz
open Go.RowKit Go.Loop
def bJ (w:Ξ)(lo:Nat)(nv:Φ)(bC:List Φ)(nodes:List mb):Prop:=
 w.ownsRow lo 45 5 nv nodes.length (xC nodes bC)∧bC.length=nodes.length∧∀(j:Nat) x sv,nodes[j]?=some x→bC[j]?=some sv→Yk w lo sv x.subs
theorem xc (w0:Ξ)(E:Env):∃κ:Nat→HK,∀i h,lZ w0 h (E.α i)→κ i=h:=by
 have hex:∀i,∃k:HK,∀h,lZ w0 h (E.α i)→k=h:=λi=>by
  by_cases e:∃h,lZ w0 h (E.α i)
  ·obtain⟨h,hh⟩:=e;exact⟨h,λh' Ya=>hh.same Ya⟩
  ·exact⟨.txt,λh hh=>absurd ⟨h,hh⟩ e⟩
 exact⟨λi=>Classical.choose (hex i),λi=>zaR (hex i)⟩
theorem He {lo K:Nat}{L:List Int}{E:Env}(w:Ξ)(root:Dt)(v:Φ)(hd:bf lo K L w E root v)(bV:aW root root=true)(nH:∀i j,i<K→j<K→E.α i=E.α j→i=j)(f:Nat)(k:Nat)(g':mO)(cn:iy root f root ⟨[],[]⟩=some (k,g'))(hlen:g'.nodes.length≤999999):Ω prog 30 #[v] w λe w'=>∃nv bC,e=.returned nv∧bJ w' w.heap.size nv bC g'.nodes∧η w.heap.size w w':=by
 obtain⟨κ,Yp⟩:=xc w E;have hgr:mg w lo K L κ E root:=⟨⟨v,hd⟩,bV,nH,λi h _ hh=>Yp i h hh⟩;have hb2:η w.heap.size w ((w.alloc (.map #[] 0)).alloc (.cells #[.slice none 0 0,.map (some w.heap.size)] 100)):=((zad _ w).alloc (zab _) _).alloc (by simp) _;have hG:dS w ((w.alloc (.map #[] 0)).alloc (.cells #[.slice none 0 0,.map (some w.heap.size)] 100)) (w.heap.size+1) w.heap.size κ E ⟨[],[]⟩ [] (.slice none 0 0):=
  ⟨by omega,by omega,zab _,hb2,dM w _ _,zbO _ _ _ _,⟨#[],0,(zaK _ _ _ (by simp)).trans (zas w _),rfl⟩,rfl,λj x sv h=>(by simp at h)⟩
 have HN:Hid _:=Ad hgr f f (zab _) root v _ ⟨[],[]⟩ [] (.slice none 0 0) k g' hd bV hG ⟨λp hp=>(by cases hp),List.nodup_nil⟩ cn hlen;have U6:(Instr.makeMap 98 none).run prog w=.ok (.map (some w.heap.size)) (w.alloc (.map #[] 0)):=rfl;clear hgr hb2 hG hd bV nH cn;unfold aq at HN;go_enter func30,ntmps30;go_wp2_with fail;refine zae HN.out ?_;rintro e w1 ⟨rfl,⟨bC,nv,hG,-,-,-⟩,-⟩;have HF:Hid (bJ w1 w.heap.size nv bC g'.nodes∧η w.heap.size w w1):=⟨⟨hG.row,hG.len,hG.subs⟩,hG.low⟩;have y0:w1.cell? ⟨w.heap.size+1,0,none⟩=some nv:=by
  have hblk:=hG.blk;simp[Ξ.cell?,hblk]
 clear hG HN;go_wp2_with fail;go_ret;exact⟨nv,bC,rfl,HF.out⟩
section
variable {R M g cap:Nat}{T:List Tok}{dp:Nat}
theorem aae {n:Nat}(ih:IH R M g cap T dp n):Yi R M g cap T dp n:=by
 intro t p a0 n0 c0 w E s r hr ha hd eF ho;have mixed:prog.follows ι=true:=by kernel_rfl
 have hb0:η w.heap.size w ((w.alloc (jQ t)).alloc (jR p.depth p.passed a0 n0 c0)):=((zad _ w).alloc (zab _) _).alloc (by simp) _;have hs0:((w.alloc (jQ t)).alloc (jR p.depth p.passed a0 n0 c0)).heap.size=w.heap.size+1+1:=by simp
 have tZ:Hid (Kp R M w ((w.alloc (jQ t)).alloc (jR p.depth p.passed a0 n0 c0))):=Kp.aA hb0;have wP:=hr.below hb0;have sR:Hid _:=wP;have cR:=qg (w:=((w.alloc (jQ t)).alloc (jR p.depth p.passed a0 n0 c0)).drew) (M:=M) (l:=xz E s.aT) wP.lm t.n;rw[ua]at cR;have Ws:R<w.heap.size:=hr.lt;have nT:M<w.heap.size:=hr.mlt;have Cg:=hr.deep;have n1:¬R=w.heap.size:=by omega
 have n2:¬R=w.heap.size+1:=by omega
 have n3:R<w.heap.size+1:=by omega
 obtain⟨⟨r0,r1,r2,r3⟩,-⟩:=jG hr.blk;have Ky:Hid _:=ha.below hb0;have CP:∀k,(Φ.slice a0 n0 c0).ownBlock=some k→k<w.heap.size:=λk hk=>(zcx ha.1 k hk).2;have HlA:Hid (∀m∈p.ahead,m∈s.aT):=ha.2.2;have Ov:Hid _:=ih;have HO:Hid _:=ho;by_cases BQ:p.passed=true∨t.n∈s.aT∨p.depth=dp
 ·exact Oi n t p a0 n0 c0 w E s r hr eF BQ
 have hp:¬p.passed=true:=λh=>BQ (.inl h);have hl:¬t.n∈s.aT:=λh=>BQ (.inr (.inl h));have hdd:¬p.depth=dp:=λh=>BQ (.inr (.inr h));have Bt:p.passed=false:=by simpa using hp
 rw[Bt]at cR tZ sR Ky hs0 ⊢;rw[zaa hl,zbB]at cR;replace eF:=eF.trans (zaa (by simp[Bt,hl]));have hc0:(((w.alloc (jQ t)).alloc (jR p.depth false a0 n0 c0)).drew).cell? ⟨R,2,none⟩=some (Γ Δ dp):=(jG sR.out.blk).1.2.2.1
 ·have HC:Hid _:=CG R dp t p.depth false a0 n0 c0 (((w.alloc (jQ t)).alloc (jR p.depth false a0 n0 c0)).drew) hc0 (by simp;omega) (by omega) hdd;have HE:Hid _:=eF.trans (zaa hdd);have Fo:p.depth+1≤dp:=by omega
  have HT0:Hid ((((w.alloc (jQ t)).alloc (jR p.depth false a0 n0 c0)).drew).heap[w.heap.size]?=some (jQ t)):=(zaK _ _ _ (by simp)).trans (zas w _);have HP0:Hid ((((w.alloc (jQ t)).alloc (jR p.depth false a0 n0 c0)).drew).heap[w.heap.size+1]?=some (jR p.depth false a0 n0 c0)):=dM w _ _;clear eF hr wP hb0 ha hc0 hdd;unfold jd aq bB at HC ⊢;go_enter func160,ntmps160;go_wp2_with fail;go_region;go_wp2_with fail;refine zae HC.out ?_;rintro e w1 ⟨rfl,hb1⟩;have hs1:=hb1.size;have oo:=(hb1.block w.heap.size (by simp;omega)).trans HT0.out;have BC:=(hb1.block (w.heap.size+1) (by simp)).trans HP0.out;obtain⟨⟨o0,o1,o2,o3,o4,o5,o6⟩,-⟩:=dn (zad _ _) oo;obtain⟨y0,y1,y2⟩:=fR BC;have ou:Hid _:=bU.below (bU.below sR.out ((zad _ _).drew)) hb1;have RO:Hid _:=jF.below (jF.below Ky.out ((zad _ _).drew)) hb1;have CN:Hid _:=Kp.trans (Kp.trans tZ.out (Kp.aA ((zad _ _).drew))) (Kp.aA hb1);obtain⟨⟨x0,x1,x2,x3⟩,-⟩:=jG ou.out.blk;have Z9:Hid _:=BC;clear hb1 HC oo BC r0 r1 r2 r3 cR n1 n2 n3;have hRl:=ou.out.lt;have hMl:=ou.out.mlt;have e1:¬R=w1.heap.size:=by omega
  have e2:¬R=w1.heap.size+1:=by omega
  have e3:R<w1.heap.size+1:=by omega
  have e4:w.heap.size<w1.heap.size:=by simp at hs1;omega
  have e5:¬w.heap.size=w1.heap.size:=by omega
  have e6:¬w.heap.size=w1.heap.size+1:=by omega
  have e7:w.heap.size<w1.heap.size+1:=by omega
  have hb2:η w1.heap.size w1 (((w1.alloc (.cells #[Γ Δ ((p.depth:Int)+1),.bool false,.slice none 0 0] 128)).alloc (.cells #[.nilIface] 215)).drew):=(((zad _ _).alloc (zab _) _).alloc (by simp) _).drew;have CJ:Hid _:=bU.below ou.out hb2;obtain⟨o,hput,hmap⟩:=Ko (w:=((w1.alloc (.cells #[Γ Δ ((p.depth:Int)+1),.bool false,.slice none 0 0] 128)).alloc (.cells #[.nilIface] 215)).drew) (M:=M) (l:=xz E s.aT) CJ.out.lm t.n (by rw[ua,zaa hl]) (aq (w1.heap.size+1));have aez:Hid _:=hmap;generalize hw3:({ ((w1.alloc (.cells #[Γ Δ ((p.depth:Int)+1),.bool false,.slice none 0 0] 128)).alloc (.cells #[.nilIface] 215)).drew with heap:=(((w1.alloc (.cells #[Γ Δ ((p.depth:Int)+1),.bool false,.slice none 0 0] 128)).alloc (.cells #[.nilIface] 215)).drew).heap.setIfInBounds M o }:Ξ)=w3 at *;have Bv:Hid _:=hw3;clear hw3 hmap;unfold aq at hput;go_wp2_with fail;go_region;have hs3:w3.heap.size=w1.heap.size+2:=by rw[←Bv.out];simp
  have hb3:∀b,b≠M→w3.heap[b]?=(((w1.alloc (.cells #[Γ Δ ((p.depth:Int)+1),.bool false,.slice none 0 0] 128)).alloc (.cells #[.nilIface] 215)).drew).heap[b]?:=λb hb=>by
   rw[←Bv.out];exact zaB (λe=>hb e.symm)
  have hL:(((w1.alloc (.cells #[Γ Δ ((p.depth:Int)+1),.bool false,.slice none 0 0] 128)).alloc (.cells #[.nilIface] 215)).drew).heap[w1.heap.size+1]?=some (.cells #[.nilIface] 215):=dM w1 _ _;have hP2:(((w1.alloc (.cells #[Γ Δ ((p.depth:Int)+1),.bool false,.slice none 0 0] 128)).alloc (.cells #[.nilIface] 215)).drew).heap[w1.heap.size]?=some (.cells #[Γ Δ ((p.depth:Int)+1),.bool false,.slice none 0 0] 128):=(zaK _ _ _ (by simp)).trans (zas w1 _);have Mu:Hid (bU w3 R M g cap T dp (E.label t.n (w1.heap.size+1)) { s with aT:=t.n::s.aT }):=by
   rw[←Bv.out];exact bU.label CJ.out hl ⟨_,hL⟩ (λm hm e=>by
    obtain⟨v,hv⟩:=ou.out.low m hm;have:=(zaf.1 hv).1;omega) (by rw[Bv.out];exact aez.out)
  have HL3:Hid _:=(hb3 (w1.heap.size+1) (by omega)).trans hL;have U2:Hid _:=(hb3 w1.heap.size (by omega)).trans hP2;obtain⟨z0,z1,z2⟩:=fR U2.out;have hf3:w3.frozen? ⟨w1.heap.size,2,none⟩=false:=by simp[Ξ.frozen?,U2.out]
  have RU:Hid _:=(hb3 (w.heap.size+1) (by omega)).trans ((hb2.block (w.heap.size+1) (by simp at hs1;omega)).trans Z9.out);obtain⟨q0,q1,q2⟩:=fR RU.out;have xQ:jF w3 (E.label t.n (w1.heap.size+1)) { s with aT:=t.n::s.aT } p.ahead (.slice a0 n0 c0):=
   jF.kp (jF.below RO.out hb2) CJ.out (M:=M) (R:=R) ⟨by rw[←Bv.out],by rw[←Bv.out],by rw[←Bv.out],by rw[hs3];simp,λb _ _ h=>hb3 b h⟩ (qi E t.n _ s.fresh hl) λm hm=>zap _ hm
  have OB:Hid _:=xQ;have oD:Hid (w3.ownsRow 0 212 1 (.slice a0 n0 c0) p.ahead.length (p.ahead.map λm=>aq ((E.label t.n (w1.heap.size+1)).eG m))):=OB.out.1;have RN:w.heap.size+1+1≤w1.heap.size:=by simp at hs1;omega
  have oy:Hid (Kp R M w w3):=Kp.trans CN.out ⟨by rw[←Bv.out];rfl,by rw[←Bv.out];rfl,by rw[←Bv.out];rfl,by omega,λb b1 _ b3=>(hb3 b b3).trans (hb2.block b b1)⟩;rename_i hK;exact hK _ _ (R4 Ov.out t p a0 n0 c0 w w1 w3 E s r Bt hl ⟨Fo,hd.2⟩ Cg RN hs3 HE HO CP HlA Mu HL3 U2 RU oD oy _ _ _ _ _ _ _ _ _ _ _ _ _ _ _ _ _ _ _ _ _ _ _ _ _ _ _ _ _ _ _ _ _ _ _ _ _ _ _ _ _ _ _ _ _ _ _ _ _ _ _ _ _ _ _ _ _ _ _ _ _ _ _)
end
end Go.Proofs.YtlhimdjkkiflhaaGreatDoor
namespace Go.Proofs.YtlhimdjkkiflhaaGreatDoor
open Go.RowKit Go.Loop
section
variable {R M g cap:Nat}{T:List Tok}{dp:Nat}
theorem MC (BO:(∃t∈T,t.kind=5)→Ks R M g cap T dp)(BP:(∃t∈T,t.kind=4)→Kt R M g cap T dp):∀N n,n≤N→IH R M g cap T dp n
 |0,n,h=>by
  obtain rfl:n=0:=by omega
  exact⟨λp av w E s _ _ _ ho=>absurd (by unfold aO;rfl) ho,λp av w E s _ _ _ ho=>absurd (by unfold bg;rfl) ho,λt p av w E s _ _ _ _ ho=>absurd (by unfold cE;rfl) ho⟩
 |N+1,n,h=>by
  have ih:=MC BO BP N;cases n with
  |zero=>exact ih 0 (zaw _)
  |succ n=>
   have ih':∀m,m≤n→IH R M g cap T dp m:=λm hm=>ih m (by omega);exact⟨Ku (ih' n (zab _)),Oa ih',RX ih' (aae (ih' n (zab _))) aaa BO BP⟩
theorem aaf (BO:(∃t∈T,t.kind=5)→Ks R M g cap T dp)(BP:(∃t∈T,t.kind=4)→Kt R M g cap T dp)(n:Nat):IH R M g cap T dp n:=MC BO BP n n (zab _)
end
end Go.Proofs.YtlhimdjkkiflhaaGreatDoor
namespace Go.Proofs.YtlhimdjkkiflhaaGreatDoor
open Go.Proofs.Tryz
open Go.RowKit Go.Loop
def OkR (T:List Tok)(w:Ξ)(r:RR Dt)(e:Ending)(w':Ξ):Prop:=
 η w.heap.size w w'∧match r with
 |.out=>True
 |.fail er a=>∃b,e=.returned (.tuple #[.nilIface,Γ Δ 0,aq b])∧cQ w' b er a
 |.ok d s'=>∃v E' t,T[s'.k-1]?=some t∧e=.returned (.tuple #[v,Γ Δ t.ic,.pointer none])∧(∃t y,v=.iface t y)∧bf w.heap.size s'.fresh s'.aT w' E' d v∧
   (∀i j,i<s'.fresh→j<s'.fresh→E'.α i=E'.α j→i=j)∧(∀n∈s'.aT,∃v,w'.heap[E'.eG n]?=some (.cells #[v] 215))
theorem Kp.low {R M:Nat}{w w2 w':Ξ}(h:Kp R M w2 w')(hb:η w.heap.size w w2)(h1:w.heap.size≤R)(h2:w.heap.size≤M):η w.heap.size w w':=
 ⟨h.os.trans hb.os,h.tape.trans hb.tape,h.output.trans hb.output,zah hb.size h.size,λb hb'=>(h.block b (zaL hb' hb.size) (by omega) (by omega)).trans (hb.block b hb')⟩
theorem Hf (T:List Tok)(dp g cap:Nat)(BO:(∃t∈T,t.kind=5)→∀R M,Ks R M g cap T dp)(BP:(∃t∈T,t.kind=4)→∀R M,Kt R M g cap T dp)(w:Ξ)(Cg:dp≤30)(hT:∀k t,T[k]?=some t→t.kind≠0→t.kind≠1→k+1<T.length)(hT0:T≠[])(hsm:T.length≤900)
 (hrow:w.ownsRow 0 131 7 (.slice (some ⟨g,0,none⟩) T.length cap) T.length (T.flatMap iQ)):
 Ω prog 42 #[.slice (some ⟨g,0,none⟩) T.length cap,Γ Δ dp] w λe w'=>OkR T w (aO T dp 2000 ⟨0,false,[]⟩ ⟨0,0,[]⟩) e w':=by
 have mixed:prog.follows ι=true:=by kernel_rfl
 have hg:g<w.heap.size:=(hrow.lt g rfl).2;have hb2:η w.heap.size w ((w.alloc (.map #[] 0)).alloc (.cells #[.slice (some ⟨g,0,none⟩) T.length cap,Γ Δ 0,Γ Δ dp,.map (some w.heap.size)] 123)):=((zad _ w).alloc (zab _) _).alloc (by simp) _;have iu:Hid _:=hb2;have CJ:Hid (bU ((w.alloc (.map #[] 0)).alloc (.cells #[.slice (some ⟨g,0,none⟩) T.length cap,Γ Δ 0,Γ Δ dp,.map (some w.heap.size)] 123)) (w.heap.size+1) w.heap.size g cap T dp ⟨λ_=>0,λ_=>0⟩ ⟨0,0,[]⟩):=
  ⟨by omega,by omega,by omega,dM w _ _,aX hrow (zab _) λb _ hlt=>hb2.block b hlt,⟨#[],0,(zaK _ _ _ (by simp)).trans (zas w _),rfl⟩,λn hn=>(by cases hn),λn hn=>(by cases hn),by omega,Cg⟩
 have bV:=(fuel T dp hT 2000).datum ⟨0,false,[]⟩ ⟨0,0,[]⟩ (List.length_pos_iff.2 hT0) (by show 2*(T.length-0)+2≤2000;omega);have hne:aO T dp 2000 ⟨0,false,[]⟩ ⟨0,0,[]⟩≠.out:=λh=>by rw[h]at bV;exact bV
 have HD:Hid _:=(aaf (λh=>BO h _ _) (λh=>BP h _ _) 2000).datum ⟨0,false,[]⟩ (.slice none 0 0) _ _ _ CJ.out ⟨⟨rfl,.inl ⟨rfl,rfl⟩⟩,⟨_,_,_,rfl⟩,λn hn=>(by cases hn)⟩ ⟨zaw _,zaw _⟩ hne;generalize eF:aO T dp 2000 ⟨0,false,[]⟩ ⟨0,0,[]⟩=r at *;clear hrow hb2 eF hT hT0 BO BP;have U6:(Instr.makeMap 121 none).run prog w=.ok (.map (some w.heap.size)) (w.alloc (.map #[] 0)):=rfl;unfold jd aq at HD;go_enter func42,ntmps42;go_wp2_with fail;refine zae HD.out ?_;clear HD;intro e w3 cg;cases r with
 |out=>exact absurd rfl hne
 |fail er a=>
  obtain⟨⟨b,rfl,hf⟩,hk⟩:=cg;have HG:Hid (OkR T w (RR.fail er a) (.returned (.tuple #[.nilIface,Γ Δ 0,aq b])) w3):=⟨Kp.low hk.plain iu.out (by omega) (zab _),b,rfl,hf⟩;clear hf hk;unfold aq;go_wp2_with fail
  go_ret3
  exact HG.out
 |ok d0 s'=>
  obtain⟨v,E',rfl,⟨ty,y,rfl⟩,cI,hx,hr,hk⟩:=cg;obtain⟨k',hk'⟩:∃k',s'.k=k'+1:=⟨s'.k-1,by have:=bV.1;simp at this;omega⟩;have hlt:k'<T.length:=by have:=bV.2;omega
  obtain⟨t,ht⟩:∃t,T[k']?=some t:=⟨_,zaq hlt⟩;obtain⟨⟨r0,r1,r2,r3⟩,rf⟩:=jG hr.blk;have t2:w3.cell? ⟨g,k'*7+2,none⟩=some (Γ Δ t.ic):=by rw[hr.row.cellAt _ (by omega),RP T k' 2 t ht (by omega)];rfl
  rw[hk']at r1;have hs2:=iu.out.size;have HG:Hid (OkR T w (RR.ok d0 s') (.returned (.tuple #[.iface ty y,Γ Δ t.ic,.pointer none])) w3.drew):=
   ⟨(Kp.low hk.plain iu.out (by omega) (zab _)).drew,.iface ty y,E',t,by rw[hk'];exact ht,rfl,⟨ty,y,rfl⟩,bf.keep (w:=w3) (w':=w3.drew) hs2 (zab _) (λ_ h=>h) (λ_ _ _=>rfl) ⟨λ_ _=>rfl,λ_ _=>rfl⟩ d0 _ cI,
     λi j h1 h2 e=>hx.inj i j (zaw _) h1 (zaw _) h2 e,hr.low⟩
  have hgr:g<w3.heap.size:=(hr.row.lt g rfl).2;have hRr:w.heap.size+1<w3.heap.size:=hr.lt;clear cI hx hr hk bV hne CJ iu ht;go_wp2_with fail;go_region;go_wp2_with fail
  go_ret3
  exact HG.out
end Go.Proofs.YtlhimdjkkiflhaaGreatDoor
namespace Go.Ren
open Go.Proofs.Tryz
open Go Go.Conc Go.ConcX Go.RowKit Go.Proofs Go.Loop Go.Proofs.YtlhimdjkkiflhaaGreatDoor
def c8 (f:Func):Code:=f.body.getD .skip
def c8a (f:Func):Code:=Ren.bD (c8 f)
def c8b (f:Func):Code:=Ren.bD (Ren.aZ (c8 f))
def c8c (f:Func):Code:=Ren.aZ (Ren.aZ (c8 f))
def o8 (f:Func):Array Oper:=Ren.fh (Ren.bD (c8c f))
def WN (f:Func):Code:=Ren.aZ (c8c f)
theorem Sa:prog.funcs[25]?=some f25:=by kernel_rfl
theorem ab9:f25.body=some (.seq (c8a f25) (.seq (c8b f25) (.seq (.region 3 (o8 f25) false) (WN f25)))):=by kernel_rfl
theorem nt8:f25.ntmps=40:=by kernel_rfl
theorem t40 (x y:Φ):(#[x,y]++χ (40-#[x,y].size) Θ:Array Φ)=#[x,y,Θ,Θ,Θ,Θ,Θ,Θ,Θ,Θ,Θ,Θ,Θ,Θ,Θ,Θ,Θ,Θ,Θ,Θ,Θ,Θ,Θ,Θ,Θ,Θ,Θ,Θ,Θ,Θ,Θ,Θ,Θ,Θ,Θ,Θ,Θ,Θ,Θ,Θ]:=by
 generalize Θ=u;simp[χ,List.replicate]
theorem aag (x y:Φ):θ.enter prog 25 #[x,y] .normal=(base 25).at ⟨#[x,y,Θ,Θ,Θ,Θ,Θ,Θ,Θ,Θ,Θ,Θ,Θ,Θ,Θ,Θ,Θ,Θ,Θ,Θ,Θ,Θ,Θ,Θ,Θ,Θ,Θ,Θ,Θ,Θ,Θ,Θ,Θ,Θ,Θ,Θ,Θ,Θ,Θ,Θ],[]⟩ [.code (.seq (c8a f25) (.seq (c8b f25) (.seq (.region 3 (o8 f25) false) (WN f25))))]:=by
 rw[enter_at _ Sa ab9,nt8,t40]
theorem aeA:bp prog Fz Sz (c8a f25)=true:=by kernel_rfl
theorem aca:bp prog Fz Sz (c8b f25)=true:=by kernel_rfl
theorem acb:bp prog Fz Sz (WN f25)=true:=by kernel_rfl
def ak (w w':Ξ):Prop:=w.heap.size≤w'.heap.size∧∀r,r<w.heap.size→w'.heap[r]?=w.heap[r]?
theorem ak.trans {a b c:Ξ}(h:ak a b)(k:ak b c):ak a c:=⟨zah h.1 k.1,λr hr=>(k.2 r (zaL hr h.1)).trans (h.2 r hr)⟩
theorem ak.of {w w':Ξ}(h:η w.heap.size w w'):ak w w':=⟨h.size,h.block⟩
def aah (s:List UInt8)(dp:Nat)(w:Ξ)(v:Φ):Prop:=∃lo K L E d s',aO (aG (s.length+1) s 0) dp 2000 ⟨0,false,[]⟩ ⟨0,0,[]⟩=.ok d s'∧bf lo K L w E d v∧(∀i j,i<K→j<K→E.α i=E.α j→i=j)∧aW d d=true
def Hg (s:List UInt8)(dp:Nat)(w:Ξ)(v:Φ)(w':Ξ):Prop:=
 ak w w'∧((∃b e at_,v=.tuple #[.agg #[.nilIface,.slice none 0 0,Γ Δ 0],aq b]∧cQ w' b e at_∧lG s dp=some ([],at_,e))∨
  ∃ty y nv bC nodes ic,v=.tuple #[.agg #[.iface ty y,nv,Γ Δ (ic:Nat)],.pointer none]∧bJ w' 0 nv bC nodes∧lG s dp=some (nodes,ic,0)∧aah s dp w' (.iface ty y))
def VQ (T:List Tok)(dp:Nat):Prop:=((∃t∈T,t.kind=5)→∀g cap R M,Ks R M g cap T dp)∧((∃t∈T,t.kind=4)→∀g cap R M,Kt R M g cap T dp)
theorem Ey {T:List Tok}{dp:Nat}(h:∀t∈T,t.kind≠5∧t.kind≠4):VQ T dp:=⟨λ⟨t,ht,e⟩=>absurd e (h t ht).1,λ⟨t,ht,e⟩=>absurd e (h t ht).2⟩
def nJ (s:List UInt8)(dp:Nat):Prop:=(∀d s',aO (aG (s.length+1) s 0) dp 2000 ⟨0,false,[]⟩ ⟨0,0,[]⟩=.ok d s'→aW d d=true∧∃k g,iy d 100000 d ⟨[],[]⟩=some (k,g)∧g.nodes.length≤999999)∧VQ (aG (s.length+1) s 0) dp
abbrev Hh:Obj:= .cells #[.nilIface,.slice none 0 0,Γ Δ 0] 60
theorem len8:(o8 f25).size=11:=by kernel_rfl
theorem Ez {w1:Ξ}{b:Nat}{x0 x1 x2:Φ}{e:ξ}(h:w1.heap[b]?=some (.cells #[x0,x1,x2] e)):(w1.frozen? ⟨b,0,none⟩=false∧w1.frozen? ⟨b,1,none⟩=false∧w1.frozen? ⟨b,2,none⟩=false):=by
 refine⟨?_,?_,?_⟩<;>simp[Ξ.frozen?,h]
theorem ae.EA {P:υ}{S:Sd}{Ψ:aV}{b:θ}{a:Act}{cs:List θ}{w:Ξ}{ops:Array Oper}{i:Nat}{rest:List Nat}{o:Oper}{kk:List Item}(ho:ops[i]?=some o)(hw:o.guard=none)(hk:b.kind≠.early){f:ω}{xs:Array Operand}{ats:Array ξ}(hop:o.op=.call { callee:= .value (.func f),args:=xs,argTypes:=ats })
 (kV:(P.funcs[f]?).any (λfn=>fn.body.isSome)=true)(FU:(P.funcs[f]?).any (λfn=>fn.name != "runtime.NumGoroutine")=true)(hx:xs.all (gG S)=true){args:Array Φ}(pU:xs.map a.eval=args)
 (h:ae P S Ψ (θ.enter P f args .normal) (b.at a (.inRegion ops (i::rest)::kk)::cs) w):ae P S Ψ (b.at a (.inRegion ops (i::rest)::kk)) cs w:=by
 subst pU;exact ae.enter ho (by simp[Region.wanted,hw]) hk hop kV FU hx h
theorem ae.move' {P:υ}{F:ω→Bool}{S:Sd}{Ψ:aV}{b:θ}{a:Act}{cs:List θ}{w:Ξ}{ops:Array Oper}{i:Nat}{rest:List Nat}{o:Oper}{kk:List Item}(hC:jM P F S)(ho:ops[i]?=some o)(hw:o.guard=none)(hk:b.kind≠.early){t d:Tmp}(hop:o.op=.move (.tmp t))(hd:o.dst=some d){a':Act}(ha:a.put (some d) (a.eval (.tmp t))=a')
 (h:ae P S Ψ (b.at a' (.inRegion ops rest::kk)) cs w):ae P S Ψ (b.at a (.inRegion ops (i::rest)::kk)) cs w:=by
 subst ha;refine ae.Jk hC (by rw[hop];rfl) ho (by simp[Region.wanted,hw]) hk λτ dd=>⟨a.eval (.tmp t),w.re τ dd,?_,?_⟩
 ·simp[execOp,hop]
 ·rw[hd];exact h.re rfl
theorem ae.WO {Ψ:aV}{cs:List θ}{w:Ξ}{b:θ}{a:Act}{ops:Array Oper}{i:Nat}{rest:List Nat}{kk:List Item}{s:List UInt8}(hlen:s.length≤1000){d:Tmp}(hd:(ops[i]?).bind (·.dst)=some d){a':Φ→Act}(ha:∀v,a.put (some d) v=a' v)(h:∀v w',η w.heap.size w w'→w'.ownsRow w.heap.size 131 7 v (aG (s.length+1) s 0).length ((aG (s.length+1) s 0).flatMap iQ)→ae prog Sz Ψ (b.at (a' v) (.inRegion ops rest::kk)) cs w'):ae prog Sz Ψ (θ.enter prog 43 #[.string ⟨⟨s⟩⟩] .normal) (b.at a (.inRegion ops (i::rest)::kk)::cs) w:=
 ae.Z4 hlen λv w' h1 h2=>by rw[hd,ha];exact h v w' h1 h2
theorem EB {w:Ξ}{b:Nat}{y0 y1 y2:Φ}{e:ξ}(h:w.heap[b]?=some (.cells #[y0,y1,y2] e))(x0 x1 x2:Φ):(((w.setCell ⟨b,0,none⟩ x0).setCell ⟨b,1,none⟩ x1).setCell ⟨b,2,none⟩ x2).heap[b]?=some (.cells #[x0,x1,x2] e):=by
 have h1:=eC h 0 x0;have h2:=eC h1 1 x1;have h3:=eC h2 2 x2;simpa using h3
theorem xX {w:Ξ}{b c:Nat}(h:c≠b)(x0 x1 x2:Φ):(((w.setCell ⟨b,0,none⟩ x0).setCell ⟨b,1,none⟩ x1).setCell ⟨b,2,none⟩ x2).heap[c]?=w.heap[c]?:=
 (zau _ _ _ _ h).trans ((zau _ _ _ _ h).trans (zau _ _ _ _ h))
theorem CS (w:Ξ)(b:Nat)(x0 x1 x2:Φ):(((w.setCell ⟨b,0,none⟩ x0).setCell ⟨b,1,none⟩ x1).setCell ⟨b,2,none⟩ x2).heap.size=w.heap.size:=by simp
theorem Sb {w w3:Ξ}(hb:ak w w3){y0 y1 y2:Φ}{e:ξ}(_h:w3.heap[w.heap.size]?=some (.cells #[y0,y1,y2] e))(x0 x1 x2:Φ):ak w (((w3.setCell ⟨w.heap.size,0,none⟩ x0).setCell ⟨w.heap.size,1,none⟩ x1).setCell ⟨w.heap.size,2,none⟩ x2):=
 ⟨by rw[CS];exact hb.1,λr hr=>(xX (by omega) _ _ _).trans (hb.2 r hr)⟩
theorem Sg {w w3:Ξ}(hb:ak w w3){y0 y1 y2:Φ}{e:ξ}(h:w3.heap[w.heap.size]?=some (.cells #[y0,y1,y2] e))(x0 x1 x2:Φ)(o:Obj):ak w ((((w3.setCell ⟨w.heap.size,0,none⟩ x0).setCell ⟨w.heap.size,1,none⟩ x1).setCell ⟨w.heap.size,2,none⟩ x2).alloc o)∧((((w3.setCell ⟨w.heap.size,0,none⟩ x0).setCell ⟨w.heap.size,1,none⟩ x1).setCell ⟨w.heap.size,2,none⟩ x2).alloc o).heap[w.heap.size]?=some (.cells #[x0,x1,x2] e)∧((((w3.setCell ⟨w.heap.size,0,none⟩ x0).setCell ⟨w.heap.size,1,none⟩ x1).setCell ⟨w.heap.size,2,none⟩ x2).alloc o).heap[w3.heap.size]?=some o:=by
 have h1:=Sb hb h x0 x1 x2;have h2:=EB h x0 x1 x2;have h3:=CS w3 w.heap.size x0 x1 x2;generalize ((w3.setCell ⟨w.heap.size,0,none⟩ x0).setCell ⟨w.heap.size,1,none⟩ x1).setCell ⟨w.heap.size,2,none⟩ x2=w5 at *;refine⟨h1.trans (ak.of ((zad _ _).alloc (zab _) _)),(zaK _ _ _ (zaf.1 h2).1).trans h2,?_⟩;rw[←h3];exact zas w5 o
theorem bJ.keep {w w':Ξ}{lo RI:Nat}{nv:Φ}{bC:List Φ}{nodes:List mb}(h:bJ w lo nv bC nodes)(hl:RI≤lo)(hw:∀(b:Nat) c,w.heap[b]?=some (.cells c 45)∨w.heap[b]?=some (.cells c 3)→w'.heap[b]?=w.heap[b]?):bJ w' RI nv bC nodes:=by
 refine⟨⟨h.1.1,h.1.2.imp id ?_⟩,h.2.1,λj x sv hx sT=>?_⟩
 ·rintro ⟨b,cp,cur,q1,q2,q3,q4⟩;exact⟨b,cp,cur,q1,by omega,(hw b _ (.inl q3)).trans q3,q4⟩
 ·rcases h.2.2 j x sv hx sT with q|⟨b,q1,q2,q3⟩
  ·exact .inl q
  ·exact .inr ⟨b,q1,by omega,(hw b _ (.inr q3)).trans q3⟩
theorem bJ.aeB {w:Ξ}{lo:Nat}{nv:Φ}{bC:List Φ}{nodes:List mb}(h:bJ w lo nv bC nodes){b:Nat}{y0 y1 y2:Φ}(hb:w.heap[b]?=some (.cells #[y0,y1,y2] 60))(x0 x1 x2:Φ):bJ (((w.setCell ⟨b,0,none⟩ x0).setCell ⟨b,1,none⟩ x1).setCell ⟨b,2,none⟩ x2) 0 nv bC nodes:=
 Ren.bJ.keep h (zaw _) λc cc hc=>xX (λe=>by
  rw[e,hb]at hc;rcases hc with hc|hc<;>simp at hc) _ _ _
theorem KF {s:List UInt8}{dp:Nat}(Cg:dp≤30)(h:400<s.length):lG s dp=some ([],0,2):=by
 unfold lG;rw[zaa (by omega),zac h]
theorem mh {s:List UInt8}{dp:Nat}(Cg:dp≤30)(h:¬400<s.length):lG s dp=match aO (aG (s.length+1) s 0) dp 2000 ⟨0,false,[]⟩ ⟨0,0,[]⟩with
 |.out=>none
 |.fail e a=>some ([],a,e)
 |.ok d s'=>(iy d 100000 d ⟨[],[]⟩).map λg=>if 150<g.2.nodes.length then([],0,2)else(g.2.nodes,(((aG (s.length+1) s 0)[s'.k-1]?).map (·.ic)).getD 0,0):=by
 unfold lG;rw[zaa (by omega),zaa h,zbp];cases aO (aG (s.length+1) s 0) dp 2000 ⟨0,false,[]⟩ ⟨0,0,[]⟩<;>rfl
def op8 (f:Func)(i:Nat):Oper:=(o8 f)[i]!
theorem acd:(o8 f25)[0]?=some (op8 f25 0):=by kernel_rfl
theorem ace:(o8 f25)[1]?=some (op8 f25 1):=by kernel_rfl
theorem acf:(op8 f25 0).op=.move (.tmp 0):=by kernel_rfl
theorem acg:(op8 f25 1).op=.call { callee:= .value (.func 43),args:=#[.tmp 17],argTypes:=#[9] }:=by kernel_rfl
theorem ach:(op8 f25 0).guard=none:=by kernel_rfl
theorem aci:(op8 f25 1).guard=none:=by kernel_rfl
theorem acj:(op8 f25 0).dst=some 17:=by kernel_rfl
theorem ack:((o8 f25)[1]?).bind (·.dst)=some 18:=by kernel_rfl
theorem aeC:([2,3,4,5,6,7,8,9,10].all λi=>((o8 f25)[i]?).all λo=>gw prog Fz Sz o.op)=true:=by kernel_rfl
theorem aeD:(prog.funcs[43]?).any (λfn=>fn.body.isSome)=true:=by kernel_rfl
theorem aeE:(prog.funcs[43]?).any (λfn=>fn.name != "runtime.NumGoroutine")=true:=by kernel_rfl
theorem aeF:f25.results=#[.cell 4 60,.tmp 5]:=by kernel_rfl
theorem ue {W:Ξ}{R:Nat}{x0 x1 x2 fv:Φ}{tmps:Array Φ}(h4:tmps.getD 4 Θ=.pointer (some ⟨R,0,none⟩))(h5:tmps.getD 5 Θ=fv)(h:W.heap[R]?=some (.cells #[x0,x1,x2] 60)):(results f25 tmps).run prog W=.ok (.tuple #[.agg #[x0,x1,x2],fv]) W:=by
 rw[results_cell_tmp aeF,h4,h5];obtain⟨z0,z1,z2⟩:=fR h;have h1:(loadVar 60 ⟨R,0,none⟩).run prog W=.ok (.agg #[x0,x1,x2]) W:=by
  go_simp
 simp[asAddr,h1]
section
variable {Ψ:aV}{cs:List θ}{w:Ξ}{b:θ}{a:Act}{ops:Array Oper}{i:Nat}{rest:List Nat}{kk:List Item}
theorem ae.read {s:List UInt8}{dp:Nat}(Cg:dp≤30)(bV:nJ s dp)(h:∀v w',Hg s dp w v w'→ae prog Sz Ψ (b.at (a.put ((ops[i]?).bind (·.dst)) v) (.inRegion ops rest::kk)) cs w'):ae prog Sz Ψ (θ.enter prog 25 #[.string ⟨⟨s⟩⟩,Γ Δ dp] .normal) (b.at a (.inRegion ops (i::rest)::kk)::cs) w:=by
 have HH:Hid _:=h;have MA:Hid _:=bV;clear h bV;rw[aag];refine ae.seq ?_;refine ae.code cj aeA rfl ⟨_,Sa⟩ rfl λτ d=>?_;have hw:(w.re τ d).heap=w.heap:=rfl;generalize w.re τ d=w1 at *;generalize en:([.code (.seq (c8b f25) (.seq (.region 3 (o8 f25) false) (WN f25)))]:List Item)=kq;dsimp only[c8a,c8,Ren.bD,f25,ζ];go_wp2_with fail;subst en;show ae _ _ _ _ _ _;have iu:Hid (ak w (w1.alloc Hh)):=⟨by rw[←hw];simp,λr hr=>by rw[←hw]at hr ⊢;exact zaK _ _ _ hr⟩;have hR2:(w1.alloc Hh).heap[w.heap.size]?=some Hh:=by rw[←hw];exact zas w1 _
 generalize hw2:w1.alloc Hh=w2 at *;clear hw2 hw;refine ae.seq ?_;by_cases dZ:400<s.length
 ·refine ae.code cj aca rfl ⟨_,Sa⟩ rfl λτ d=>?_;have hw:(w2.re τ d).heap=w2.heap:=rfl;generalize w2.re τ d=w3 at *;have WQ:w3.heap[w.heap.size]?=some Hh:=by rw[hw];exact hR2
  obtain⟨z0,z1,z2⟩:=fR WQ;obtain⟨f0,f1,f2⟩:=Ez WQ;have e2:w.heap.size<w3.heap.size:=(zaf.1 WQ).1;have e1:¬w.heap.size=w3.heap.size:=by omega
  have HW:Hid _:=hw;have Mu:Hid _:=WQ;clear hw WQ hR2;have hlI:(400:Int)<(s.length:Int):=by omega
  generalize en:([.code (.seq (.region 3 (o8 f25) false) (WN f25))]:List Item)=kq;dsimp only[c8b,c8,Ren.bD,Ren.aZ,f25,ζ];go_wp2_with fail;show ∀todo,ae _ _ _ _ _ _;intro todo;have hb3:ak w w3:=⟨by rw[HW.out];exact iu.out.1,λr hr=>by rw[HW.out];exact iu.out.2 r hr⟩;obtain⟨q1,q2,q3⟩:=Sg hb3 Mu.out .nilIface (.slice none 0 0) (Γ Δ 0) (.cells #[Γ Δ 2,Γ Δ 0] 65);refine ae.zf cj rfl rfl Sa (ue rfl rfl q2) ?_;exact HH.out _ _ ⟨q1,.inl ⟨w3.heap.size,2,0,rfl,q3,KF Cg dZ⟩⟩
 ·refine ae.code cj aca rfl ⟨_,Sa⟩ rfl λτ d=>?_;have hw:(w2.re τ d).heap=w2.heap:=rfl;generalize w2.re τ d=w3 at *;have hlI:¬((400:Int)<(s.length:Int)):=by omega
  generalize en:([.code (.seq (.region 3 (o8 f25) false) (WN f25))]:List Item)=kq;dsimp only[c8b,c8,Ren.bD,Ren.aZ,f25,ζ];go_wp2_with fail;subst en;show ae _ _ _ _ _ _;have jl:Hid (ak w w3):=⟨by rw[hw];exact iu.out.1,λr hr=>by rw[hw];exact iu.out.2 r hr⟩;have WQ:w3.heap[w.heap.size]?=some Hh:=by rw[hw];exact hR2
  clear hw iu hR2 hlI;refine ae.seq ?_;refine ae.region ?_;rw[len8,show List.range 11=[0,1,2,3,4,5,6,7,8,9,10] from rfl];refine ae.move' cj acd ach (by decide) acf acj (a':=⟨#[.string ⟨⟨s⟩⟩,Γ Δ dp,Θ,Θ,.pointer (some ⟨w.heap.size,0,none⟩),.pointer none,Θ,Θ,Θ,Θ,.string ⟨⟨s⟩⟩,Γ Δ s.length,.bool false,Θ,Θ,Θ,Θ,.string ⟨⟨s⟩⟩,Θ,Θ,Θ,Θ,Θ,Θ,Θ,Θ,Θ,Θ,Θ,Θ,Θ,Θ,Θ,Θ,Θ,Θ,Θ,Θ,Θ,Θ],[]⟩) (by simp[Act.eval,Act.put]) ?_;refine ae.EA (f:=43) (xs:=#[.tmp 17]) (ats:=#[9]) (args:=#[.string ⟨⟨s⟩⟩]) ace aci (by decide) acg aeD aeE (by simp[gG]) (by simp[Act.eval]) ?_;refine ae.WO (by omega) ack (a':=λv=>⟨#[.string ⟨⟨s⟩⟩,Γ Δ dp,Θ,Θ,.pointer (some ⟨w.heap.size,0,none⟩),.pointer none,Θ,Θ,Θ,Θ,.string ⟨⟨s⟩⟩,Γ Δ s.length,.bool false,Θ,Θ,Θ,Θ,.string ⟨⟨s⟩⟩,v,Θ,Θ,Θ,Θ,Θ,Θ,Θ,Θ,Θ,Θ,Θ,Θ,Θ,Θ,Θ,Θ,Θ,Θ,Θ,Θ,Θ],[]⟩) (λv=>by simp[Act.put]) λv w4 hb4 hrow=>?_;have hlen:=CE (s.length+1) s 0;obtain⟨hT0,hT⟩:=xa (s.length+1) s 0 (zaw _) (by omega);obtain⟨g,cap,rfl⟩:∃g cap,v=.slice (some ⟨g,0,none⟩) (aG (s.length+1) s 0).length cap:=by
   rcases hrow.2 with⟨_,h0⟩|⟨g,cap,cur,e,_⟩
   ·exact absurd (zce h0) hT0
   ·exact⟨g,cap,e⟩
  refine ae.ops cj rfl ⟨_,Sa⟩ rfl aeC 2 ((o8 f25).toList.drop 2) (by rw[zax,zbM,len8];rfl) (λj=>by rw[zbs,zbq]) λn9 d'=>?_;have oB:Hid (ak w w4):=jl.out.trans ⟨hb4.size,hb4.block⟩;have hR4:w4.heap[w.heap.size]?=some Hh:=(hb4.block _ (zaf.1 WQ).1).trans WQ;have hw:(w4.re n9 d').heap=w4.heap:=rfl;have oD:Hid ((w4.re n9 d').ownsRow 0 131 7 (.slice (some ⟨g,0,none⟩) (aG (s.length+1) s 0).length cap) (aG (s.length+1) s 0).length ((aG (s.length+1) s 0).flatMap iQ)):=aX (w:=w4) hrow (zaw _) λ_ _ _=>rfl;generalize w4.re n9 d'=w5 at *;have hfu:=(fuel (aG (s.length+1) s 0) dp hT 2000).datum ⟨0,false,[]⟩ ⟨0,0,[]⟩ (List.length_pos_iff.2 hT0) (by show 2*((aG (s.length+1) s 0).length - 0)+2≤2000;omega);have HC:Hid _:=Hf (aG (s.length+1) s 0) dp g cap (λh=>MA.out.2.1 h g cap) (λh=>MA.out.2.2 h g cap) w5 Cg hT hT0 (by omega) oD.out;have HLO:Hid (w.heap.size<w5.heap.size):=by show _<_;rw[hw];exact(zaf.1 hR4).1
  clear hrow hb4 jl WQ oD hT hT0;have u7:Hid _:=hw;clear hw;generalize en:([.code (WN f25)]:List Item)=kq;dsimp only[o8,c8c,c8,Ren.fh,Ren.bD,Ren.aZ,f25,ζ];simp only[zbh,zba];go_wp2_with fail;refine zae HC.out ?_;clear HC;rintro e w6 ⟨nz,mi⟩;have nV:Hid (ak w w6):=oB.out.trans (ak.trans ⟨by rw[u7.out];exact zab _,λr _=>by rw[u7.out]⟩ (ak.of nz));have WT:w6.heap[w.heap.size]?=some Hh:=(nz.block _ (by rw[u7.out];exact(zaf.1 hR4).1)).trans (by rw[u7.out];exact hR4);have Kw:Hid _:=WT;clear nz oB u7 hR4;cases eF:aO (aG (s.length+1) s 0) dp 2000 ⟨0,false,[]⟩ ⟨0,0,[]⟩with
  |out=>rw[eF]at hfu;exact hfu.elim
  |fail er at_=>
   rw[eF]at mi;obtain⟨fb,rfl,Sh⟩:=mi;have HF:Hid _:=Sh;have U9:Hid (lG s dp=some ([],at_,er)):=by show _=_;rw[mh Cg dZ,eF]
   clear Sh hfu eF WT;unfold aq;go_wp2_with fail;subst en;show ae _ _ _ _ _ _;refine ae.code cj acb rfl ⟨_,Sa⟩ rfl λτ d=>?_;have hw:(w6.re τ d).heap=w6.heap:=rfl;generalize w6.re τ d=w7 at *;have Va:w7.heap[w.heap.size]?=some Hh:=by rw[hw];exact Kw.out
   obtain⟨z0,z1,z2⟩:=fR Va;obtain⟨f0,f1,f2⟩:=Ez Va;have HW:Hid _:=hw;have WU:Hid _:=Va;clear hw Va;dsimp only[WN,c8c,c8,Ren.bD,Ren.aZ,f25,ζ];go_wp2_with fail;show ∀todo,ae _ _ _ _ _ _;intro todo;have xY:ak w w7:=⟨by rw[HW.out];exact nV.out.1,λr hr=>by rw[HW.out];exact nV.out.2 r hr⟩;have q1:=Sb xY WU.out .nilIface (.slice none 0 0) (Γ Δ 0);have q2:=EB WU.out .nilIface (.slice none 0 0) (Γ Δ 0);have q3:cQ (((w7.setCell ⟨w.heap.size,0,none⟩ .nilIface).setCell ⟨w.heap.size,1,none⟩ (.slice none 0 0)).setCell ⟨w.heap.size,2,none⟩ (Γ Δ 0)) fb er at_:=by
    have hf:w6.heap[fb]?=_:=HF.out;refine(xX (λe=>?_) _ _ _).trans (by rw[HW.out];exact hf);rw[e,Kw.out]at hf;simp at hf
   refine ae.zf cj rfl rfl Sa (ue rfl rfl q2) ?_;exact HH.out _ _ ⟨q1,.inl ⟨fb,er,at_,rfl,q3,U9.out⟩⟩
  |ok d0 s'=>
   rw[eF]at mi;obtain⟨v,E',t,ht,rfl,⟨ty,y,rfl⟩,cI,nH,-⟩:=mi;obtain⟨hgd,k0,g0,cn,Jj⟩:=MA.out.1 d0 s' eF;have U9:Hid (lG s dp=if 150<g0.nodes.length then some ([],0,2)else some (g0.nodes,t.ic,0)):=by
    show _=_;rw[mh Cg dZ,eF];simp only[cn,zbk,ht,zbl];split<;>rfl
   have HD:Hid _:=cI;have HI:Hid _:=nH;have HGB:Hid _:=hgd;have Yr:Hid _:=cn;have Fl:Hid _:=eF;have afV:w.heap.size<w5.heap.size:=HLO.out;clear cI nH hgd cn hfu eF WT ht HLO;go_wp2_with fail;subst en;show ae _ _ _ _ _ _;refine ae.code cj acb rfl ⟨_,Sa⟩ rfl λτ d=>?_;have hw:(w6.re τ d).heap=w6.heap:=rfl;generalize w6.re τ d=w7 at *;have HD7:Hid (bf w5.heap.size s'.fresh s'.aT w7 E' d0 (.iface ty y)):=bf.keep (w:=w6) (w':=w7) (zab _) (zab _) (λ_ h=>h) (λb _ _=>by rw[hw]) ⟨λ_ _=>rfl,λ_ _=>rfl⟩ d0 _ HD.out;have HGC:Hid _:=He w7 d0 (.iface ty y) (bf.keep (w:=w6) (w':=w7) (zab _) (zab _) (λ_ h=>h) (λb _ _=>by rw[hw]) ⟨λ_ _=>rfl,λ_ _=>rfl⟩ d0 _ HD.out) HGB.out HI.out 100000 k0 g0 Yr.out Jj;have sA:Hid (ak w w7):=⟨by rw[hw];exact nV.out.1,λr hr=>by rw[hw];exact nV.out.2 r hr⟩;have WU:Hid (w7.heap[w.heap.size]?=some Hh):=by show _=_;rw[hw];exact Kw.out
   clear hw HD Yr nV Kw;dsimp only[WN,c8c,c8,Ren.bD,Ren.aZ,f25,ζ];go_wp2_with fail;refine zae HGC.out ?_;clear HGC;rintro e w8 ⟨nv,bC,rfl,oG,Hi⟩;obtain⟨na,nc,rfl⟩:=bq oG.1;have hR8:w8.heap[w.heap.size]?=some Hh:=(Hi.block _ (zaf.1 WU.out).1).trans WU.out;have Si:Hid (ak w w8):=sA.out.trans (ak.of Hi);have HN8:Hid _:=oG;have HD8:Hid (bf w5.heap.size s'.fresh s'.aT w8 E' d0 (.iface ty y)):=bf.keep (w:=w7) (w':=w8) (zab _) (zab _) (λ_ h=>h) (λb _ h=>Hi.block b h) ⟨λ_ _=>rfl,λ_ _=>rfl⟩ d0 _ HD7.out;have Ys:Hid _:=hR8;obtain⟨z0,z1,z2⟩:=fR hR8;obtain⟨f0,f1,f2⟩:=Ez hR8;have e2:w.heap.size<w8.heap.size:=(zaf.1 hR8).1;have e1:¬w.heap.size=w8.heap.size:=by omega
   clear Hi oG hR8 sA WU;by_cases Yt:150<g0.nodes.length
   ·have hmI:(150:Int)<(g0.nodes.length:Int):=by omega
    go_wp2_with fail;show ∀todo,ae _ _ _ _ _ _;intro todo;obtain⟨q1,q2,q3⟩:=Sg Si.out Ys.out .nilIface (.slice none 0 0) (Γ Δ 0) (.cells #[Γ Δ 2,Γ Δ 0] 65);refine ae.zf cj rfl rfl Sa (ue rfl rfl q2) ?_;exact HH.out _ _ ⟨q1,.inl ⟨w8.heap.size,2,0,rfl,q3,by rw[U9.out,zac Yt]⟩⟩
   ·have hmI:¬((150:Int)<(g0.nodes.length:Int)):=by omega
    go_wp2_with fail;show ∀todo,ae _ _ _ _ _ _;intro todo;have q1:=Sb Si.out Ys.out (.iface ty y) (.slice na g0.nodes.length nc) (Γ Δ t.ic);have q2:=EB Ys.out (.iface ty y) (.slice na g0.nodes.length nc) (Γ Δ t.ic);have q3:=bJ.aeB HN8.out Ys.out (.iface ty y) (.slice na g0.nodes.length nc) (Γ Δ t.ic);refine ae.zf cj rfl rfl Sa (ue rfl rfl q2) ?_;exact HH.out _ _ ⟨q1,.inr ⟨ty,y,.slice na g0.nodes.length nc,bC,g0.nodes,t.ic,rfl,q3,by rw[U9.out,zaa Yt],_,_,_,_,_,_,Fl.out,bf.keep (w:=w8) (zab _) (zab _) (λ_ h=>h) (λb h _=>xX (by omega) _ _ _) ⟨λ_ _=>rfl,λ_ _=>rfl⟩ d0 _ HD8.out,HI.out,HGB.out⟩⟩
end
def c5 (f:Func):Code:=f.body.getD .skip
def c5a (f:Func):Code:=Ren.bD (c5 f)
def c5b (f:Func):Code:=Ren.bD (Ren.aZ (c5 f))
def c5c (f:Func):Code:=Ren.aZ (Ren.aZ (c5 f))
def o5 (f:Func):Array Oper:=Ren.fh (Ren.bD (c5c f))
def Vb (f:Func):Code:=Ren.aZ (c5c f)
theorem Vc:prog.funcs[18]?=some f18:=by kernel_rfl
theorem acm:f18.body=some (.seq (c5a f18) (.seq (c5b f18) (.seq (.region 3 (o5 f18) false) (Vb f18)))):=by kernel_rfl
theorem nt5:f18.ntmps=35:=by kernel_rfl
theorem t35 (x y:Φ):(#[x,y]++χ (35-#[x,y].size) Θ:Array Φ)=#[x,y,Θ,Θ,Θ,Θ,Θ,Θ,Θ,Θ,Θ,Θ,Θ,Θ,Θ,Θ,Θ,Θ,Θ,Θ,Θ,Θ,Θ,Θ,Θ,Θ,Θ,Θ,Θ,Θ,Θ,Θ,Θ,Θ,Θ]:=by
 generalize Θ=u;simp[χ,List.replicate]
theorem aai (x y:Φ):θ.enter prog 18 #[x,y] .normal=(base 18).at ⟨#[x,y,Θ,Θ,Θ,Θ,Θ,Θ,Θ,Θ,Θ,Θ,Θ,Θ,Θ,Θ,Θ,Θ,Θ,Θ,Θ,Θ,Θ,Θ,Θ,Θ,Θ,Θ,Θ,Θ,Θ,Θ,Θ,Θ,Θ],[]⟩ [.code (.seq (c5a f18) (.seq (c5b f18) (.seq (.region 3 (o5 f18) false) (Vb f18))))]:=by
 rw[enter_at _ Vc acm,nt5,t35]
theorem aeG:bp prog Fz Sz (c5a f18)=true:=by kernel_rfl
theorem acn:bp prog Fz Sz (c5b f18)=true:=by kernel_rfl
theorem aco:bp prog Fz Sz (Vb f18)=true:=by kernel_rfl
theorem acp:(o5 f18).size=9:=by kernel_rfl
def Sj (f:Func)(i:Nat):Oper:=(o5 f)[i]!
theorem acr:(o5 f18)[0]?=some (Sj f18 0):=by kernel_rfl
theorem acs:(o5 f18)[1]?=some (Sj f18 1):=by kernel_rfl
theorem acu:(o5 f18)[2]?=some (Sj f18 2):=by kernel_rfl
theorem acv:(Sj f18 0).op=.move (.tmp 0):=by kernel_rfl
theorem acw:(Sj f18 1).op=.move (.tmp 1):=by kernel_rfl
theorem acx:(Sj f18 2).op=.call { callee:= .value (.func 25),args:=#[.tmp 16,.tmp 17],argTypes:=#[9,3] }:=by kernel_rfl
theorem acy:(Sj f18 0).guard=none:=by kernel_rfl
theorem acz:(Sj f18 1).guard=none:=by kernel_rfl
theorem acA:(Sj f18 2).guard=none:=by kernel_rfl
theorem acB:(Sj f18 0).dst=some 16:=by kernel_rfl
theorem acC:(Sj f18 1).dst=some 17:=by kernel_rfl
theorem acD:((o5 f18)[2]?).bind (·.dst)=some 18:=by kernel_rfl
theorem aeH:([3,4,5,6,7,8].all λi=>((o5 f18)[i]?).all λo=>gw prog Fz Sz o.op)=true:=by kernel_rfl
theorem bd8:(prog.funcs[25]?).any (λfn=>fn.body.isSome)=true:=by kernel_rfl
theorem nm8:(prog.funcs[25]?).any (λfn=>fn.name != "runtime.NumGoroutine")=true:=by kernel_rfl
theorem aaj:f18.results=#[.tmp 4,.tmp 5,.tmp 6]:=by kernel_rfl
def EC (s:List UInt8)(dep:Int)(w:Ξ)(v:Φ)(w':Ξ):Prop:=
 ak w w'∧∃nodes at_ e nv bC,lG s dep=some (nodes,at_,e)∧v=.tuple #[nv,Γ Δ (at_:Nat),Γ Δ e]∧bJ w' 0 nv bC nodes
theorem ae.Yu {Ψ:aV}{cs:List θ}{w:Ξ}{b:θ}{a:Act}{ops:Array Oper}{i:Nat}{rest:List Nat}{kk:List Item}{s:List UInt8}{dp:Nat}(Cg:dp≤30)(bV:nJ s dp){d:Tmp}(hd:(ops[i]?).bind (·.dst)=some d){a':Φ→Act}(ha:∀v,a.put (some d) v=a' v)(h:∀v w',Hg s dp w v w'→ae prog Sz Ψ (b.at (a' v) (.inRegion ops rest::kk)) cs w'):ae prog Sz Ψ (θ.enter prog 25 #[.string ⟨⟨s⟩⟩,Γ Δ dp] .normal) (b.at a (.inRegion ops (i::rest)::kk)::cs) w:=
 ae.read Cg bV λv w' h1=>by rw[hd,ha];exact h v w' h1
theorem bJ.nil (w:Ξ):bJ w 0 (.slice none 0 0) [] []:=⟨zbO _ _ _ _,rfl,λj x sv h=>by simp at h⟩
theorem ak.heap {w w' w'':Ξ}(h:ak w w')(e:w''.heap=w'.heap):ak w w'':=⟨by rw[e];exact h.1,λr hr=>by rw[e];exact h.2 r hr⟩
theorem bJ.heap {w w':Ξ}{lo:Nat}{nv:Φ}{bC:List Φ}{nodes:List mb}(h:bJ w lo nv bC nodes)(e:w'.heap=w.heap):bJ w' lo nv bC nodes:=Ren.bJ.keep h (zab _) λb c _=>by rw[e]
def mj (P:υ)(S:Sd)(Ψ:aV)(cs:List θ)(v:Φ)(w:Ξ):Prop:=∀(b0:θ) (a0:Act) (fn:Func) (todo:List Item),b0.kind=.normal→a0.defers=[]→P.funcs[b0.fn]?=some fn→(results fn a0.tmps).run P w=.ok v w→ae P S Ψ (dQ b0 a0 todo) cs w
theorem mj.of {P:υ}{F:ω→Bool}{S:Sd}{Ψ:aV}{cs:List θ}{v:Φ}{w:Ξ}{b:θ}{a:Act}{ops:Array Oper}{i:Nat}{rest:List Nat}{kk:List Item}(hC:jM P F S)(h:ae P S Ψ (b.at (a.put ((ops[i]?).bind (·.dst)) v) (.inRegion ops rest::kk)) cs w):mj P S Ψ (b.at a (.inRegion ops (i::rest)::kk)::cs) v w:=λ_ _ _ _ hn hd hf hr=>ae.zf hC hn hd hf hr h
theorem ae.oH {P:υ}{S:Sd}{Ψ:aV}{cs:List θ}{v:Φ}{w:Ξ}{b:θ}{a:Act}{fn:Func}{todo:List Item}(hn:b.kind=.normal)(hd:a.defers=[])(hf:P.funcs[b.fn]?=some fn)(hr:(results fn a.tmps).run P w=.ok v w)(h:mj P S Ψ cs v w):ae P S Ψ (dQ b a todo) cs w:=h b a fn todo hn hd hf hr
section
variable {Ψ:aV}{cs:List θ}{w:Ξ}{b:θ}{a:Act}{ops:Array Oper}{i:Nat}{rest:List Nat}{kk:List Item}
theorem ae.aeI {s:List UInt8}{dep:Int}(bV:∀dp:Nat,dep=dp→dp≤30→nJ s dp)(h:∀v w',EC s dep w v w'→mj prog Sz Ψ cs v w'):ae prog Sz Ψ (θ.enter prog 18 #[.string ⟨⟨s⟩⟩,Γ Δ dep] .normal) cs w:=by
 have mixed:prog.follows ι=true:=by kernel_rfl
 have HH:Hid _:=h;have MA:Hid _:=bV;clear h bV;rw[aai];refine ae.seq ?_;refine ae.code cj aeG rfl ⟨_,Vc⟩ rfl λτ d=>?_;have je:Hid (ak w (w.re τ d)):=⟨zab _,λ_ _=>rfl⟩;generalize w.re τ d=w1 at *;generalize en:([.code (.seq (c5b f18) (.seq (.region 3 (o5 f18) false) (Vb f18)))]:List Item)=kq;dsimp only[c5a,c5,Ren.bD,f18,ζ];go_wp2_with fail;subst en;show ae _ _ _ _ _ _;refine ae.seq ?_;by_cases BQ:dep<0∨30<dep
 ·refine ae.code cj acn rfl ⟨_,Vc⟩ rfl λτ d=>?_;have iu:Hid (ak w (w1.re τ d)):=ak.heap je.out rfl;generalize w1.re τ d=w2 at *;generalize en:([.code (.seq (.region 3 (o5 f18) false) (Vb f18))]:List Item)=kq;dsimp only[c5b,c5,Ren.bD,Ren.aZ,f18,ζ];have U9:Hid (lG s dep=some ([],0,1)):=by show _=_;unfold lG;rw[zac BQ]
  have fin:∀(tm:Array Φ) (todo:List Item),tm.getD 4 Θ=.slice none 0 0→tm.getD 5 Θ=Γ Δ 0→tm.getD 6 Θ=Γ Δ 1→ae prog Sz Ψ (dQ (base 18) ⟨tm,[]⟩ todo) cs w2:=λtm todo h4 h5 h6=>by
   refine ae.oH rfl rfl Vc ((results_tmp3 aaj _ _ _).trans (by rw[h4,h5,h6])) ?_;exact HH.out _ _ ⟨iu.out,[],0,1,_,[],U9.out,rfl,Ren.bJ.nil _⟩
  have WG:Hid _:=fin;clear fin;by_cases OC:dep<0
  ·go_wp2_with fail;show ∀todo,ae _ _ _ _ _ _;exact λtodo=>WG.out _ todo rfl rfl rfl
  ·have h30:30<dep:=BQ.resolve_left OC;go_wp2_with fail;show ∀todo,ae _ _ _ _ _ _;exact λtodo=>WG.out _ todo rfl rfl rfl
 ·obtain⟨dp,rfl⟩:∃dp:Nat,dep=dp:=⟨dep.toNat,by omega⟩;have Cg:dp≤30:=by omega
  refine ae.code cj acn rfl ⟨_,Vc⟩ rfl λτ d=>?_;have iu:Hid (ak w (w1.re τ d)):=ak.heap je.out rfl;generalize w1.re τ d=w2 at *;generalize en:([.code (.seq (.region 3 (o5 f18) false) (Vb f18))]:List Item)=kq;dsimp only[c5b,c5,Ren.bD,Ren.aZ,f18,ζ];have hn:¬((dp:Int)<0):=by omega
  have PK:¬((30:Int)<(dp:Int)):=by omega
  go_wp2_with fail;subst en;show ae _ _ _ _ _ _;clear je hn PK BQ;refine ae.seq ?_;refine ae.region ?_;rw[acp,show List.range 9=[0,1,2,3,4,5,6,7,8] from rfl];refine ae.move' cj acr acy (by decide) acv acB (a':=⟨#[.string ⟨⟨s⟩⟩,Γ Δ dp,Θ,Θ,.slice none 0 0,Γ Δ 0,Γ Δ 0,Θ,Θ,Γ Δ dp,.bool false,.bool false,Γ Δ dp,.bool false,.bool false,Θ,.string ⟨⟨s⟩⟩,Θ,Θ,Θ,Θ,Θ,Θ,Θ,Θ,Θ,Θ,Θ,Θ,Θ,Θ,Θ,Θ,Θ,Θ],[]⟩) (by simp[Act.eval,Act.put]) ?_;refine ae.move' cj acs acz (by decide) acw acC (a':=⟨#[.string ⟨⟨s⟩⟩,Γ Δ dp,Θ,Θ,.slice none 0 0,Γ Δ 0,Γ Δ 0,Θ,Θ,Γ Δ dp,.bool false,.bool false,Γ Δ dp,.bool false,.bool false,Θ,.string ⟨⟨s⟩⟩,Γ Δ dp,Θ,Θ,Θ,Θ,Θ,Θ,Θ,Θ,Θ,Θ,Θ,Θ,Θ,Θ,Θ,Θ,Θ],[]⟩) (by simp[Act.eval,Act.put]) ?_;refine ae.EA (f:=25) (xs:=#[.tmp 16,.tmp 17]) (ats:=#[9,3]) (args:=#[.string ⟨⟨s⟩⟩,Γ Δ dp]) acu acA (by decide) acx bd8 nm8 (by simp[gG]) (by simp[Act.eval]) ?_;refine ae.Yu Cg (MA.out dp rfl Cg) acD (a':=λv=>⟨#[.string ⟨⟨s⟩⟩,Γ Δ dp,Θ,Θ,.slice none 0 0,Γ Δ 0,Γ Δ 0,Θ,Θ,Γ Δ dp,.bool false,.bool false,Γ Δ dp,.bool false,.bool false,Θ,.string ⟨⟨s⟩⟩,Γ Δ dp,v,Θ,Θ,Θ,Θ,Θ,Θ,Θ,Θ,Θ,Θ,Θ,Θ,Θ,Θ,Θ,Θ],[]⟩) (λv=>by simp[Act.put]) λv w4 mi=>?_;clear MA;refine ae.ops cj rfl ⟨_,Vc⟩ rfl aeH 3 ((o5 f18).toList.drop 3) (by rw[zax,zbM,acp];rfl) (λj=>by rw[zbs,zbq]) λn9 d'=>?_;have hw:(w4.re n9 d').heap=w4.heap:=rfl;generalize w4.re n9 d'=w5 at *;have sU:Hid (ak w w5):=ak.heap (iu.out.trans mi.1) hw;have u7:Hid _:=hw;clear hw iu;obtain⟨-,⟨fb,e,at_,rfl,hf,Nq⟩|⟨ty,y,nv,bC,nodes,ic,rfl,oG,Nq,-⟩⟩:=mi
  ·have HF:Hid (cQ w5 fb e at_):=by show w5.heap[fb]?=_;rw[u7.out];exact hf
   have U9:Hid _:=Nq;clear hf Nq u7;generalize en:([.code (Vb f18)]:List Item)=kq;dsimp only[o5,c5c,c5,Ren.fh,Ren.bD,Ren.aZ,f18,ζ];simp only[zbh,zba];unfold aq;go_wp2_with fail;subst en;show ae _ _ _ _ _ _;have nV:Hid (ak w (w5.alloc Hh)):=sU.out.trans (ak.of ((zad _ _).alloc (zab _) _));have HF6:Hid (cQ (w5.alloc Hh) fb e at_):=cQ.alloc HF.out _;generalize w5.alloc Hh=w6 at *;refine ae.code cj aco rfl ⟨_,Vc⟩ rfl λτ d=>?_;have sA:Hid (ak w (w6.re τ d)):=ak.heap nV.out rfl;have HF7:Hid (cQ (w6.re τ d) fb e at_):=HF6.out;generalize w6.re τ d=w7 at *;obtain⟨y0,y1⟩:w7.cell? ⟨fb,0,none⟩=some (Γ Δ e)∧w7.cell? ⟨fb,1,none⟩=some (Γ Δ at_):=by
    have hf:w7.heap[fb]?=_:=HF7.out;constructor<;>simp[Ξ.cell?,hf]
   clear nV HF6 HF sU;dsimp only[Vb,c5c,c5,Ren.bD,Ren.aZ,f18,ζ];go_wp2_with fail;go_region;go_wp2_with fail;show ∀todo,ae _ _ _ _ _ _;intro todo;refine ae.oH rfl rfl Vc (results_tmp3 aaj _ _ _) ?_;exact HH.out _ _ ⟨ak.heap sA.out rfl,[],at_,e,_,[],U9.out,rfl,Ren.bJ.nil _⟩
  ·have HN:Hid (bJ w5 0 nv bC nodes):=Ren.bJ.heap oG u7.out;have U9:Hid _:=Nq;clear oG Nq u7;generalize en:([.code (Vb f18)]:List Item)=kq;dsimp only[o5,c5c,c5,Ren.fh,Ren.bD,Ren.aZ,f18,ζ];simp only[zbh,zba];obtain⟨na,nc,rfl⟩:=bq HN.out.1;go_wp2_with fail;subst en;show ae _ _ _ _ _ _;have nV:Hid (ak w (w5.alloc (.cells #[.iface ty y,.slice na nodes.length nc,Γ Δ ic] 60))):=sU.out.trans (ak.of ((zad _ _).alloc (zab _) _));have HN6:Hid (bJ (w5.alloc (.cells #[.iface ty y,.slice na nodes.length nc,Γ Δ ic] 60)) 0 (.slice na nodes.length nc) bC nodes):=Ren.bJ.keep HN.out (zab _) λb c hb=>zaK _ _ _ (hb.elim (λq=>(zaf.1 q).1) λq=>(zaf.1 q).1);have WT:(w5.alloc (.cells #[.iface ty y,.slice na nodes.length nc,Γ Δ ic] 60)).heap[w5.heap.size]?=some (.cells #[.iface ty y,.slice na nodes.length nc,Γ Δ ic] 60):=zas w5 _;generalize w5.alloc (.cells #[.iface ty y,.slice na nodes.length nc,Γ Δ ic] 60)=w6 at *;refine ae.code cj aco rfl ⟨_,Vc⟩ rfl λτ d=>?_;have sA:Hid (ak w (w6.re τ d)):=ak.heap nV.out rfl;have HN7:Hid (bJ (w6.re τ d) 0 (.slice na nodes.length nc) bC nodes):=Ren.bJ.heap HN6.out rfl;have Va:(w6.re τ d).heap[w5.heap.size]?=some (.cells #[.iface ty y,.slice na nodes.length nc,Γ Δ ic] 60):=WT;generalize w6.re τ d=w7 at *;obtain⟨z0,z1,z2⟩:=fR Va;clear nV HN6 HN sU WT Va;dsimp only[Vb,c5c,c5,Ren.bD,Ren.aZ,f18,ζ];go_wp2_with fail;go_region;go_wp2_with fail;show ∀todo,ae _ _ _ _ _ _;intro todo;refine ae.oH rfl rfl Vc (results_tmp3 aaj _ _ _) ?_;exact HH.out _ _ ⟨ak.heap sA.out rfl,nodes,ic,0,_,bC,U9.out,rfl,Ren.bJ.heap HN7.out rfl⟩
theorem ae.top {s:List UInt8}{dep:Int}(bV:∀dp:Nat,dep=dp→dp≤30→nJ s dp)(h:∀v w',EC s dep w v w'→ae prog Sz Ψ (b.at (a.put ((ops[i]?).bind (·.dst)) v) (.inRegion ops rest::kk)) cs w'):ae prog Sz Ψ (θ.enter prog 18 #[.string ⟨⟨s⟩⟩,Γ Δ dep] .normal) (b.at a (.inRegion ops (i::rest)::kk)::cs) w:=
 ae.aeI bV λv w' hp=>mj.of cj (h v w' hp)
end
end Go.Ren
namespace Go.Proofs.YtlhimdjkkiflhaaGreatDoor
open Go.Proofs.Tryz
open Go.RowKit Go.Loop
structure Nd where
 kind:Int
 text:List UInt8
 n:Int
 d:Int
 subs:List Int
 sa:Option Addr
 cap:Nat
def cZ (x:Nd):Φ:= .agg #[Γ Δ x.kind,.string ⟨⟨x.text⟩⟩,Γ Δ x.n,Γ Δ x.d,.slice x.sa x.subs.length x.cap]
def sB (w:Ξ)(a:Option Addr)(l:List Int):Prop:=
 l=[]∨∃b o,a=some ⟨b,o,none⟩∧∀j,j<l.length→w.cell? ⟨b,o+j,none⟩=some (Γ Δ (l.getD j 0))
def aQ (x:Nd):Bool:=
 if x.kind=0 then decide (x.text=[]∧x.n=0∧x.d=0∧x.subs.length=0)
 else if x.kind=1 then decide (x.subs.length=2∧x.text=[]∧x.n=0∧x.d=0)
 else if x.kind=2 then decide (x.subs.length≤20∧x.text=[]∧x.n=0∧x.d=0)
 else if x.kind=3 then decide (x.text.length≤400∧x.n=0∧x.d=0∧x.subs.length=0)
 else if x.kind=4 then decide (x.n=0∧x.d=0∧x.subs.length=0)&&oY x.text
 else if x.kind=5 then xx x.n x.d&&decide (x.text=[]∧x.subs.length=0)
 else if x.kind=6 then decide ((x.n=0∨x.n=1)∧x.text=[]∧x.d=0∧x.subs.length=0)
 else if x.kind=7 then tL x.n&&decide (x.text=[]∧x.d=0∧x.subs.length=0)
 else false
def dF (l:List Int)(all:Int):Bool:=l.all λs=>decide (0≤s∧s<all)
def cJ (G:List Nd):Bool:=decide (1≤G.length∧G.length≤150)&&G.all λx=>aQ x&&dF x.subs G.length
theorem az {w:Ξ}{o:Obj}:η w.heap.size w (w.alloc o):=(zad _ _).alloc (zab _) _
theorem oI (l:List UInt8)(n d:Int)(a:Option Addr)(len cap:Nat)(w:Ξ)(h:l=[]∧n=0∧d=0∧len=0):Ω prog 95 #[.string ⟨⟨l⟩⟩,Γ Δ n,Γ Δ d,.slice a len cap] w λe w'=>e=.returned (.bool true)∧w'=w:=by
 have:=GF l n d a len cap w;rwa[zbi h]at this
theorem oJ (l:List UInt8)(n d:Int)(a:Option Addr)(len cap:Nat)(w:Ξ)(h:¬(l=[]∧n=0∧d=0∧len=0)):Ω prog 95 #[.string ⟨⟨l⟩⟩,Γ Δ n,Γ Δ d,.slice a len cap] w λe w'=>e=.returned (.bool false)∧w'=w:=by
 have:=GF l n d a len cap w;rwa[zaY h]at this
theorem Hj (x:Nd)(w:Ξ)(hk:x.kind=0):Ω prog 60 #[cZ x] w λe w'=>e=.returned (.bool (aQ x))∧η w.heap.size w w':=by
 unfold cZ;have hb0:(x.kind==0)=true:=by simpa using hk
 have HK:Hid (x.kind=0):=hk;clear hk;by_cases hc:x.text=[]∧x.n=0∧x.d=0∧x.subs.length=0
 ·have HV:Hid (aQ x=true):=by show _=_;unfold aQ;rw[zac HK.out];exact zbi hc
  have HB:Hid _:=hc;clear hc;go_enter func60,ntmps60;go_wp2_with fail;refine(oI _ _ _ _ _ _ _ (by simpa using HB.out)).mono ?_;rintro e w' ⟨rfl,rfl⟩;go_wp2_with fail;go_ret;exact⟨ay HV.out.symm,az⟩
 ·have HV:Hid (aQ x=false):=by show _=_;unfold aQ;rw[zac HK.out];exact zaY hc
  have HB:Hid _:=hc;clear hc;go_enter func60,ntmps60;go_wp2_with fail;refine(oJ _ _ _ _ _ _ _ (by simpa using HB.out)).mono ?_;rintro e w' ⟨rfl,rfl⟩;go_wp2_with fail;go_ret;exact⟨ay HV.out.symm,az⟩
theorem Hk (x:Nd)(w:Ξ)(hk:x.kind=1):Ω prog 60 #[cZ x] w λe w'=>e=.returned (.bool (aQ x))∧η w.heap.size w w':=by
 unfold cZ;have hb1:(x.kind==1)=true:=by simpa using hk
 have hb0:(x.kind==0)=false:=by rw[hk];decide
 have HK:Hid (x.kind=1):=hk;clear hk;by_cases hl:x.subs.length=2
 ·by_cases hc:x.text=[]∧x.n=0∧x.d=0∧(0:Nat)=0
  ·have HV:Hid (aQ x=true):=by show _=_;unfold aQ;rw[zaa (by rw[HK.out];decide),zac HK.out];simp only[zaQ];exact⟨hl,hc.1,hc.2.1,hc.2.2.1⟩
   have Og:((x.subs.length:Int)==2)=true:=by rw[hl];rfl
   have HB:Hid _:=hc;clear hc hl;go_enter func60,ntmps60;go_wp2_with fail;refine(oI _ _ _ _ _ _ _ (by simpa using HB.out)).mono ?_;rintro e w' ⟨rfl,rfl⟩;go_wp2_with fail;go_ret;exact⟨ay HV.out.symm,az⟩
  ·have HV:Hid (aQ x=false):=by show _=_;unfold aQ;rw[zaa (by rw[HK.out];decide),zac HK.out];simp only[zbZ];intro h;exact hc ⟨h.2.1,h.2.2.1,h.2.2.2,rfl⟩
   have Og:((x.subs.length:Int)==2)=true:=by rw[hl];rfl
   have HB:Hid _:=hc;clear hc hl;go_enter func60,ntmps60;go_wp2_with fail;refine(oJ _ _ _ _ _ _ _ (by simpa using HB.out)).mono ?_;rintro e w' ⟨rfl,rfl⟩;go_wp2_with fail;go_ret;exact⟨ay HV.out.symm,az⟩
 ·have HV:Hid (aQ x=false):=by show _=_;unfold aQ;rw[zaa (by rw[HK.out];decide),zac HK.out];simp only[zbZ];intro h;exact hl h.1
  have Og:((x.subs.length:Int)==2)=false:=by rw[zai];omega
  clear hl;go_enter func60,ntmps60;go_wp2_with fail;go_ret;exact⟨ay HV.out.symm,az⟩
theorem Hl (x:Nd)(w:Ξ)(hk:x.kind=2):Ω prog 60 #[cZ x] w λe w'=>e=.returned (.bool (aQ x))∧η w.heap.size w w':=by
 unfold cZ;have hb2:(x.kind==2)=true:=by simpa using hk
 have hb0:(x.kind==0)=false:=by rw[hk];decide
 have hb1:(x.kind==1)=false:=by rw[hk];decide
 have HK:Hid (x.kind=2):=hk;clear hk;by_cases hl:x.subs.length≤20
 ·by_cases hc:x.text=[]∧x.n=0∧x.d=0∧(0:Nat)=0
  ·have HV:Hid (aQ x=true):=by show _=_;unfold aQ;rw[zaa (by rw[HK.out];decide),zaa (by rw[HK.out];decide),zac HK.out];simp only[zaQ];exact⟨hl,hc.1,hc.2.1,hc.2.2.1⟩
   have Og:(x.subs.length:Int)≤20:=by omega
   have HB:Hid _:=hc;clear hc hl;go_enter func60,ntmps60;go_wp2_with fail;refine(oI _ _ _ _ _ _ _ (by simpa using HB.out)).mono ?_;rintro e w' ⟨rfl,rfl⟩;go_wp2_with fail;go_ret;exact⟨ay HV.out.symm,az⟩
  ·have HV:Hid (aQ x=false):=by show _=_;unfold aQ;rw[zaa (by rw[HK.out];decide),zaa (by rw[HK.out];decide),zac HK.out];simp only[zbZ];intro h;exact hc ⟨h.2.1,h.2.2.1,h.2.2.2,rfl⟩
   have Og:(x.subs.length:Int)≤20:=by omega
   have HB:Hid _:=hc;clear hc hl;go_enter func60,ntmps60;go_wp2_with fail;refine(oJ _ _ _ _ _ _ _ (by simpa using HB.out)).mono ?_;rintro e w' ⟨rfl,rfl⟩;go_wp2_with fail;go_ret;exact⟨ay HV.out.symm,az⟩
 ·have HV:Hid (aQ x=false):=by show _=_;unfold aQ;rw[zaa (by rw[HK.out];decide),zaa (by rw[HK.out];decide),zac HK.out];simp only[zbZ];intro h;exact hl h.1
  have Og:(20:Int)<(x.subs.length:Int):=by omega
  clear hl;go_enter func60,ntmps60;go_wp2_with fail;go_ret;exact⟨ay HV.out.symm,az⟩
theorem Hm (x:Nd)(w:Ξ)(hk:x.kind=3):Ω prog 60 #[cZ x] w λe w'=>e=.returned (.bool (aQ x))∧η w.heap.size w w':=by
 unfold cZ;have hb3:(x.kind==3)=true:=by simpa using hk
 have hb0:(x.kind==0)=false:=by rw[hk];decide
 have hb1:(x.kind==1)=false:=by rw[hk];decide
 have hb2:(x.kind==2)=false:=by rw[hk];decide
 have HK:Hid (x.kind=3):=hk;clear hk;by_cases hl:x.text.length≤400
 ·by_cases hc:([]:List UInt8)=[]∧x.n=0∧x.d=0∧x.subs.length=0
  ·have HV:Hid (aQ x=true):=by show _=_;unfold aQ;rw[zaa (by rw[HK.out];decide),zaa (by rw[HK.out];decide),zaa (by rw[HK.out];decide),zac HK.out];simp only[zaQ];exact⟨hl,hc.2.1,hc.2.2.1,hc.2.2.2⟩
   have Og:(x.text.length:Int)≤400:=by omega
   have HB:Hid _:=hc;clear hc hl;go_enter func60,ntmps60;go_wp2_with fail;refine(oI _ _ _ _ _ _ _ (by simpa using HB.out)).mono ?_;rintro e w' ⟨rfl,rfl⟩;go_wp2_with fail;go_ret;exact⟨ay HV.out.symm,az⟩
  ·have HV:Hid (aQ x=false):=by show _=_;unfold aQ;rw[zaa (by rw[HK.out];decide),zaa (by rw[HK.out];decide),zaa (by rw[HK.out];decide),zac HK.out];simp only[zbZ];intro h;exact hc ⟨rfl,h.2.1,h.2.2.1,h.2.2.2⟩
   have Og:(x.text.length:Int)≤400:=by omega
   have HB:Hid _:=hc;clear hc hl;go_enter func60,ntmps60;go_wp2_with fail;refine(oJ _ _ _ _ _ _ _ (by simpa using HB.out)).mono ?_;rintro e w' ⟨rfl,rfl⟩;go_wp2_with fail;go_ret;exact⟨ay HV.out.symm,az⟩
 ·have HV:Hid (aQ x=false):=by show _=_;unfold aQ;rw[zaa (by rw[HK.out];decide),zaa (by rw[HK.out];decide),zaa (by rw[HK.out];decide),zac HK.out];simp only[zbZ];intro h;exact hl h.1
  have Og:(400:Int)<(x.text.length:Int):=by omega
  clear hl;go_enter func60,ntmps60;go_wp2_with fail;go_ret;exact⟨ay HV.out.symm,az⟩
theorem Hn (x:Nd)(w:Ξ)(ht:x.text.length≤φ)(hk:x.kind=4):Ω prog 60 #[cZ x] w λe w'=>e=.returned (.bool (aQ x))∧η w.heap.size w w':=by
 unfold cZ;have hb4:(x.kind==4)=true:=by simpa using hk
 have hb0:(x.kind==0)=false:=by rw[hk];decide
 have hb1:(x.kind==1)=false:=by rw[hk];decide
 have hb2:(x.kind==2)=false:=by rw[hk];decide
 have hb3:(x.kind==3)=false:=by rw[hk];decide
 have HK:Hid (x.kind=4):=hk;clear hk;by_cases hc:([]:List UInt8)=[]∧x.n=0∧x.d=0∧x.subs.length=0
 ·have HV:Hid (aQ x=oY x.text):=by show _=_;unfold aQ;rw[zaa (by rw[HK.out];decide),zaa (by rw[HK.out];decide),zaa (by rw[HK.out];decide),zaa (by rw[HK.out];decide),zac HK.out];rw[zbi hc.2,zbL]
  have HB:Hid _:=hc;clear hc;go_enter func60,ntmps60;go_wp2_with fail;refine(oI _ _ _ _ _ _ _ (by simpa using HB.out)).mono ?_;rintro e w' ⟨rfl,rfl⟩;go_wp2_with fail;refine(Ej _ _ ht).mono ?_;rintro e w' ⟨rfl,rfl⟩;go_wp2_with fail;go_ret;exact⟨ay HV.out.symm,az⟩
 ·have HV:Hid (aQ x=false):=by show _=_;unfold aQ;rw[zaa (by rw[HK.out];decide),zaa (by rw[HK.out];decide),zaa (by rw[HK.out];decide),zaa (by rw[HK.out];decide),zac HK.out];rw[zaY (λh=>hc ⟨rfl,h⟩),Bool.false_and]
  have HB:Hid _:=hc;clear hc;go_enter func60,ntmps60;go_wp2_with fail;refine(oJ _ _ _ _ _ _ _ (by simpa using HB.out)).mono ?_;rintro e w' ⟨rfl,rfl⟩;go_wp2_with fail;go_ret;exact⟨ay HV.out.symm,az⟩
theorem Ho (x:Nd)(w:Ξ)(hk:x.kind=5):Ω prog 60 #[cZ x] w λe w'=>e=.returned (.bool (aQ x))∧η w.heap.size w w':=by
 unfold cZ;have mF:(x.kind==5)=true:=by simpa using hk
 have hb0:(x.kind==0)=false:=by rw[hk];decide
 have hb1:(x.kind==1)=false:=by rw[hk];decide
 have hb2:(x.kind==2)=false:=by rw[hk];decide
 have hb3:(x.kind==3)=false:=by rw[hk];decide
 have hb4:(x.kind==4)=false:=by rw[hk];decide
 have HK:Hid (x.kind=5):=hk;clear hk;cases hn:xx x.n x.d
 ·have HV:Hid (aQ x=false):=by show _=_;unfold aQ;rw[zaa (by rw[HK.out];decide),zaa (by rw[HK.out];decide),zaa (by rw[HK.out];decide),zaa (by rw[HK.out];decide),zaa (by rw[HK.out];decide),zac HK.out];rw[hn,Bool.false_and]
  go_enter func60,ntmps60;go_wp2_with fail;refine(kA _ _ _).mono ?_;rw[hn];rintro e w' ⟨rfl,m,rfl⟩;go_wp2_with fail;go_ret;exact⟨ay HV.out.symm,zaS az _⟩
 ·by_cases hc:x.text=[]∧(0:Int)=0∧(0:Int)=0∧x.subs.length=0
  ·have HV:Hid (aQ x=true):=by show _=_;unfold aQ;rw[zaa (by rw[HK.out];decide),zaa (by rw[HK.out];decide),zaa (by rw[HK.out];decide),zaa (by rw[HK.out];decide),zaa (by rw[HK.out];decide),zac HK.out];rw[hn,zbi ⟨hc.1,hc.2.2.2⟩];rfl
   have HB:Hid _:=hc;clear hc;go_enter func60,ntmps60;go_wp2_with fail;refine(kA _ _ _).mono ?_;rw[hn];rintro e w' ⟨rfl,m,rfl⟩;go_wp2_with fail;refine(oI _ _ _ _ _ _ _ (by simpa using HB.out)).mono ?_;rintro e w' ⟨rfl,rfl⟩;go_wp2_with fail;go_ret;exact⟨ay HV.out.symm,zaS az _⟩
  ·have HV:Hid (aQ x=false):=by show _=_;unfold aQ;rw[zaa (by rw[HK.out];decide),zaa (by rw[HK.out];decide),zaa (by rw[HK.out];decide),zaa (by rw[HK.out];decide),zaa (by rw[HK.out];decide),zac HK.out];rw[hn,zaY (λh=>hc ⟨h.1,rfl,rfl,h.2⟩)];rfl
   have HB:Hid _:=hc;clear hc;go_enter func60,ntmps60;go_wp2_with fail;refine(kA _ _ _).mono ?_;rw[hn];rintro e w' ⟨rfl,m,rfl⟩;go_wp2_with fail;refine(oJ _ _ _ _ _ _ _ (by simpa using HB.out)).mono ?_;rintro e w' ⟨rfl,rfl⟩;go_wp2_with fail;go_ret;exact⟨ay HV.out.symm,zaS az _⟩
theorem Hp (x:Nd)(w:Ξ)(hk:x.kind=6):Ω prog 60 #[cZ x] w λe w'=>e=.returned (.bool (aQ x))∧η w.heap.size w w':=by
 unfold cZ;have nz:(x.kind==6)=true:=by simpa using hk
 have hb0:(x.kind==0)=false:=by rw[hk];decide
 have hb1:(x.kind==1)=false:=by rw[hk];decide
 have hb2:(x.kind==2)=false:=by rw[hk];decide
 have hb3:(x.kind==3)=false:=by rw[hk];decide
 have hb4:(x.kind==4)=false:=by rw[hk];decide
 have mF:(x.kind==5)=false:=by rw[hk];decide
 have HK:Hid (x.kind=6):=hk;clear hk;by_cases hl:x.n=0∨x.n=1
 ·by_cases hc:x.text=[]∧(0:Int)=0∧x.d=0∧x.subs.length=0
  ·have HV:Hid (aQ x=true):=by show _=_;unfold aQ;rw[zaa (by rw[HK.out];decide),zaa (by rw[HK.out];decide),zaa (by rw[HK.out];decide),zaa (by rw[HK.out];decide),zaa (by rw[HK.out];decide),zaa (by rw[HK.out];decide),zac HK.out];exact zbi ⟨hl,hc.1,hc.2.2.1,hc.2.2.2⟩
   have HB:Hid _:=hc;clear hc;cases Py:(x.n==0)
   ·have ZP:(x.n==1)=true:=by rw[zaJ];have:=beq_eq_false_iff_ne.1 Py;omega
    clear hl;go_enter func60,ntmps60;go_wp2_with fail;refine(oI _ _ _ _ _ _ _ (by simpa using HB.out)).mono ?_;rintro e w' ⟨rfl,rfl⟩;go_wp2_with fail;go_ret;exact⟨ay HV.out.symm,az⟩
   ·clear hl;go_enter func60,ntmps60;go_wp2_with fail;refine(oI _ _ _ _ _ _ _ (by simpa using HB.out)).mono ?_;rintro e w' ⟨rfl,rfl⟩;go_wp2_with fail;go_ret;exact⟨ay HV.out.symm,az⟩
  ·have HV:Hid (aQ x=false):=by show _=_;unfold aQ;rw[zaa (by rw[HK.out];decide),zaa (by rw[HK.out];decide),zaa (by rw[HK.out];decide),zaa (by rw[HK.out];decide),zaa (by rw[HK.out];decide),zaa (by rw[HK.out];decide),zac HK.out];exact zaY (λh=>hc ⟨h.2.1,rfl,h.2.2.1,h.2.2.2⟩)
   have HB:Hid _:=hc;clear hc;cases Py:(x.n==0)
   ·have ZP:(x.n==1)=true:=by rw[zaJ];have:=beq_eq_false_iff_ne.1 Py;omega
    clear hl;go_enter func60,ntmps60;go_wp2_with fail;refine(oJ _ _ _ _ _ _ _ (by simpa using HB.out)).mono ?_;rintro e w' ⟨rfl,rfl⟩;go_wp2_with fail;go_ret;exact⟨ay HV.out.symm,az⟩
   ·clear hl;go_enter func60,ntmps60;go_wp2_with fail;refine(oJ _ _ _ _ _ _ _ (by simpa using HB.out)).mono ?_;rintro e w' ⟨rfl,rfl⟩;go_wp2_with fail;go_ret;exact⟨ay HV.out.symm,az⟩
 ·have HV:Hid (aQ x=false):=by show _=_;unfold aQ;rw[zaa (by rw[HK.out];decide),zaa (by rw[HK.out];decide),zaa (by rw[HK.out];decide),zaa (by rw[HK.out];decide),zaa (by rw[HK.out];decide),zaa (by rw[HK.out];decide),zac HK.out];exact zaY (λh=>hl h.1)
  have Py:(x.n==0)=false:=by rw[zai];omega
  have ZP:(x.n==1)=false:=by rw[zai];omega
  clear hl;go_enter func60,ntmps60;go_wp2_with fail;go_ret;exact⟨ay HV.out.symm,az⟩
theorem Hq (x:Nd)(w:Ξ)(hk:x.kind=7):Ω prog 60 #[cZ x] w λe w'=>e=.returned (.bool (aQ x))∧η w.heap.size w w':=by
 unfold cZ;have xY:(x.kind==7)=true:=by simpa using hk
 have hb0:(x.kind==0)=false:=by rw[hk];decide
 have hb1:(x.kind==1)=false:=by rw[hk];decide
 have hb2:(x.kind==2)=false:=by rw[hk];decide
 have hb3:(x.kind==3)=false:=by rw[hk];decide
 have hb4:(x.kind==4)=false:=by rw[hk];decide
 have mF:(x.kind==5)=false:=by rw[hk];decide
 have nz:(x.kind==6)=false:=by rw[hk];decide
 have HK:Hid (x.kind=7):=hk;clear hk;cases hn:tL x.n
 ·have HV:Hid (aQ x=false):=by show _=_;unfold aQ;rw[zaa (by rw[HK.out];decide),zaa (by rw[HK.out];decide),zaa (by rw[HK.out];decide),zaa (by rw[HK.out];decide),zaa (by rw[HK.out];decide),zaa (by rw[HK.out];decide),zaa (by rw[HK.out];decide),zac HK.out];rw[hn,Bool.false_and]
  go_enter func60,ntmps60;go_wp2_with fail;refine(si _ _).mono ?_;rw[hn];rintro e w' ⟨rfl,rfl⟩;go_wp2_with fail;go_ret;exact⟨ay HV.out.symm,az⟩
 ·by_cases hc:x.text=[]∧(0:Int)=0∧x.d=0∧x.subs.length=0
  ·have HV:Hid (aQ x=true):=by show _=_;unfold aQ;rw[zaa (by rw[HK.out];decide),zaa (by rw[HK.out];decide),zaa (by rw[HK.out];decide),zaa (by rw[HK.out];decide),zaa (by rw[HK.out];decide),zaa (by rw[HK.out];decide),zaa (by rw[HK.out];decide),zac HK.out];rw[hn,zbi ⟨hc.1,hc.2.2.1,hc.2.2.2⟩];rfl
   have HB:Hid _:=hc;clear hc;go_enter func60,ntmps60;go_wp2_with fail;refine(si _ _).mono ?_;rw[hn];rintro e w' ⟨rfl,rfl⟩;go_wp2_with fail;refine(oI _ _ _ _ _ _ _ (by simpa using HB.out)).mono ?_;rintro e w' ⟨rfl,rfl⟩;go_wp2_with fail;go_ret;exact⟨ay HV.out.symm,az⟩
  ·have HV:Hid (aQ x=false):=by show _=_;unfold aQ;rw[zaa (by rw[HK.out];decide),zaa (by rw[HK.out];decide),zaa (by rw[HK.out];decide),zaa (by rw[HK.out];decide),zaa (by rw[HK.out];decide),zaa (by rw[HK.out];decide),zaa (by rw[HK.out];decide),zac HK.out];rw[hn,zaY (λh=>hc ⟨h.1,rfl,h.2.1,h.2.2⟩)];rfl
   have HB:Hid _:=hc;clear hc;go_enter func60,ntmps60;go_wp2_with fail;refine(si _ _).mono ?_;rw[hn];rintro e w' ⟨rfl,rfl⟩;go_wp2_with fail;refine(oJ _ _ _ _ _ _ _ (by simpa using HB.out)).mono ?_;rintro e w' ⟨rfl,rfl⟩;go_wp2_with fail;go_ret;exact⟨ay HV.out.symm,az⟩
theorem Ae (x:Nd)(w:Ξ)(hk:x.kind<0∨7<x.kind):Ω prog 60 #[cZ x] w λe w'=>e=.returned (.bool (aQ x))∧η w.heap.size w w':=by
 unfold cZ;have hb0:(x.kind==0)=false:=by rw[zai];omega
 have hb1:(x.kind==1)=false:=by rw[zai];omega
 have hb2:(x.kind==2)=false:=by rw[zai];omega
 have hb3:(x.kind==3)=false:=by rw[zai];omega
 have hb4:(x.kind==4)=false:=by rw[zai];omega
 have mF:(x.kind==5)=false:=by rw[zai];omega
 have nz:(x.kind==6)=false:=by rw[zai];omega
 have xY:(x.kind==7)=false:=by rw[zai];omega
 have HV:Hid (aQ x=false):=by show _=_;unfold aQ;rw[zaa (by omega),zaa (by omega),zaa (by omega),zaa (by omega),zaa (by omega),zaa (by omega),zaa (by omega),zaa (by omega)]
 clear hk;go_enter func60,ntmps60;go_wp2_with fail;go_ret;exact⟨ay HV.out.symm,az⟩
theorem rT (x:Nd)(w:Ξ)(ht:x.text.length≤φ):Ω prog 60 #[cZ x] w λe w'=>e=.returned (.bool (aQ x))∧η w.heap.size w w':=by
 by_cases h:x.kind<0∨7<x.kind
 ·exact Ae x w h
 ·have:x.kind=0∨x.kind=1∨x.kind=2∨x.kind=3∨x.kind=4∨x.kind=5∨x.kind=6∨x.kind=7:=by omega
  rcases this with h|h|h|h|h|h|h|h
  ·exact Hj x w h
  ·exact Hk x w h
  ·exact Hl x w h
  ·exact Hm x w h
  ·exact Hn x w ht h
  ·exact Ho x w h
  ·exact Hp x w h
  ·exact Hq x w h
theorem KG (l:List Int)(k:Nat)(h:k<l.length)(all:Int):dF (l.take (k+1)) all=(dF (l.take k) all&&decide (0≤l.getD k 0∧l.getD k 0<all)):=by
 unfold dF;rw[zcA h,List.all_append];simp[List.getD,List.getElem?_eq_getElem h]
theorem Sk (l:List Int)(k:Nat)(h:k<l.length)(all:Int)(hb:¬(0≤l.getD k 0∧l.getD k 0<all)):dF l all=false:=by
 unfold dF;rw[List.all_eq_false];refine⟨l[k],zbd h,?_⟩;simp[List.getD,List.getElem?_eq_getElem h]at hb ⊢;omega
theorem rU (l:List Int)(a:Option Addr)(cap:Nat)(all:Int)(w:Ξ)(hl:l.length≤φ)(hc:sB w a l):Ω prog 61 #[.slice a l.length cap,Γ Δ all] w λe w'=>e=.returned (.bool (dF l all))∧w'=w:=by
 unfold φ at hl;rcases hc with rfl|⟨b,o,rfl,hc⟩
 ·go_enter func61,ntmps61;go_wp2_with fail;go_loop [9] (λi=>i=Γ Δ 0) (λi=>(intOf i).toNat)
  case atStart=>rfl
  case round=>
   subst hrel;go_wp2_with fail;go_ret;exact⟨rfl,rfl⟩
 ·have HC:Hid _:=hc;clear hc;go_enter func61,ntmps61;go_wp2_with fail;go_loop [9] (λi=>∃k:Nat,k≤l.length∧i=Γ Δ k∧Hid (dF (l.take k) all=true)) (λi=>l.length-(intOf i).toNat)
  case atStart=>exact⟨0,zaw _,rfl,rfl⟩
  case round=>
   obtain⟨k,hk,rfl,hr⟩:=hrel;by_cases hlt:k<l.length
   ·have hcell:=HC.out k hlt;by_cases hb:0≤l.getD k 0∧l.getD k 0<all
    ·have H:Hid (dF (l.take (k+1)) all=true):=by show _=_;rw[KG l k hlt,hr.out,zbi hb];rfl
     obtain⟨hb1,hb2⟩:=hb;generalize hg:l.getD k 0=v at *;have HG:Hid _:=hg;clear hg;go_wp2_with fail
     go_round
     case rel=>exact⟨k+1,by omega,by go_num,H⟩
     case measure=>simp[intOf];omega
    ·have H:Hid (dF l all=false):=Sk l k hlt all hb;generalize hg:l.getD k 0=v at *;have HG:Hid _:=hg;clear hg;by_cases h0:0≤v
     ·have h1:all≤v:=by omega
      clear hb;go_wp2_with fail;go_ret;exact⟨ay H.out.symm,rfl⟩
     ·clear hb;go_wp2_with fail;go_ret;exact⟨ay H.out.symm,rfl⟩
   ·have H:Hid (dF l all=true):=by have:=hr.out;rwa[zbC (by omega)]at this
    go_wp2_with fail;go_ret;exact⟨ay H.out.symm,rfl⟩
structure ED (w:Ξ) (b o:Nat) (x:Nd):Prop where
 kind:w.cell? ⟨b,o,none⟩=some (Γ Δ x.kind)
 text:w.cell? ⟨b,o+1,none⟩=some (.string ⟨⟨x.text⟩⟩)
 n:w.cell? ⟨b,o+2,none⟩=some (Γ Δ x.n)
 d:w.cell? ⟨b,o+3,none⟩=some (Γ Δ x.d)
 subs:w.cell? ⟨b,o+4,none⟩=some (.slice x.sa x.subs.length x.cap)
 ints:sB w x.sa x.subs
 acE:x.text.length≤φ
 acF:x.subs.length≤φ
def bh (w:Ξ)(b o:Nat)(G:List Nd):Prop:=∀i,(h:i<G.length)→ED w b (o+i*5) G[i]
theorem ml {w:Ξ}{a:Addr}{v:Φ}(h:w.cell? a=some v):a.block<w.heap.size:=by
 unfold Ξ.cell? at h;by_cases hb:a.block<w.heap.size
 ·exact hb
 ·rw[zbQ (by omega)]at h;simp at h
theorem bE {w w':Ξ}(hb:η w.heap.size w w'){a:Addr}{v:Φ}(h:w.cell? a=some v):w'.cell? a=some v:=by
 rw[hb.cell (ml h)];exact h
theorem sB.below {w w':Ξ}{a:Option Addr}{l:List Int}(h:sB w a l)(hb:η w.heap.size w w'):sB w' a l:=by
 rcases h with rfl|⟨b,o,rfl,hc⟩
 ·exact Or.inl rfl
 ·exact Or.inr ⟨b,o,rfl,λj hj=>bE hb (hc j hj)⟩
theorem ED.below {w w':Ξ}{b o:Nat}{x:Nd}(h:ED w b o x)(hb:η w.heap.size w w'):ED w' b o x:=
 ⟨bE hb h.kind,bE hb h.text,bE hb h.n,bE hb h.d,bE hb h.subs,h.ints.below hb,h.acE,h.acF⟩
theorem bh.below {w w':Ξ}{b o:Nat}{G:List Nd}(h:bh w b o G)(hb:η w.heap.size w w'):bh w' b o G:=λi hi=>(h i hi).below hb
theorem CU {w w1:Ξ}{c:Array Φ}{t:ξ}(hb:η (w.alloc (.cells c t)).heap.size (w.alloc (.cells c t)) w1):(∀o,w1.cell? ⟨w.heap.size,o,none⟩=c[o]?)∧(∀o,w1.frozen? ⟨w.heap.size,o,none⟩=false):=by
 refine⟨λo=>?_,λo=>?_⟩
 ·rw[hb.cell (by simp),Ξ.cell?_alloc_at _ _ _ _ rfl]
 ·rw[hb.frozen (by simp),Ξ.frozen?_alloc_at _ _ _ _ rfl]
theorem Sl {α:Type}(l:List α)(k:Nat)(h:k<l.length)(p:α→Bool):(l.take (k+1)).all p=((l.take k).all p&&p l[k]):=by
 rw[zcA h,List.all_append,zat,List.all_nil,zbJ]
theorem aak {α:Type}(l:List α)(k:Nat)(h:k<l.length)(p:α→Bool)(hp:p l[k]=false):l.all p=false:=by
 rw[List.all_eq_false];exact⟨l[k],zbd h,by simp[hp]⟩
theorem rh (G:List Nd)(b o cap:Nat)(w:Ξ)(hl:G.length≤φ)(hG:bh w b o G):Ω prog 38 #[.slice (some ⟨b,o,none⟩) G.length cap] w λe w'=>e=.returned (.bool (cJ G))∧η w.heap.size w w':=by
 unfold φ at hl;have HG:Hid _:=hG;clear hG;by_cases h1:G.length<1
 ·have H:Hid (cJ G=false):=by show _=_;unfold cJ;rw[zaY (by omega)];rfl
  go_enter func38,ntmps38;go_wp2_with fail;go_ret;exact⟨ay H.out.symm,zad _ _⟩
 ·by_cases h2:150<G.length
  ·have H:Hid (cJ G=false):=by show _=_;unfold cJ;rw[zaY (by omega)];rfl
   go_enter func38,ntmps38;go_wp2_with fail;go_ret;exact⟨ay H.out.symm,zad _ _⟩
  ·have d1:decide ((G.length:Int)<1)=false:=by simp;omega
   have d2:decide ((150:Int)<(G.length:Int))=false:=by simp;omega
   have HR:Hid (cJ G=G.all (λx=>aQ x&&dF x.subs G.length)):=by show _=_;unfold cJ;rw[zbi (by omega)];rfl
   go_enter func38,ntmps38;go_wp2_with fail;go_loopw [15] (λi wr=>∃k:Nat,k≤G.length∧i=Γ Δ k∧η w.heap.size w wr∧Hid ((G.take k).all (λx=>aQ x&&dF x.subs G.length)=true)) (λi _=>G.length-(intOf i).toNat)
   case atStart=>exact⟨0,zaw _,rfl,zad _ _,rfl⟩
   case round=>
    obtain⟨k,hk,rfl,hb,hr⟩:=hrel;by_cases hlt:k<G.length
    ·obtain⟨c0,c1,c2,c3,c4,hi,ht,hs⟩:=(HG.out k hlt).below hb;have HS:Hid _:=Sl G k hlt (λx=>aQ x&&dF x.subs G.length);have HN:Hid _:=aak G k hlt (λx=>aQ x&&dF x.subs G.length);have HT:Hid _:=ht;have HI:Hid _:=hi;have HL:Hid _:=hs;clear ht hi hs;generalize G[k]=x at *;have hz:=hb.size;cases hkb:aQ x
     ·have HV:Hid (cJ G=false):=by show _=_;rw[HR.out];exact HN.out (by simp[hkb])
      go_wp2_with fail;refine(rT x _ HT.out).mono ?_;rw[hkb];rintro e w2 ⟨rfl,hb2⟩;go_wp2_with fail;go_ret;exact⟨ay HV.out.symm,(hb.alloc hz _).trans (hb2.mono (by simp;omega))⟩
     ·go_wp2_with fail;refine(rT x _ HT.out).mono ?_;rw[hkb];rintro e w2 ⟨rfl,hb2⟩;obtain⟨hcell,P6⟩:=CU hb2;have hb3:=(hb.alloc hz _).trans (hb2.mono (by simp;omega));have hz2:=hb2.size;have HI2:Hid (sB w2 x.sa x.subs):=sB.below (w:=wr) HI.out ((zad _ _).alloc (zab _) _ |>.trans (hb2.mono (by simp)));have iu:Hid _:=hb2;clear hb2 P6 c0 c1 c2 c3 c4;cases hsb:dF x.subs G.length
      ·have HV:Hid (cJ G=false):=by show _=_;rw[HR.out];exact HN.out (by simp[hsb])
       go_wp2_with fail;refine(rU x.subs _ _ _ _ HL.out HI2.out).mono ?_;rw[hsb];rintro e w3 ⟨rfl,rfl⟩;go_wp2_with fail;go_ret;exact⟨ay HV.out.symm,hb3⟩
      ·have HV:Hid ((G.take (k+1)).all (λx=>aQ x&&dF x.subs G.length)=true):=by show _=_;rw[HS.out,hr.out,hkb,hsb];rfl
       go_wp2_with fail;refine(rU x.subs _ _ _ _ HL.out HI2.out).mono ?_;rw[hsb];rintro e w3 ⟨rfl,rfl⟩;go_wp2_with fail;go_roundw
       case rel=>exact⟨k+1,by omega,by go_num,hb3,HV⟩
       case measure=>simp[intOf];omega
    ·have HV:Hid (cJ G=true):=by show _=_;rw[HR.out];have:=hr.out;rwa[zbC (by omega)]at this
     go_wp2_with fail;go_ret;exact⟨ay HV.out.symm,hb⟩
end Go.Proofs.YtlhimdjkkiflhaaGreatDoor
