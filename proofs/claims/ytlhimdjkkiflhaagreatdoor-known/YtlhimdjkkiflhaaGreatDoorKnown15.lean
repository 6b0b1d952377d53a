import Derived.Shelf.Strings.Builder1
import Derived.Shelf.Small.Strs
import Derived.Shelf.Strings.BuilderF
import Derived.Shelf.Strings.BuilderK
import Derived.Shelf.Strconv.Itoa0
import Derived.Shelf.Strconv.Itoa1
import Derived.Shelf.LaysM
import Derived.Shelf.Strconv.Itoa2
import Derived.Shelf.Strconv.Itoa3
import Derived.Shelf.Strconv.Clone
import Derived.Shelf.Strings.Search1
import Derived.Shelf.Strings.Search2
import Derived.Shelf.Strings.Cut
import Derived.Shelf.Strings.Shaped
import Derived.Shelf.Strings.Prefix
import Derived.Test.YtlhimdjkkiflhaaGreatDoorRows
import Derived.WalkKit
import Derived.WalkSpells
import Derived.WalkLawsBesides
import Derived.Deep.QuietTactic
import Derived.BigQuiet
import Derived.Test.YtlhimdjkkiflhaaGreatDoorKnown14
set_option maxHeartbeats 8000000
set_option maxRecDepth 100000
set_option linter.unusedSectionVars false
namespace Go.Ren
open Go.Proofs.Tryz
open Go Go.Conc Go.ConcX Go.RowKit Go.Conc.Lib Go.ConcX.Gen Go.Proofs Go.Loop
variable {c:Frame}{cs:List Frame}
theorem JR {Z:Loc→Prop}{B:Nat}{a:Act}(hd:a.defers=[])(hs:a.tmps.size=20){v:Value}(h5:a.eval (.tmp 5)=v)(w:World):Goes prog true AtRel (DZ Z B) (λg w'=>g=G (c.finish v) cs∧AtRel w w') 8 (zo f43 a (c::cs)) w:=by
 unfold zo;have YE:(a.put (some 18) (.tuple #[])).eval (.tmp 5)=v:=(aD (by decide)).trans h5;have hs':(a.put (some 18) (.tuple #[])).tmps.size=20:=size_put.trans hs;have hd':(a.put (some 18) (.tuple #[])).defers=[]:=ct.trans hd;generalize a.put (some 18) (.tuple #[])=a1 at *;refine Goes.ctl rfl (λ_=>stepG_region_end) ?_;refine Goes.ctl rfl (λ_=>stepG_seq (x:= .region 11 (g11 f43) false) (y:= .ret)) ?_;refine Goes.ctl rfl (λ_=>stepG_region) ?_;refine Goes.Hn (ops:=g11 f43) (i:=0) (rest:=[1]) rfl rfl (by decide) (dd:=some 19) rfl (v:=v) (nw:=λw=>w) (λd=>?_) (λd=>rfl) (λd=>?_)
 ·show(pure (.value (a1.eval (.tmp 5))):Sem Next).run prog _=_;rw[YE];rfl
 have h19:(a1.put (some 19) v).eval (.tmp 19)=v:=aW (by rw[hs'];decide);have hs2:(a1.put (some 19) v).tmps.size=20:=size_put.trans hs';have WX:(a1.put (some 19) v).defers=[]:=ct.trans hd';generalize a1.put (some 19) v=a2 at *;refine Goes.Hn (ops:=g11 f43) (i:=1) (rest:=[]) rfl rfl (by decide) (dd:=some 2) rfl (v:=v) (nw:=λw=>w) (λd=>?_) (λd=>rfl) (λd1=>?_)
 ·show(pure (.value (a2.eval (.tmp 19))):Sem Next).run prog _=_;rw[h19];rfl
 have h2:(a2.put (some 2) v).eval (.tmp 2)=v:=aW (by rw[hs2];decide);have hd3:(a2.put (some 2) v).defers=[]:=ct.trans WX;generalize a2.put (some 2) v=a3 at *;refine Goes.ctl rfl (λ_=>stepG_region_end) ?_;refine Goes.ctl rfl (λ_=>stepG_ret') ?_;refine Goes.ctl (g':=G (c.finish v) cs) rfl (λw₁=>?_) ?_
 ·refine stepG_leave (fn:=f43) rfl hd3 YR ?_ ?_
  ·have iZ:a3.tmps.getD 2 undef=v:=h2;unfold results;rw[show f43.results=#[.tmp 2] from rfl];simp[←iZ,go_sem]
  ·unfold results;rw[show f43.results=#[.tmp 2] from rfl];simp[go_sem]
 ·refine Goes.stop λw₁ h₁=>⟨rfl,?_⟩;exact atRel_trans _ _ _ (atRel_trans _ _ _ ⟨d,rfl⟩ ⟨d1,rfl⟩) h₁
def CK (Shun:Loc→Prop)(ts:List Tok)(c:Frame)(cs:List Frame)(n:Nat)(w0:World)(m:Machine)(t:Trace):Prop:=
 ∃(gs:Array Goroutine) (W:World) (sl:Option (Nat×Nat)) (q:Nat→Nat) (ρ:Rn) (w:World) (v:Value) (Shun':Loc→Prop),m=crowd gs W sl∧gs.size=n+1∧gs[0]?=some (G (c.finish (rv ρ v)) cs)∧Leavers prog t gs q∧Past Shun' W.heap.size t∧
  (∀l,Shun' l→l.low W.heap.size)∧(∀l,l.low w0.heap.size→Shun' l→Shun l)∧(∀l,jv (Touch Sc.d ρ w) l→¬Shun' l)∧
  iH prog Sc ρ w W∧Cl prog Sc w v∧w.ownsRow prog.globals.size 131 7 v ts.length (ts.flatMap λt=>(dQ t).toList)∧(∀b,Touch Sc.d ρ w b→w0.heap.size≤b)∧
  w0.heap.size≤W.heap.size∧(∀b,b<w0.heap.size→W.heap[b]?=w0.heap[b]?)∧W.tape=w0.tape∧W.os=w0.os∧W.output=w0.output
theorem quiet_of {Shun Q:Loc→Prop}{B:Nat}{t:Trace}(h:Past Shun B t)(hQ:∀l,l.low B→¬Q l):∀i a,touchAt t i=some a→¬Q a.loc:=by
 intro i a ha;unfold touchAt at ha;obtain⟨act,h1,h2⟩:=zaz.1 ha;unfold Trace.act? at h1;obtain⟨op,h3,rfl⟩:=zai.1 h1;exact hQ _ (y8 (h.seen op (zaX h3)) h2)
theorem ud:∀(n:Nat) (s:List UInt8) (a:Nat),(aU n s a).length≤n
 |0,s,a=>zaa _
 |n+1,s,a=>by
  have:=ud n s (aZ s a).cA;rw[aU];split
  ·simp
  ·simp;exact this
def UN (N Low:Nat)(s:List UInt8)(h:N+4≤Low):sX (N+3) Low:=⟨⟨9⟩,N,[.string ⟨⟨s⟩⟩],by omega,by omega,by omega⟩
def UO (N Low:Nat)(h:N+4≤Low):sX (N+3) Low:=⟨⟨132⟩,N+2,[.chan (some (N+1))],by omega,by omega,by omega⟩
theorem YV {Shun:Loc→Prop}{N n Low:Nat}(hn:n≠0)(ac0:Low=N+4)(hS:∀l,Shun l→l.low N):Cq (QG N) (λl=>Shun l∨QG N l) n (N+1) (N+3) Low (Tf N) (λb=>b=N+1∨b=N+3):=by
 subst ac0;refine⟨⟨hn,λb hb=>by rcases hb with h|h<;>omega,by omega,λh=>by rcases h with h|h<;>omega,λl h=> .inr h,λl h=>?_,λl hl h=>?_,.inl rfl⟩,by omega,by omega,λa ha=> .inr ⟨a,rfl,ha⟩,.inr rfl⟩
 ·rcases h with h|rfl|⟨a,rfl,ha⟩
  ·exact Loc.low_mono (by omega) (hS l h)
  ·show N+1<N+4;omega
  ·show a.block<N+4;omega
 ·rcases h with h|rfl|⟨a,rfl,ha⟩
  ·have:=hS l h;cases l with
   |cell a=>have h2:a.block<N:=this;rcases hl with h|h<;>omega
   |obj r=>have h2:r<N:=this;rcases hl with h|h<;>omega
   |_=>exact hl
  ·rcases hl with h|h<;>omega
  ·rcases hl with h|h<;>omega
section
variable {s:List UInt8}
 (hN:∀(n:Nat) (w:World),n≤s.length→Calls prog 120 #[.string ⟨⟨s⟩⟩,.int .i64 n] w λe _=>∃v,e=.returned v∧v=bK (aZ s n))
 (hL:∀(t:Tok) (w:World),Calls prog 121 #[bK t] w λe _=>∃v,e=.returned v∧v=.bool t.lastB)
include hN hL in
theorem AR {Shun:Loc→Prop}{gs:Array Goroutine}{w0:World}{sl:Option (Nat×Nat)}{t:Trace}{q:Nat→Nat}(hlen:s.length≤1000)(hb:prog.globals.size≤w0.heap.size)(h0:gs[0]?=some (G (Frame.enter prog 43 #[.string ⟨⟨s⟩⟩] .normal) (c::cs)))(hLv:Leavers prog t gs q)(hP:Past Shun w0.heap.size t)(hS:∀l,Shun l→l.low w0.heap.size):Reach prog (crowd gs w0 sl) t (CK Shun (aU (s.length+1) s 0) c cs gs.size w0):=by
 have Mi:gs.size≠0:=by have:=(zac.1 h0).1;omega
 have hPQ:fj (QG w0.heap.size) Shun (w0.heap.size+4) 0 t:=fj.Ig (hP.mono (by omega)) (quiet_of hP λl hl hq=>by
  rcases hq with rfl|⟨a,rfl,ha⟩
  ·have:w0.heap.size+1<w0.heap.size:=hl;omega
  ·have:a.block<w0.heap.size:=hl;omega)
 refine(je (Q:=QG w0.heap.size) (Shun:=Shun) (B:=w0.heap.size+4) (D:=DZ (λl=>Shun l∨QG w0.heap.size l) (w0.heap.size+4)) (λ_ _ _ h=>h) 19 _ w0 (FP (cs:=c::cs) s w0 (λhz=>?_) (by omega)) gs sl t q rfl hLv h0 hPQ).bind ?_
 ·rcases hz with hz|hz|⟨a,ha,hab⟩
  ·have:w0.heap.size+2<w0.heap.size:=hS _ hz;omega
  ·cases hz
  ·cases ha;have:w0.heap.size+2=w0.heap.size+3:=hab;omega
 rintro m t1 ⟨gs1,a1,w1,sl1,q1,rfl,UQ,h01,ac1,ac2,hP1⟩;have hZ:∀a:Addr,a.block=w0.heap.size→¬(Shun (.cell a)∨QG w0.heap.size (.cell a)):=λa ha hz=>by
  rcases hz with hz|hz|⟨a',ha',hab⟩
  ·have:a.block<w0.heap.size:=hS _ hz;omega
  ·cases hz
  ·cases ha';omega
 have NA:=Ny s w0 a1 w1 (ac1 w1 (atRel_refl w1)) (by omega) (by omega);refine(je (Q:=QG w0.heap.size) (Shun:=Shun) (B:=w0.heap.size+4) (λw w' es h=>AP _ _ hZ h) 12 _ w1 NA gs1 sl1 t1 q1 UQ ac2 h01 hP1).bind ?_;rintro m t2 ⟨gs2,a2,w2,sl2,q2,rfl,LL,h02,ac3,ac4,hP2⟩;refine(ub (mk:= .disable) (by rfl) trivial LL ac4 h02 hP2 ac3).bind ?_;rintro m t3 ⟨gs3,a3,w3,sl3,q3,rfl,hn3,h03,⟨n3,YW⟩,ac5,hP3⟩;refine(je (Q:=QG w0.heap.size) (Shun:=Shun) (B:=w0.heap.size+4) (λw w' es h=>AP _ _ hZ h) n3 _ w3 YW gs3 sl3 t3 q3 hn3 ac5 h03 hP3).bind ?_;rintro m t4 ⟨gs4,a4,w4,sl4,q4,rfl,hn4,h04,ac6,ac7,Nq⟩;refine(ub (mk:= .enable) (by rfl) trivial hn4 ac7 h04 Nq ac6).bind ?_;rintro m t5 ⟨gs5,a5,w5,sl5,q5,rfl,hn5,h05,⟨n5,hG5⟩,ac8,WQ⟩;refine(je (Q:=QG w0.heap.size) (Shun:=Shun) (B:=w0.heap.size+4) (λw w' es h=>AP _ _ hZ h) n5 _ w5 hG5 gs5 sl5 t5 q5 hn5 ac8 h05 WQ).bind ?_;rintro m t6 ⟨gs6,a6,w6,sl6,q6,rfl,hn6,h06,ac9,ada,YH⟩;have MX:deafBehind (deafBehind 0 #[Go.ConcX.mk .disable]) #[Go.ConcX.mk .enable]=0:=by rfl
 rw[MX]at YH;obtain⟨a,hg,h9,rfl,hl,Fi⟩:=ac9 w6 (atRel_refl w6);have hsz:w6.heap.size=w0.heap.size+4:=hl.size;rw[←hsz]at YH;have FQ:w0.heap.size+4≤w6.heap.size:=by omega
 have mZ:prog.globals.size≤w6.heap.size:=by omega
 have YX:=Rb (P:=prog) (ty:=cg.tWg) (Q:=QG w0.heap.size) (Shun:=Shun) (Shun':=λl=>Shun l∨QG w0.heap.size l) (ch:=w0.heap.size+1) (Wg:=w0.heap.size+3) (n:=gs.size) (ro:=Tf w0.heap.size) (z:=bK s7) (w:=w6) (x:=UN w0.heap.size w6.heap.size s FQ) (y:=UO w0.heap.size w6.heap.size FQ)
  (After:=AO (Tf w0.heap.size) w0.heap.size (w0.heap.size+2) (w0.heap.size+3) (w0.heap.size+1) (aU (s.length+1) s 0) (c::cs)) (vs:=(aU (s.length+1) s 0).map bK) (sl:=sl6)
  (YV Mi hsz hS) (λl h=> .inl h) (by show w0.heap.size≠w0.heap.size+2;omega) (λa ha=>hZ a ha) (λa ha hz=>?_) hn6 ada h06 YH rfl (λw₁ _=>Nz h9 w₁) ⟨0,0,false,hl.chan⟩ Fi (λw₁ h₁=>?_) (λw₁ h₁=>?_)
 rotate_left
 ·have hab:a.block=w0.heap.size+2:=ha;rcases hz with hz|hz|⟨a',ha',aga⟩
  ·have:a.block<w0.heap.size:=hS _ hz;omega
  ·cases hz
  ·cases ha';omega
 ·obtain⟨d,rfl⟩:=h₁;exact AQ (x:=UN w0.heap.size w6.heap.size s FQ) (y:=UO w0.heap.size w6.heap.size FQ) rfl rfl hg (by have:=ud (s.length+1) s 0;omega) mZ FQ hl.box
 ·obtain⟨d,rfl⟩:=h₁;exact FL (x:=UN w0.heap.size w6.heap.size s FQ) (y:=UO w0.heap.size w6.heap.size FQ) (by show w0.heap.size≠w0.heap.size+1;omega) (by show w0.heap.size+2≠w0.heap.size+1;omega) (.inl rfl) (.inr rfl) hN hL (w6.at d) ⟨λb hb=>by
   rcases hb with h|h|h
   ·exact h.elim
   ·show b<w6.heap.size;omega
   ·show b<w6.heap.size;omega,λ_ _ h=>h⟩ mZ ⟨hl.txt,hl.box⟩ (cell_of_one (w:=w6.at d) hl.txt) (cell_of_one (w:=w6.at d) hl.box)
 refine YX.bind ?_;rintro m t7 ⟨w₁,⟨d1,rfl⟩,gs7,w',w7,sl7,q7,a7,own,rfl,hn7,h07,afZ,⟨a',⟨hga,ρ,w,v,hA,h5,fe,hrow⟩,rfl,JS⟩,agb,adb,YJ,YY,af0,UR,ht7,ade,YZ⟩;refine(je (Q:=λ_=>False) (Shun:=λl=>Shun l∨QG w0.heap.size l) (B:=w7.heap.size) (D:=DZ (λl=>(Shun l∨QG w0.heap.size l)∨False) w7.heap.size) (λ_ _ _ h=>h) 8 _ w7 (JR (c:=c) (cs:=cs) hga.defers hga.size h5 w7) gs7 sl7 t7 q7 hn7 adb h07 (fj.Ig YJ λ_ _ _ h=>h)).mono ?_;rintro m t8 ⟨gs8,a8,w8,sl8,q8,rfl,hn8,h08,adf,adg,hP8⟩;obtain⟨rfl,d8,e8⟩:=adf w8 (atRel_refl w8);have lD:w8.heap=w7.heap:=by rw[e8];rfl
 have agc:w7.heap.size=w'.heap.size:=JS.size;have AU:∀b,Touch Sc.d ρ w b→w0.heap.size+4≤b:=λb hb=>by have:=YY b (hA.SV b hb);omega
 have hblk:∀b,Touch Sc.d ρ w b→w8.heap[b]?=w'.heap[b]?:=λb hb=>by
  have:=AU b hb;rw[lD];exact JS.block b (by omega) (by omega) (by omega)
 have WU:=hA.uy.grow (aH:=w8) (by rw[lD];omega) hblk;refine⟨gs8,w8,sl8,q8,_,w,v,λl=>Shun l∨QG w0.heap.size l,rfl,hn8,?_,adg,by rw[lD];exact hP8.past,λl hl'=>?_,λl dV hl'=>?_,λl hl'=>?_,WU,fe,hrow,λb hb=>?_,by rw[lD];omega,λb hb=>?_,?_,?_,?_⟩
 ·rw[h08];have:rv (dD ρ w.heap.size w8.heap.size) v=rv ρ v:=fe.agree (λr hr=>aT hr) (Cc hA.uy WU);rw[this]
 ·have:=(YV (Low:=w6.heap.size) Mi hsz hS).sR l hl';exact Loc.low_mono (by rw[lD];omega) this
 ·rcases hl' with h|rfl|⟨a,rfl,ha⟩
  ·exact h
  ·have:w0.heap.size+1<w0.heap.size:=dV;omega
  ·have:a.block<w0.heap.size:=dV;omega
 ·rw[cV]at hl';rintro (h|rfl|⟨a,rfl,ha⟩)
  ·have Ih:=hS l h;cases l with
   |cell a=>have h1:=AU _ hl';have h2:a.block<w0.heap.size:=Ih;omega
   |obj r=>have h1:=AU _ hl';have h2:r<w0.heap.size:=Ih;omega
   |_=>exact hl'
  ·have h1:=AU _ hl';omega
  ·have h1:=AU _ hl';omega
 ·rw[cV]at hb;have:=AU b hb;omega
 ·rw[lD,JS.block b (by omega) (by omega) (by omega),UR b (by omega) (by omega) (by omega)];exact hl.old b hb
 ·rw[e8];exact(JS.tape.trans ht7).trans hl.tape
 ·rw[e8];exact(JS.os.trans ade).trans hl.os
 ·rw[e8];exact(JS.output.trans YZ).trans hl.output
end
end Go.Ren
namespace Go.Proofs
open Go.Proofs.Tryz
open Go.Shelf
def Tryz.CL:Go.Shelf.Ren:=⟨λ|137=>127|217=>174|266=>202|n=>n,λ|9=>9|5=>5|3=>3|n=>n,λ|n=>n⟩
theorem Tryz.Re:Go.Proofs.Lays.n137 prog Tryz.CL:={
 mixed:=by kernel_rfl
 f137:=func127.trans (congrArg some (by kernel_rfl))
 f217:=func174.trans (congrArg some (by kernel_rfl))
 f266:=func202.trans (congrArg some (by kernel_rfl))
 t3:=underlying3
 a3:=Tryz.isAgg3
 z3:=Tryz.sizeOf3
 v3:=Tryz.zeroValue3
 t5:=underlying5
 a5:=Tryz.isAgg5
 z5:=Tryz.sizeOf5
 v5:=Tryz.zeroValue5
 t9:=underlying9
 a9:=Tryz.isAgg9
 z9:=Tryz.sizeOf9
 v9:=Tryz.zeroValue9 }
open Go.RowKit in
theorem Tryz.strings_IndexByte (s:ByteArray)(c:Int)(w:World):Calls prog 127 #[.string s,.int .u8 c] w λe w'=>e=.returned (.int .i64 (Lib.indexByte s.data.toList c.toNat.toUInt8))∧w'=w:=Any.strings_IndexByte Tryz.Re s c w
def Tryz.AV:Go.Shelf.Ren:=⟨λ|171=>100|243=>155|246=>190|283=>216|284=>217|285=>218|286=>219|129=>239|317=>238|318=>240|319=>241|320=>242|337=>245|338=>246|n=>n,λ|3=>3|9=>9|2=>2|4=>4|171=>282|0=>0|53=>137|37=>80|5=>5|173=>285|212=>300|51=>140|20=>20|213=>301|46=>200|232=>306|233=>307|n=>n,λ|17=>1|18=>2|19=>3|n=>n⟩
theorem Tryz.NB:Go.Proofs.LaysM.n171 prog Tryz.AV:={
 mixed:=by kernel_rfl
 f129:=func239.trans (congrArg some (by kernel_rfl))
 f171:=func100.trans (congrArg some (by kernel_rfl))
 f243:=func155.trans (congrArg some (by kernel_rfl))
 f246:=func190.trans (congrArg some (by kernel_rfl))
 f283:=func216.trans (congrArg some (by kernel_rfl))
 f284:=func217.trans (congrArg some (by kernel_rfl))
 f285:=func218.trans (congrArg some (by kernel_rfl))
 f286:=func219.trans (congrArg some (by kernel_rfl))
 f317:=func238.trans (congrArg some (by kernel_rfl))
 f318:=func240.trans (congrArg some (by kernel_rfl))
 f319:=func241.trans (congrArg some (by kernel_rfl))
 f320:=func242.trans (congrArg some (by kernel_rfl))
 f337:=func245.trans (congrArg some (by kernel_rfl))
 f338:=func246.trans (congrArg some (by kernel_rfl))
 t0:=underlying0
 a0:=Tryz.isAgg0
 z0:=Tryz.sizeOf0
 v0:=Tryz.zeroValue0
 t2:=underlying2
 a2:=Tryz.isAgg2
 z2:=Tryz.sizeOf2
 v2:=Tryz.zeroValue2
 t3:=underlying3
 a3:=Tryz.isAgg3
 z3:=Tryz.sizeOf3
 v3:=Tryz.zeroValue3
 t4:=underlying4
 a4:=Tryz.isAgg4
 z4:=Tryz.sizeOf4
 v4:=Tryz.zeroValue4
 t5:=underlying5
 a5:=Tryz.isAgg5
 z5:=Tryz.sizeOf5
 v5:=Tryz.zeroValue5
 t9:=underlying9
 a9:=Tryz.isAgg9
 z9:=Tryz.sizeOf9
 v9:=Tryz.zeroValue9
 t20:=underlying20
 a20:=Tryz.isAgg20
 z20:=Tryz.sizeOf20
 v20:=Tryz.zeroValue20
 t37:=underlying80
 a37:=Tryz.isAgg80
 z37:=Tryz.sizeOf80
 v37:=Tryz.zeroValue80
 t46:=underlying200
 a46:=Tryz.isAgg200
 z46:=Tryz.sizeOf200
 v46:=Tryz.zeroValue200
 t51:=underlying140
 a51:=Tryz.isAgg140
 z51:=Tryz.sizeOf140
 v51:=Tryz.zeroValue140
 t53:=underlying137
 a53:=Tryz.isAgg137
 z53:=Tryz.sizeOf137
 v53:=Tryz.zeroValue137
 t171:=underlying282
 a171:=Tryz.isAgg282
 z171:=Tryz.sizeOf282
 v171:=Tryz.zeroValue282
 t173:=underlying285
 a173:=Tryz.isAgg285
 z173:=Tryz.sizeOf285
 v173:=Tryz.zeroValue285
 t212:=underlying300
 a212:=Tryz.isAgg300
 z212:=Tryz.sizeOf300
 v212:=Tryz.zeroValue300
 t213:=underlying301
 a213:=Tryz.isAgg301
 z213:=Tryz.sizeOf301
 t232:=underlying306
 a232:=Tryz.isAgg306
 z232:=Tryz.sizeOf306
 v232:=Tryz.zeroValue306
 t233:=underlying307
 a233:=Tryz.isAgg307
 z233:=Tryz.sizeOf307
 v233:=Tryz.zeroValue307
 g17:=by kernel_rfl
 g18:=by kernel_rfl
 g19:=by kernel_rfl
 i0:=by kernel_rfl
 i2:=by kernel_rfl
 i3:=by kernel_rfl
 i4:=by kernel_rfl
 i5:=by kernel_rfl
 i9:=by kernel_rfl
 i20:=by kernel_rfl
 i37:=by kernel_rfl
 i46:=by kernel_rfl
 i51:=by kernel_rfl
 i53:=by kernel_rfl
 i171:=by kernel_rfl
 i173:=by kernel_rfl
 i212:=by kernel_rfl
 i232:=by kernel_rfl
 i233:=by kernel_rfl
 m17:=by kernel_rfl
 m18:=by kernel_rfl
 m19:=by kernel_rfl }
open Go.RowKit Go.Sort Go.Lib in
theorem Tryz.strconv_Itoa (n:Int)(h0: -9223372036854775808≤n)(h1:n≤9223372036854775807)(w:World)(adh:Lib.TabIs prog w "internal/strconv.uint64pow10" .u64 Lib.pow10Tab):Calls prog 100 #[.int .i64 n] w λe w'=>e=.returned (.string ⟨(Lib.itoa n).toArray⟩)∧∃k os,w'=grow (w.drewN k) os:=Any.strconv_Itoa Tryz.NB n h0 h1 w adh
def Tryz.AW:Go.Shelf.Ren:=⟨λ|316=>130|n=>n,λ|9=>9|3=>3|4=>4|37=>80|0=>0|127=>190|5=>5|n=>n,λ|n=>n⟩
theorem Tryz.NC:Go.Proofs.LaysM.n316 prog Tryz.AW:={
 mixed:=by kernel_rfl
 f316:=func130.trans (congrArg some (by kernel_rfl))
 t0:=underlying0
 a0:=Tryz.isAgg0
 z0:=Tryz.sizeOf0
 v0:=Tryz.zeroValue0
 t3:=underlying3
 a3:=Tryz.isAgg3
 z3:=Tryz.sizeOf3
 v3:=Tryz.zeroValue3
 t4:=underlying4
 a4:=Tryz.isAgg4
 z4:=Tryz.sizeOf4
 v4:=Tryz.zeroValue4
 t9:=underlying9
 a9:=Tryz.isAgg9
 z9:=Tryz.sizeOf9
 v9:=Tryz.zeroValue9
 t37:=underlying80
 a37:=Tryz.isAgg80
 z37:=Tryz.sizeOf80
 v37:=Tryz.zeroValue80
 t127:=underlying190
 a127:=Tryz.isAgg190
 z127:=Tryz.sizeOf190
 v127:=Tryz.zeroValue190
 t5:=underlying5
 a5:=Tryz.isAgg5
 z5:=Tryz.sizeOf5
 v5:=Tryz.zeroValue5
 i0:=by kernel_rfl
 i3:=by kernel_rfl
 i4:=by kernel_rfl
 i5:=by kernel_rfl
 i9:=by kernel_rfl
 i37:=by kernel_rfl
 i127:=by kernel_rfl }
open Go.RowKit in
theorem Tryz.stringslite_Clone (s:ByteArray)(w:World)(UT:s.size≤281474976710656):Calls prog 130 #[.string s] w λe w'=>e=.returned (.string s)∧Below w.heap.size w w':=Any.stringslite_Clone Tryz.NC s w UT
def Tryz.CM:Go.Shelf.Ren:=⟨λ|219=>247|217=>174|225=>248|224=>249|267=>250|266=>202|314=>251|n=>n,λ|9=>9|3=>3|4=>4|5=>5|46=>200|146=>308|51=>140|n=>n,λ|1=>0|n=>n⟩
theorem Tryz.Rk:Go.Proofs.Lays.n219 prog Tryz.CM:={
 mixed:=by kernel_rfl
 f217:=func174.trans (congrArg some (by kernel_rfl))
 f219:=func247.trans (congrArg some (by kernel_rfl))
 f224:=func249.trans (congrArg some (by kernel_rfl))
 f225:=func248.trans (congrArg some (by kernel_rfl))
 f266:=func202.trans (congrArg some (by kernel_rfl))
 f267:=func250.trans (congrArg some (by kernel_rfl))
 f314:=func251.trans (congrArg some (by kernel_rfl))
 t3:=underlying3
 a3:=Tryz.isAgg3
 z3:=Tryz.sizeOf3
 v3:=Tryz.zeroValue3
 t4:=underlying4
 a4:=Tryz.isAgg4
 z4:=Tryz.sizeOf4
 v4:=Tryz.zeroValue4
 t5:=underlying5
 a5:=Tryz.isAgg5
 z5:=Tryz.sizeOf5
 v5:=Tryz.zeroValue5
 t9:=underlying9
 a9:=Tryz.isAgg9
 z9:=Tryz.sizeOf9
 v9:=Tryz.zeroValue9
 t46:=underlying200
 a46:=Tryz.isAgg200
 z46:=Tryz.sizeOf200
 v46:=Tryz.zeroValue200
 t51:=underlying140
 a51:=Tryz.isAgg140
 z51:=Tryz.sizeOf140
 v51:=Tryz.zeroValue140
 t146:=underlying308
 a146:=Tryz.isAgg308
 z146:=Tryz.sizeOf308
 v146:=Tryz.zeroValue308
 g1:=by kernel_rfl }
open Go.RowKit Go.Lib in
theorem Tryz.stringslite_Index_one (s:ByteArray)(c:UInt8)(w:World):Calls prog 247 #[.string s,.string ⟨#[c]⟩] w λe w'=>e=.returned (.int .i64 (Lib.indexByte s.data.toList c))∧w'=w:=Any.stringslite_Index_one Tryz.Rk s c w
def Tryz.FR:Go.Shelf.Ren:=⟨λ|99=>75|206=>128|n=>n,λ|9=>9|4=>4|3=>3|n=>n,λ|n=>n⟩
theorem Tryz.UU:Go.Proofs.Lays.n99 prog Tryz.FR:={
 mixed:=by kernel_rfl
 f99:=func75.trans (congrArg some (by kernel_rfl))
 f206:=func128.trans (congrArg some (by kernel_rfl))
 t3:=underlying3
 a3:=Tryz.isAgg3
 z3:=Tryz.sizeOf3
 v3:=Tryz.zeroValue3
 t4:=underlying4
 a4:=Tryz.isAgg4
 z4:=Tryz.sizeOf4
 v4:=Tryz.zeroValue4
 t9:=underlying9
 a9:=Tryz.isAgg9
 z9:=Tryz.sizeOf9
 v9:=Tryz.zeroValue9 }
open Go.RowKit Go.Lib in
theorem Tryz.strings_HasPrefix (s p:ByteArray)(w:World):Calls prog 75 #[.string s,.string p] w λe w'=>e=.returned (.bool (Lib.hasPrefix s.data.toList p.data.toList))∧w'=w:=Any.strings_HasPrefix Tryz.UU s p w
end Go.Proofs
namespace Go.Proofs.YtlhimdjkkiflhaaGreatDoor
open Go.Proofs.Tryz
open Go.RowKit Go.Loop
theorem fC {k:IntKind}{a b:Int}(h:a=b):Ending.returned (.int k a)=.returned (.int k b):=by rw[h]
theorem az {a b:Bool}(h:a=b):Ending.returned (.bool a)=.returned (.bool b):=by rw[h]
theorem dz (c:Int)(w:World):Calls prog 186 #[.int .u8 c] w λe w'=>e=.returned (.bool (dO c))∧w'=w:=by
 go_enter func186,ntmps186
 go_wp2
 all_goals
  go_ret;exact⟨az (by simp[dO];try omega),rfl⟩
theorem ir (c:Int)(w:World):Calls prog 187 #[.int .u8 c] w λe w'=>e=.returned (.bool (k9 c))∧w'=w:=by
 go_enter func187,ntmps187
 go_wp2
 all_goals
  go_ret;refine⟨az ?_,rfl⟩;rw[zar];simp[k9];omega
theorem ND:∀n:Nat,n<256→S9 n=decide (0≤Lib.indexByte [43,45,42,47,60,62,61,63,33,46,95] n.toUInt8):=by decide +kernel
theorem iu (c:Int)(w:World)(h0:0≤c)(h1:c≤255):Calls prog 149 #[.int .u8 c] w λe w'=>e=.returned (.bool (cq c))∧w'=w:=by
 have hs:=ND c.toNat (by omega);rw[Int.toNat_of_nonneg h0]at hs;cases hl:k9 c
 ·cases hd:dO c
  ·go_enter func149,ntmps149;go_wp2_with (first|(go_at_call 187;refine(ir _ _).mono ?_;rw[hl];rintro e w' ⟨rfl,rfl⟩)|(go_at_call 186;refine(dz _ _).mono ?_;rw[hd];rintro e w' ⟨rfl,rfl⟩)|(go_at_call 127;refine(Tryz.strings_IndexByte _ _ _).mono ?_;rintro e w' ⟨rfl,rfl⟩));all_goals
    go_ret;refine⟨az ?_,rfl⟩;simp[cq,hl,hd,hs]
  ·go_enter func149,ntmps149;go_wp2_with (first|(go_at_call 187;refine(ir _ _).mono ?_;rw[hl];rintro e w' ⟨rfl,rfl⟩)|(go_at_call 186;refine(dz _ _).mono ?_;rw[hd];rintro e w' ⟨rfl,rfl⟩)|(go_at_call 127;refine(Tryz.strings_IndexByte _ _ _).mono ?_;rintro e w' ⟨rfl,rfl⟩));all_goals
    go_ret;refine⟨az ?_,rfl⟩;simp[cq,hl,hd]
 ·go_enter func149,ntmps149;go_wp2_with (first|(go_at_call 187;refine(ir _ _).mono ?_;rw[hl];rintro e w' ⟨rfl,rfl⟩)|(go_at_call 186;refine(dz _ _).mono ?_;rintro e w' ⟨rfl,rfl⟩));all_goals
   go_ret;refine⟨az ?_,rfl⟩;simp[cq,hl]
theorem JU (s:ByteArray)(k:Nat)(h:k<s.size):s.data.toList.take (k+1)=s.data.toList.take k++[s[k]]:=by
 rw[zbE (by simpa using h)];rfl
theorem NF (s:ByteArray)(k:Nat)(h:s.size≤k):s.data.toList.take k=s.data.toList:=zaS (by simpa using h)
theorem u7 (c:UInt8)(r:List UInt8)(h:0<(ByteArray.mk (Array.mk (c::r))).size):(ByteArray.mk (Array.mk (c::r)))[0]'h=c:=rfl
theorem rq (c:UInt8)(r:List UInt8):(ByteArray.mk (Array.mk (c::r))).extract 1 (r.length+1)=⟨⟨r⟩⟩:=by
 apply ByteArray.ext;simp
theorem u9 (c d:UInt8)(r:List UInt8):(ByteArray.mk (Array.mk (c::d::r))).extract 1 (r.length+1+1)=⟨⟨d::r⟩⟩:=rq c (d::r)
theorem lK (r:List UInt8):(ByteArray.mk (Array.mk r)).toList=r:=by simp
section
attribute [local go_sem] u7 rq u9 lK
theorem iT (c:UInt8)(r:List UInt8)(w:World)(hs:(c::r).length≤maxLen):Calls prog 147 #[.string ⟨⟨c::r⟩⟩] w λe w'=>e=.returned (.bool (cT (c::r)))∧w'=w:=by
 unfold maxLen at hs;simp at hs;cases hp:((c.toNat:Int)==43)
 ·cases hm:((c.toNat:Int)==45)
  ·have H:Hid (cT (c::r)=dO (c.toNat:Int)):=by
    simp at hp hm;exact yn c r hp hm
   go_enter func147,ntmps147;go_wp2_with (go_at_call 186;refine(dz _ _).mono ?_;rintro e w' ⟨rfl,rfl⟩);go_ret;exact⟨az H.out.symm,rfl⟩
  ·cases r with
   |nil=>
    have H:Hid (cT [c]=false):=by simp at hm;exact pB c (Or.inr hm)
    go_enter func147,ntmps147;go_wp2_with (go_at_call 186;refine(dz _ _).mono ?_;rintro e w' ⟨rfl,rfl⟩);go_ret;exact⟨az H.out.symm,rfl⟩
   |cons d r=>
    have H:Hid (cT (c::d::r)=dO (d.toNat:Int)):=by
     simp at hm;exact pC c d r (Or.inr hm)
    simp at hs;go_enter func147,ntmps147;go_wp2_with (go_at_call 186;refine(dz _ _).mono ?_;rintro e w' ⟨rfl,rfl⟩);go_ret;exact⟨az H.out.symm,rfl⟩
 ·cases r with
   |nil=>
    have H:Hid (cT [c]=false):=by simp at hp;exact pB c (Or.inl hp)
    go_enter func147,ntmps147;go_wp2_with (go_at_call 186;refine(dz _ _).mono ?_;rintro e w' ⟨rfl,rfl⟩);go_ret;exact⟨az H.out.symm,rfl⟩
   |cons d r=>
    have H:Hid (cT (c::d::r)=dO (d.toNat:Int)):=by
     simp at hp;exact pC c d r (Or.inl hp)
    simp at hs;go_enter func147,ntmps147;go_wp2_with (go_at_call 186;refine(dz _ _).mono ?_;rintro e w' ⟨rfl,rfl⟩);go_ret;exact⟨az H.out.symm,rfl⟩
end
theorem dA (s:ByteArray)(CN:Int)(w:World)(hs:s.size≤maxLen)(h0:0≤CN)(h1:CN≤s.size):Calls prog 148 #[.string s,.int .i64 CN,.func (.func 149) #[] #[]] w λe w'=>e=.returned (.int .i64 (CN+bI cq (s.data.toList.drop CN.toNat)))∧w'=w:=by
 unfold maxLen at hs;obtain⟨a,rfl⟩:=zbh h0;rw[zaE];go_enter func148,ntmps148;go_wp2_with fail;go_loop [1] (λi=>∃k:Nat,a≤k∧k≤s.size∧i=.int .i64 k∧Hid ((a:Int)+bI cq (s.data.toList.drop a)=(k:Int)+bI cq (s.data.toList.drop k))) (λi=>s.size-(intOf i).toNat)
 case atStart=>exact⟨a,zaa _,by omega,rfl,rfl⟩
 case round=>
  obtain⟨k,JV,hk,rfl,hr⟩:=hrel;by_cases hlt:k<s.size
  ·have hd:Hid (s.data.toList.drop k=s[k]::s.data.toList.drop (k+1)):=by show _=_;rw[zba (by simpa using hlt)];rfl
   cases hp:cq (s[k].toNat :Int)
   ·have H:Hid (bI cq (s.data.toList.drop k)=0):=by show _=_;rw[hd.out];simp[bI,hp]
    go_wp2_with fail;refine(iu _ _ (by omega) (by have:=s[k].toNat_lt;omega)).mono ?_;rw[hp];rintro e w' ⟨rfl,rfl⟩;go_wp2_with fail;go_ret;refine⟨fC ?_,rfl⟩;rw[hr.out,H.out];simp
   ·have H:Hid (bI cq (s.data.toList.drop k)=bI cq (s.data.toList.drop (k+1))+1):=by show _=_;rw[hd.out];simp[bI,hp]
    go_wp2_with fail;refine(iu _ _ (by omega) (by have:=s[k].toNat_lt;omega)).mono ?_;rw[hp];rintro e w' ⟨rfl,rfl⟩;go_wp2_with fail
    go_round
    case rel=>exact⟨k+1,by omega,by omega,by go_num,by show _=_;rw[hr.out,H.out];omega⟩
    case measure=>simp[intOf];omega
  ·have H:Hid (bI cq (s.data.toList.drop k)=0):=by show _=_;rw[zaQ (by simp;omega)];rfl
   go_wp2_with fail;go_ret;refine⟨fC ?_,rfl⟩;rw[hr.out,H.out];simp
theorem CO (a b:Int):Int.gcd b (a.tmod b)=Int.gcd a b:=by
 have h:(a.tmod b)=a-b*(a.tdiv b):=by have:=Int.mul_tdiv_add_tmod a b;omega
 rw[h,Int.gcd_sub_mul_left_right,Int.gcd_comm]
theorem Ii (a b:Int)(hb:b≠0):(a.tmod b).natAbs <b.natAbs:=by
 rw[Int.natAbs_tmod];exact Nat.mod_lt _ (by omega)
theorem NG (t:Int)(b:Int)(h:t.natAbs<b.natAbs)(hb1: -4611686018427387904≤b)(hb2:b≤4611686018427387904): -4611686018427387904≤t∧t≤4611686018427387904:=by omega
theorem ru (a:Int):((Int.gcd a 0:Nat):Int)=max a (-a):=by
 rw[Int.gcd_zero_right];omega
theorem CP (n d:Int)(w:World)(h1: -4611686018427387904≤n)(h2:n≤4611686018427387904)(h3: -4611686018427387904≤d)(h4:d≤4611686018427387904):Calls prog 214 #[.int .i64 n,.int .i64 d] w λe w'=>e=.returned (.int .i64 (Int.gcd n d))∧∃m,w'=w.drewN m:=by
 go_enter func214,ntmps214
 go_wp2
 go_loopw [0,1] (λx y wr=>∃a b:Int,x=.int .i64 a∧y=.int .i64 b∧-4611686018427387904≤a∧a≤4611686018427387904∧-4611686018427387904≤b∧b≤4611686018427387904∧Hid (Int.gcd a b=Int.gcd n d)∧∃m,wr=w.drewN m) (λ_ y _=>(intOf y).natAbs)
 case atStart=>exact⟨n,d,rfl,rfl,h1,h2,h3,h4,rfl,0,rfl⟩
 case round=>
  obtain⟨a,b,rfl,rfl,ha1,ha2,hb1,hb2,hg,m,rfl⟩:=hrel;by_cases hb:b=0
  ·subst hb
   go_wp2
   go_ret;exact⟨fC (by rw[←hg.out,ru]),_,rfl⟩
  ·have LM:(b != 0)=true:=by simpa using hb
   have HT:Hid ((a.tmod b).natAbs <b.natAbs):=Ii a b hb;obtain⟨t1,t2⟩:=NG _ _ HT.out hb1 hb2
   go_wp2
   go_quiet (fail)
   go_wp2
   go_roundw
   case rel=>exact⟨b,a.tmod b,rfl,rfl,hb1,hb2,t1,t2,(CO a b).trans hg.out,_,World.drewN_drewN _ _ _⟩
   case measure=>exact HT.out
theorem wN (n d:Int)(w:World)(h1: -4611686018427387904≤n)(h2:n≤4611686018427387904)(h3:1≤d)(h4:d≤4611686018427387904):Calls prog 188 #[.int .i64 n,.int .i64 d] w λe w'=>e=.returned (.tuple #[.int .i64 (n.tdiv (Int.gcd n d)),.int .i64 (d/(Int.gcd n d))])∧∃m,w'=w.drewN m:=by
 have hg:1≤((Int.gcd n d:Nat):Int):=by
  have:0<Int.gcd n d:=zbw _ (by omega);omega
 go_enter func188,ntmps188;go_wp2_with (go_at_call 214;refine(CP _ _ _ (by omega) (by omega) (by omega) (by omega)).mono ?_;rintro e w' ⟨rfl,m,rfl⟩)
 go_quiet (fail)
 go_wp2
 go_ret2;exact⟨rfl,_,World.drewN_drewN _ _ _⟩
theorem Ij (n g:Int)(h1: -4611686018427387904≤n)(h2:n≤4611686018427387904)(_hg:1≤g): -4611686018427387904≤n.tdiv g∧n.tdiv g≤4611686018427387904:=by
 have:(n.tdiv g).natAbs≤n.natAbs:=by rw[Int.natAbs_tdiv];exact Nat.div_le_self _ _
 omega
theorem NH (n g:Int)(h1:1≤n)(h2:n≤4611686018427387904)(hg:1≤g):0≤n/g∧n/g≤4611686018427387904:=by
 have h3:=Int.ediv_le_self (a:=n) g (by omega);have h4:=Int.ediv_nonneg (a:=n) (b:=g) (by omega) (by omega);omega
theorem cZ (n d:Int)(w:World)(h1: -4611686018427387904≤n)(h2:n≤4611686018427387904)(h3:1≤d)(h4:d≤4611686018427387904):Calls prog 150 #[.int .i64 n,.int .i64 d] w λe w'=>e=.returned (.tuple #[.int .i64 (n.tdiv (Int.gcd n d)),.int .i64 (d/(Int.gcd n d))])∧∃m,w'=w.drewN m:=by
 have hg:1≤((Int.gcd n d:Nat):Int):=by
  have:0<Int.gcd n d:=zbw _ (by omega);omega
 obtain⟨t1,t2⟩:=Ij n _ h1 h2 hg;obtain⟨t3,t4⟩:=NH d _ h3 h4 hg;go_enter func150,ntmps150;go_wp2_with (go_at_call 188;refine(wN _ _ _ (by omega) (by omega) (by omega) (by omega)).mono ?_;rintro e w' ⟨rfl,m,rfl⟩);generalize n.tdiv (Int.gcd n d)=u at *;generalize d/(Int.gcd n d)=v at *
 go_wp2
 go_ret2;exact⟨rfl,_,rfl⟩
theorem PO (n d:Int)(w:World)(h1: -4611686018427387904≤n)(h2:n≤4611686018427387904)(h3:1≤d)(h4:d≤4611686018427387904):Calls prog 182 #[.int .i64 n,.int .i64 d] w λe w'=>e=.returned (.tuple #[.int .i64 (n.tdiv (Int.gcd n d)),.int .i64 (d/(Int.gcd n d))])∧∃m,w'=w.drewN m:=by
 have hg:1≤((Int.gcd n d:Nat):Int):=by
  have:0<Int.gcd n d:=zbw _ (by omega);omega
 go_enter func182,ntmps182
 go_wp2
 go_loop [6,7] (λx y=>∃a b:Int,x=.int .i64 a∧y=.int .i64 b∧-4611686018427387904≤a∧a≤4611686018427387904∧-4611686018427387904≤b∧b≤4611686018427387904∧Hid (Int.gcd a b=Int.gcd n d)) (λ_ y=>(intOf y).natAbs)
 case atStart=>exact⟨n,d,rfl,rfl,h1,h2,by omega,h4,rfl⟩
 case round=>
  obtain⟨a,b,rfl,rfl,ha1,ha2,hb1,hb2,sj⟩:=hrel;by_cases hb:b=0
  ·subst hb;have HM:Hid (((Int.gcd n d:Nat):Int)=max a (-a)):=by show _=_;rw[←sj.out,ru]
   by_cases ha:a<0
   ·obtain⟨g,rfl⟩:∃g,a=-g:=⟨-a,by omega⟩;have HA:Hid (((Int.gcd n d:Nat):Int)=g):=by show _=_;rw[HM.out];omega
    have hg1:1≤g:=by rw[←HA.out];exact hg
    go_wp2
    go_quiet (fail)
    go_wp2
    go_ret2;refine⟨?_,_,rfl⟩;rw[HA.out];rfl
   ·have HA:Hid (((Int.gcd n d:Nat):Int)=a):=by show _=_;rw[HM.out];omega
    have ha1:1≤a:=by rw[←HA.out];exact hg
    go_wp2
    go_quiet (fail)
    go_wp2
    go_ret2;refine⟨?_,_,rfl⟩;rw[HA.out];rfl
  ·have LM:(b != 0)=true:=by simpa using hb
   have HT:Hid ((a.tmod b).natAbs <b.natAbs):=Ii a b hb;obtain⟨t1,t2⟩:=NG _ _ HT.out hb1 hb2
   go_wp2
   go_round
   case rel=>exact⟨b,a.tmod b,rfl,rfl,hb1,hb2,t1,t2,(CO a b).trans sj.out⟩
   case measure=>exact HT.out
theorem jy (n d:Int)(w:World):Calls prog 97 #[.int .i64 n,.int .i64 d] w λe w'=>e=.returned (.bool (AK n d))∧∃m,w'=w.drewN m:=by
 by_cases hb:1≤d∧d≤1000000∧-1000000≤n∧n≤1000000
 ·obtain⟨b1,b2,b3,b4⟩:=hb;have H:Hid ((d/((Int.gcd n d:Nat):Int)==d)=AK n d):=by
   show _=_;rw[Cz n d b1];simp[AK,b1,b2,b3,b4]
  go_enter func97,ntmps97;go_wp2_with (go_at_call 150;refine(cZ _ _ _ (by omega) (by omega) (by omega) (by omega)).mono ?_;rintro e w' ⟨rfl,m,rfl⟩);go_ret;exact⟨az H.out,_,rfl⟩
 ·have H:Hid (AK n d=false):=by show _=_;simp[AK];omega
  go_enter func97,ntmps97;go_wp2_with fail;all_goals first
   |(exfalso;omega)
   |(go_ret;exact⟨az H.out.symm,0,rfl⟩)
theorem wO (l:List UInt8)(k:Nat)(h:k<(ByteArray.mk (Array.mk l)).size):(ByteArray.mk (Array.mk l))[k]'h=l[k]'h:=rfl
section
attribute [local go_sem] u7 wO rq u9 lK
theorem NI (l:List UInt8)(h1:l.isEmpty=false)(h2:(l==[46])=false)(h3:cT l=false):((bI cq l:Nat)==l.length)=qZ l:=by
 unfold qZ;rw[h1,h2,h3];simp only[Bool.not_false,zbo];rw[show(l.all Ta)=l.all (λc=>cq (c.toNat:Int)) from rfl,←CB,zar];simp
theorem AX (l:List UInt8)(w:World)(hs:l.length≤maxLen):Calls prog 96 #[.string ⟨⟨l⟩⟩] w λe w'=>e=.returned (.bool (qZ l))∧w'=w:=by
 cases l with
 |nil=>
  go_enter func96,ntmps96;go_wp2_with fail;go_ret;exact⟨rfl,rfl⟩
 |cons c r=>
 cases h2:((c::r)==[46])
 ·have H2:Hid (((c::r)==[46])=false):=h2;have iZ:¬(c::r)=[46]:=by simpa using h2
  have hsz:(ByteArray.mk (Array.mk (c::r))).size≤maxLen:=hs;cases h3:cT (c::r)
  ·have H3:=NI (c::r) rfl h2 h3;have H:Hid ((((bI cq (c::r):Nat):Int)==(r.length:Int)+1)=qZ (c::r)):=by
    show _=_;rw[←H3,zar];simp;omega
   clear H3;go_enter func96,ntmps96;go_wp2_with fail;refine(iT _ _ _ hs).mono ?_;rw[h3];rintro e w' ⟨rfl,rfl⟩;go_wp2_with fail;refine(dA _ _ _ hsz (by omega) (by omega)).mono ?_;rintro e w' ⟨rfl,rfl⟩;simp only[Int.toNat_zero,zaA,Int.zero_add];go_wp2_with fail;go_ret;exact⟨az H.out,rfl⟩
  ·have H:Hid (qZ (c::r)=false):=by show _=_;simp[qZ,h3]
   go_enter func96,ntmps96;go_wp2_with fail;refine(iT _ _ _ hs).mono ?_;rw[h3];rintro e w' ⟨rfl,rfl⟩;go_wp2_with fail;go_ret;exact⟨az H.out.symm,rfl⟩
 ·have iZ:(c::r)=[46]:=by simpa using h2
  rw[iZ];go_enter func96,ntmps96;go_wp2_with fail;go_ret;exact⟨rfl,rfl⟩
theorem gI (n:Int)(w:World):Calls prog 151 #[.int .i64 n] w λe w'=>e=.returned (.tuple #[.string ⟨⟨nameOf n⟩⟩,.bool (hasName n)])∧w'=w:=by
 go_enter func151,ntmps151;go_wp2_with fail;all_goals
  go_ret2;refine⟨?_,rfl⟩;simp_all [nameOf,hasName]
theorem lf (n:Int)(w:World):Calls prog 152 #[.int .i64 n] w λe w'=>e=.returned (.bool (decide (33≤n∧n≤126)))∧w'=w:=by
 go_enter func152,ntmps152;go_wp2_with fail;all_goals
  go_ret;exact⟨az (by simp;try omega),rfl⟩
theorem pY (n:Int)(w:World):Calls prog 98 #[.int .i64 n] w λe w'=>e=.returned (.bool (rb n))∧w'=w:=by
 cases h:hasName n
 ·go_enter func98,ntmps98;go_wp2_with fail;refine(gI _ _).mono ?_;rw[h];rintro e w' ⟨rfl,rfl⟩;go_wp2_with fail;refine(lf _ _).mono ?_;rintro e w' ⟨rfl,rfl⟩;go_wp2_with fail;go_ret;exact⟨az (by simp[rb,h]),rfl⟩
 ·go_enter func98,ntmps98;go_wp2_with fail;refine(gI _ _).mono ?_;rw[h];rintro e w' ⟨rfl,rfl⟩;go_wp2_with fail;go_ret;exact⟨az (by simp[rb,h]),rfl⟩
theorem CQ (l:List UInt8)(n d:Int)(a:Option Addr)(len cap:Nat)(w:World):Calls prog 95 #[.string ⟨⟨l⟩⟩,.int .i64 n,.int .i64 d,.slice a len cap] w λe w'=>e=.returned (.bool (decide (l=[]∧n=0∧d=0∧len=0)))∧w'=w:=by
 go_enter func95,ntmps95;go_wp2_with fail;all_goals
  go_ret;refine⟨az ?_,rfl⟩;first|(simp_all;done)|(simp_all;rw[zar];simp)
theorem eB {a b:List UInt8}(h:a=b):Ending.returned (.string ⟨⟨a⟩⟩)=.returned (.string ⟨⟨b⟩⟩):=by rw[h]
end
theorem kP (c:Int)(w:World):Calls prog 73 #[.int .u8 c] w λe w'=>e=.returned (.bool (decide (c=32∨c=9∨c=10)))∧w'=w:=by
 go_enter func73,ntmps73
 go_wp2
 all_goals
  go_ret;refine⟨az ?_,rfl⟩;rw[zar];simp;try omega
theorem bA (s:ByteArray):s.data.toList.length=s.size:=rfl
theorem nR (s:ByteArray)(k:Nat):(s.extract k s.size).data.toList=s.data.toList.drop k:=by
 rw[ByteArray.data_extract,Array.toList_extract];simp only[List.extract];rw[zaS];rw[zaj,bA];exact zaa _
theorem CR:∀l:List UInt8,(0≤Lib.indexByte l 10→Lib.indexByte l 10=(fT l:Int))∧(Lib.indexByte l 10<0→fT l=l.length)
 |[]=>by simp[Lib.indexByte,fT]
 |c::r=>by
  have ih:=CR r;have hg:=Lib.indexByte_ge r 10;unfold Lib.indexByte fT;by_cases hc:c=10
  ·subst hc;simp
  ·have hc':(c==10)=false:=by simpa using hc
   rw[hc',if_neg hc];simp only[zau,if_false];by_cases hm:Lib.indexByte r 10=-1
   ·simp only[hm,BEq.rfl,if_true];refine⟨by omega,λ_=>?_⟩;rw[ih.2 (by omega)];simp
   ·have PQ:(Lib.indexByte r 10==-1)=false:=by simpa using hm
    rw[PQ];simp only[zau,if_false];refine⟨λ_=>?_,λh=>by omega⟩;rw[ih.1 (by omega)];simp
theorem CS (s:ByteArray)(a:Nat)(w:World)(hs:s.size≤1000000)(ha:a≤s.size):Calls prog 74 #[.string s,.int .i64 a] w λe w'=>e=.returned (.int .i64 ((a:Int)+fT (s.data.toList.drop a)))∧w'=w:=by
 have h:=CR (s.data.toList.drop a);have hg:=Lib.indexByte_ge (s.data.toList.drop a) 10;have hle:=ri (s.data.toList.drop a);have hlen:(s.data.toList.drop a).length=s.size-a:=by rw[zaj,bA]
 generalize hi:Lib.indexByte (s.data.toList.drop a) 10=i at *;have HI:Hid (Lib.indexByte (s.data.toList.drop a) 10=i):=hi;clear hi;go_enter func74,ntmps74;go_wp2_with fail;refine(Tryz.strings_IndexByte _ _ _).mono ?_;rintro e w' ⟨rfl,rfl⟩;have hq:Lib.indexByte (s.extract a s.size).data.toList (Int.toNat 10).toUInt8=i:=by rw[nR];exact HI.out
 rw[hq];by_cases h0:0≤i
 ·have:=h.1 h0;go_wp2_with fail;go_ret;exact⟨fC (by omega),rfl⟩
 ·have:=h.2 (by omega);go_wp2_with fail;go_ret;exact⟨fC (by omega),rfl⟩
theorem eV (s:ByteArray)(CN:Int)(w:World)(hs:s.size≤maxLen)(h0:0≤CN)(h1:CN≤s.size):Calls prog 148 #[.string s,.int .i64 CN,.func (.func 186) #[] #[]] w λe w'=>e=.returned (.int .i64 (CN+bI dO (s.data.toList.drop CN.toNat)))∧w'=w:=by
 unfold maxLen at hs;obtain⟨a,rfl⟩:=zbh h0;rw[zaE];go_enter func148,ntmps148;go_wp2_with fail;go_loop [1] (λi=>∃k:Nat,a≤k∧k≤s.size∧i=.int .i64 k∧Hid ((a:Int)+bI dO (s.data.toList.drop a)=(k:Int)+bI dO (s.data.toList.drop k))) (λi=>s.size-(intOf i).toNat)
 case atStart=>exact⟨a,zaa _,by omega,rfl,rfl⟩
 case round=>
  obtain⟨k,JV,hk,rfl,hr⟩:=hrel;by_cases hlt:k<s.size
  ·have hd:Hid (s.data.toList.drop k=s[k]::s.data.toList.drop (k+1)):=by show _=_;rw[zba (by simpa using hlt)];rfl
   cases hp:dO (s[k].toNat :Int)
   ·have H:Hid (bI dO (s.data.toList.drop k)=0):=by show _=_;rw[hd.out];simp[bI,hp]
    go_wp2_with fail;refine(dz _ _).mono ?_;rw[hp];rintro e w' ⟨rfl,rfl⟩;go_wp2_with fail;go_ret;refine⟨fC ?_,rfl⟩;rw[hr.out,H.out];simp
   ·have H:Hid (bI dO (s.data.toList.drop k)=bI dO (s.data.toList.drop (k+1))+1):=by show _=_;rw[hd.out];simp[bI,hp]
    go_wp2_with fail;refine(dz _ _).mono ?_;rw[hp];rintro e w' ⟨rfl,rfl⟩;go_wp2_with fail
    go_round
    case rel=>exact⟨k+1,by omega,by omega,by go_num,by show _=_;rw[hr.out,H.out];omega⟩
    case measure=>simp[intOf];omega
  ·have H:Hid (bI dO (s.data.toList.drop k)=0):=by show _=_;rw[zaQ (by simp;omega)];rfl
   go_wp2_with fail;go_ret;refine⟨fC ?_,rfl⟩;rw[hr.out,H.out];simp
theorem gh (s:ByteArray)(CN:Int)(w:World)(hs:s.size≤maxLen)(h0:0≤CN)(h1:CN≤s.size):Calls prog 148 #[.string s,.int .i64 CN,.func (.func 187) #[] #[]] w λe w'=>e=.returned (.int .i64 (CN+bI k9 (s.data.toList.drop CN.toNat)))∧w'=w:=by
 unfold maxLen at hs;obtain⟨a,rfl⟩:=zbh h0;rw[zaE];go_enter func148,ntmps148;go_wp2_with fail;go_loop [1] (λi=>∃k:Nat,a≤k∧k≤s.size∧i=.int .i64 k∧Hid ((a:Int)+bI k9 (s.data.toList.drop a)=(k:Int)+bI k9 (s.data.toList.drop k))) (λi=>s.size-(intOf i).toNat)
 case atStart=>exact⟨a,zaa _,by omega,rfl,rfl⟩
 case round=>
  obtain⟨k,JV,hk,rfl,hr⟩:=hrel;by_cases hlt:k<s.size
  ·have hd:Hid (s.data.toList.drop k=s[k]::s.data.toList.drop (k+1)):=by show _=_;rw[zba (by simpa using hlt)];rfl
   cases hp:k9 (s[k].toNat :Int)
   ·have H:Hid (bI k9 (s.data.toList.drop k)=0):=by show _=_;rw[hd.out];simp[bI,hp]
    go_wp2_with fail;refine(ir _ _).mono ?_;rw[hp];rintro e w' ⟨rfl,rfl⟩;go_wp2_with fail;go_ret;refine⟨fC ?_,rfl⟩;rw[hr.out,H.out];simp
   ·have H:Hid (bI k9 (s.data.toList.drop k)=bI k9 (s.data.toList.drop (k+1))+1):=by show _=_;rw[hd.out];simp[bI,hp]
    go_wp2_with fail;refine(ir _ _).mono ?_;rw[hp];rintro e w' ⟨rfl,rfl⟩;go_wp2_with fail
    go_round
    case rel=>exact⟨k+1,by omega,by omega,by go_num,by show _=_;rw[hr.out,H.out];omega⟩
    case measure=>simp[intOf];omega
  ·have H:Hid (bI k9 (s.data.toList.drop k)=0):=by show _=_;rw[zaQ (by simp;omega)];rfl
   go_wp2_with fail;go_ret;refine⟨fC ?_,rfl⟩;rw[hr.out,H.out];simp
theorem NJ (x y c d:UInt8)(r:List UInt8):Lib.hasPrefix (c::d::r) [x,y]=decide (c=x∧d=y):=by
 simp only[Lib.hasPrefix,List.isPrefixOf];rw[zar];simp;exact⟨λh=>⟨h.1.symm,h.2.symm⟩,λh=>⟨h.1.symm,h.2.symm⟩⟩
theorem ry (x y c:UInt8):Lib.hasPrefix [c] [x,y]=false:=by simp[Lib.hasPrefix,List.isPrefixOf]
theorem rz (x y:UInt8):Lib.hasPrefix [] [x,y]=false:=by simp[Lib.hasPrefix,List.isPrefixOf]
theorem wP {l:List UInt8}{x y:UInt8}(h:Lib.hasPrefix l [x,y]=true):2≤l.length:=by
 match l,h with
 |c::d::r,_=>simp
 |[c],h=>rw[ry]at h;cases h
 |[],h=>rw[rz]at h;cases h
theorem wR:∀l:List UInt8,im l=Lib.hasPrefix l [35,124]
 |[]=>by rw[rz];rfl
 |[c]=>by rw[ry];rfl
 |c::d::r=>by rw[NJ];rfl
theorem JW {o:Nat}:∀{l:List UInt8},Lib.hasPrefix l [35,124]=true→bQ o l=((bQ (o+1) (l.drop 2)).1+2,(bQ (o+1) (l.drop 2)).2)
 |[],h=>by rw[rz]at h;cases h
 |[c],h=>by rw[ry]at h;cases h
 |c::d::r,h=>by
  rw[NJ,decide_eq_true_eq]at h;rw[bQ,if_pos h];rfl
theorem FT {o:Nat}:∀{l:List UInt8},Lib.hasPrefix l [35,124]=false→Lib.hasPrefix l [124,35]=true→bQ o l=if o≤1 then(2,true)else((bQ (o-1) (l.drop 2)).1+2,(bQ (o-1) (l.drop 2)).2)
 |[],_,h=>by rw[rz]at h;cases h
 |[c],_,h=>by rw[ry]at h;cases h
 |c::d::r,h1,h=>by
  rw[NJ,decide_eq_false_iff_not]at h1;rw[NJ,decide_eq_true_eq]at h;rw[bQ,if_neg h1,if_pos h];rfl
theorem JX {o:Nat}:∀{l:List UInt8},Lib.hasPrefix l [35,124]=false→Lib.hasPrefix l [124,35]=false→l≠[]→bQ o l=((bQ o (l.drop 1)).1+1,(bQ o (l.drop 1)).2)
 |[],_,_,h=>absurd rfl h
 |[c],_,_,_=>by simp[bQ]
 |c::d::r,h1,h,_=>by
  rw[NJ,decide_eq_false_iff_not]at h1 h;rw[bQ,if_neg h1,if_neg h];rfl
theorem wS (s:ByteArray)(a:Nat)(w:World)(hs:s.size≤1000000)(hh:im (s.data.toList.drop a)=true):Calls prog 76 #[.string s,.int .i64 a] w λe w'=>e=.returned (.tuple #[.int .i64 ((a:Int)+(bQ 0 (s.data.toList.drop a)).1),.bool (bQ 0 (s.data.toList.drop a)).2])∧w'=w:=by
 have Tg:Hid (Lib.hasPrefix (s.data.toList.drop a) [35,124]=true):=by rw[←wR];exact hh
 have ha:a+2≤s.size:=by have:=wP Tg.out;rw[zaj,bA]at this;omega
 clear hh;go_enter func76,ntmps76;go_wp2_with fail;go_loop [1,6] (λi d=>∃k o:Nat,a≤k∧k≤s.size∧o≤k∧((k=a∧o=0)∨1≤o)∧i=.int .i64 k∧d=.int .i64 o∧Hid ((a:Int)+(bQ 0 (s.data.toList.drop a)).1=(k:Int)+(bQ o (s.data.toList.drop k)).1∧(bQ 0 (s.data.toList.drop a)).2=(bQ o (s.data.toList.drop k)).2)) (λi _=>s.size-(intOf i).toNat)
 case atStart=>exact⟨a,0,zaa _,by omega,by omega,.inl ⟨rfl,rfl⟩,rfl,rfl,rfl,rfl⟩
 case round=>
  obtain⟨k,o,JV,hk,bX,ho,rfl,rfl,hr⟩:=hrel;by_cases hlt:k<s.size
  ·have hne:Hid (s.data.toList.drop k≠[]):=by
    intro h;have:=congrArg List.length h;rw[zaj,bA]at this;simp at this;omega
   cases yj:Lib.hasPrefix (s.data.toList.drop k) [35,124]
   ·have Y7:Hid (Lib.hasPrefix (s.data.toList.drop k) [35,124]=false):=yj;have WM:1≤o:=by
     rcases ho with⟨rfl,rfl⟩|h
     ·rw[Tg.out]at yj;cases yj
     ·exact h
    cases Rm:Lib.hasPrefix (s.data.toList.drop k) [124,35]
    ·have H:Hid _:=JX (o:=o) yj Rm hne.out;go_wp2_with fail;refine(Tryz.strings_HasPrefix _ _ _).mono ?_;rintro e w' ⟨rfl,rfl⟩;rw[nR,Y7.out];go_wp2_with fail;refine(Tryz.strings_HasPrefix _ _ _).mono ?_;rintro e w' ⟨rfl,rfl⟩;rw[nR,show Lib.hasPrefix (s.data.toList.drop k) [124,35]=false from Rm];go_wp2_with fail
     go_round
     case rel=>exact⟨k+1,o,by omega,by omega,by omega,.inr WM,by go_num,rfl,by
      have h1:=hr.out;rw[H.out,zbb]at h1;exact⟨by rw[h1.1];simp;omega,h1.2⟩⟩
     case measure=>simp[intOf];omega
    ·have hl2:=wP Rm;rw[zaj,bA]at hl2;have H:Hid _:=FT (o:=o) yj Rm;go_wp2_with fail;refine(Tryz.strings_HasPrefix _ _ _).mono ?_;rintro e w' ⟨rfl,rfl⟩;rw[nR,Y7.out];go_wp2_with fail;refine(Tryz.strings_HasPrefix _ _ _).mono ?_;rintro e w' ⟨rfl,rfl⟩;rw[nR,show Lib.hasPrefix (s.data.toList.drop k) [124,35]=true from Rm];by_cases ho2:o=1
     ·subst ho2;go_wp2_with fail;go_ret2;have h1:=hr.out;rw[H.out]at h1;refine⟨?_,rfl⟩;rw[h1.1,h1.2];simp
     ·go_wp2_with fail
      go_round
      case rel=>exact⟨k+2,o-1,by omega,by omega,by omega,.inr (by omega),by go_num,by go_num,by
       have h1:=hr.out;rw[H.out,if_neg (by omega),zbb]at h1;exact⟨by rw[h1.1];simp;omega,h1.2⟩⟩
      case measure=>simp[intOf];omega
   ·have hl2:=wP yj;rw[zaj,bA]at hl2;have H:Hid _:=JW (o:=o) yj;go_wp2_with fail;refine(Tryz.strings_HasPrefix _ _ _).mono ?_;rintro e w' ⟨rfl,rfl⟩;rw[nR,show Lib.hasPrefix (s.data.toList.drop k) [35,124]=true from yj];go_wp2_with fail
    go_round
    case rel=>exact⟨k+2,o+1,by omega,by omega,by omega,.inr (by omega),by go_num,by go_num,by
     have h1:=hr.out;rw[H.out,zbb]at h1;exact⟨by rw[h1.1];simp;omega,h1.2⟩⟩
    case measure=>simp[intOf];omega
  ·have cP:k=s.size:=by omega
   have hd:s.data.toList.drop k=[]:=by rw[cP,←bA];exact List.drop_length
   have h1:=hr.out;rw[hd]at h1;have H:Hid _:=h1;clear h1 hd;go_wp2_with fail;go_ret2;refine⟨?_,rfl⟩;rw[H.out.1,H.out.2];simp[bQ];try omega
end Go.Proofs.YtlhimdjkkiflhaaGreatDoor
