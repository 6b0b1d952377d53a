import Derived.Conc.BesideWords
import Derived.Test.YtlhimdjkkiflhaaGreatDoorKnown11
set_option maxHeartbeats 8000000
set_option maxRecDepth 100000
namespace Go.Ren
open Go
theorem nN {cs:Array Value}(h:∀x∈cs,fN x):fN (.agg cs):=λρ=>by
 rw[rv];have h':∀x∈cs,rv ρ x=id x:=λx hx=>h x hx ρ;rw[dF h',Array.map_id]
theorem wC {v:Value}(h:fN v):∀x∈v.cells,fN x:=by
 intro x hx;cases v with
 |agg cs=>
  intro ρ;have:=h ρ;rw[rv]at this;simp only[Value.agg.injEq]at this;obtain⟨i,hi,rfl⟩:=zbn.1 (show x∈cs from hx);have h2:=congrArg (λa=>a[i]?) this;simp only[zal,zaq hi,zaH,zam]at h2;exact h2
 |_=>simp only[Value.cells,zbf,zao,zbg,or_false]at hx;subst hx;exact h
theorem zk {α β:Type}(I:β→Prop){f:α→β→Option (ForInStep β)}(hs:∀a b s,I b→f a b=some s→I s.value):∀(l:List α) (init r:β),I init→forIn l init f=some r→I r
 |[],init,r,h0,h=>by
  simp only[List.forIn_nil,pure,zam]at h;exact h▸h0
 |a::l,init,r,h0,h=>by
  simp only[List.forIn_cons,bind,zaz]at h;obtain⟨s,h1,h2⟩:=h;have hI:=hs a init s h0 h1;cases s with
  |done b=>simp only[pure,zam]at h2;exact h2▸hI
  |yield b=>exact zk I hs l b r hI h2
theorem qX {info:TypeId→Option TypeInfo}(hi:∀t i v,info t=some i→i.zero=some v→fN v){fs:Array Field}{i:TypeInfo}(h:Made.reckonStruct info fs=some i){v:Value}(hz:i.zero=some v):fN v:=by
 unfold Made.reckonStruct at h;simp only[bind,zaz,pure,←zaW]at h;obtain⟨a,ha,h⟩:=h;have key:∀arr,a.2.2.2.2.2.2.2.1=some arr→∀x∈arr,fN x:=by
  refine zk (λs=>∀arr,s.2.2.2.2.2.2.2.1=some arr→∀x∈arr,fN x) ?_ _ _ _ ?_ ha
  ·intro f b s hb hf;simp only[zaz]at hf;obtain⟨j,hj,hf⟩:=hf;have fin:∀arr,(if b.2.1+j.size>Made.mostCells then none else b.2.2.2.2.2.2.2.1.bind λy=>j.zero.bind λz=>some (y++z.cells))=some arr→∀x∈arr,fN x:=by
    intro arr pR x hx;split at pR
    ·cases pR
    ·simp only[zaz]at pR;obtain⟨y,hy,z,hz,e⟩:=pR;cases e;rcases Array.mem_append.1 hx with h1|h1
     ·exact hb y hy x h1
     ·exact wC (hi _ _ _ hj hz) x h1
   by_cases c1:j.str.isEmpty=true
   ·rw[if_pos c1]at hf;cases hf
   rw[if_neg c1]at hf;by_cases c2:f.embedded=true
   ·rw[if_pos c2]at hf;cases hf
   rw[if_neg c2]at hf;by_cases c3:f.tag.isEmpty=true
   ·rw[if_pos c3]at hf;by_cases c4:j.bytes=0
    ·simp only[zbv,if_pos c4]at hf;cases hf;exact fin
    ·simp only[zbv,if_neg c4]at hf;cases hf;exact fin
   ·rw[if_neg c3]at hf;rw[zaz]at hf;obtain⟨tag,_,hf⟩:=hf;by_cases c4:j.bytes=0
    ·rw[if_pos c4]at hf;cases hf;exact fin
    ·rw[if_neg c4]at hf;cases hf;exact fin
  ·intro arr pR x hx;simp only[zam]at pR;subst pR;simp at hx
 split at h
 all_goals
  cases h;simp only[zai]at hz;obtain⟨arr,pR,rfl⟩:=hz;exact nN (key arr pR)
theorem Cw {info:TypeId→Option TypeInfo}(hi:∀t i v,info t=some i→i.zero=some v→fN v){d:TypeDesc}{i:TypeInfo}(h:Made.reckon info d=some i){v:Value}(hz:i.zero=some v):fN v:=by
 have w0:∀(d:TypeDesc) (s:String) (z:Value) (c:Bool) (n:Nat),fN z→some (Made.word d s z c n)=some i→fN v:=by
  intro d s z c n hb e;cases e;simp only[Made.word]at hz;cases hz;exact hb
 unfold Made.reckon at h;split at h
 ·simp only[bind,zaz,pure]at h;obtain⟨j,_,h⟩:=h;split at h
  ·cases h
  ·split at h
   ·cases h
   ·simp only[zaz]at h;obtain⟨s,_,h⟩:=h;exact w0 _ _ _ _ _ (λρ=>by simp[rv]) h
  ·simp only[zaz]at h;obtain⟨s,_,h⟩:=h;exact w0 _ _ _ _ _ (λρ=>by simp[rv]) h
 ·simp only[bind,zaz,pure]at h;obtain⟨j,_,s,_,h⟩:=h;exact w0 _ _ _ _ _ (λρ=>by simp[rv]) h
 ·simp only[bind,zaz,pure]at h;obtain⟨_,_,_,_,_,_,_,_,h⟩:=h;exact w0 _ _ _ _ _ (λρ=>by simp[rv]) h
 ·simp only[bind,zaz,pure]at h;obtain⟨_,_,_,_,h⟩:=h;exact w0 _ _ _ _ _ (λρ=>by simp[rv]) h
 ·simp only[bind,zaz,pure]at h;obtain⟨_,_,h⟩:=h;exact w0 _ _ _ _ _ (λρ=>by simp[rv]) h
 ·simp only[bind,zaz,pure]at h;obtain⟨j,hj,s,_,h⟩:=h;cases h;simp only at hz;split at hz
  ·cases hz
  ·split at hz
   ·cases hz;exact nN λx hx=>by simp at hx
   ·simp only[zai]at hz;obtain⟨zz,hzz,rfl⟩:=hz;refine nN λx hx=>?_;rw[Array.mem_flatten]at hx;obtain⟨ys,h1,h2⟩:=hx;rw[Array.mem_replicate]at h1;obtain⟨_,rfl⟩:=h1;exact wC (hi _ _ _ hj hzz) x h2
 ·exact qX hi h hz
 ·cases h
theorem ua {T:Tables}(hT:∀(t:TypeId) (i:TypeInfo) (v:Value),T.types[t]?=some i→i.zero=some v→fN v):∀(n:Nat) (t:TypeId) (i:TypeInfo) (v:Value),Made.infoAt T n t=some i→i.zero=some v→fN v
 |0,t,i,v,h,_=>by simp[Made.infoAt]at h
 |n+1,t,i,v,h,hz=>by
  unfold Made.infoAt at h;split at h
  ·exact hT t i v h hz
  ·simp only[zaz]at h;obtain⟨d,_,h⟩:=h;exact Cw (ua hT n) h hz
def H9:Value→Bool
 |.agg cs=>cs.toList.all gZ
 |v=>gZ v
def Na:Value→Bool
 |.tuple cs=>cs.toList.all H9
 |v=>H9 v
def tyB (i:TypeInfo):Bool:=match i.zero with|some v=>Na v|none=>true
theorem wD {v:Value}(h:H9 v=true):fN v:=by
 unfold H9 at h;split at h
 ·rename_i cs;rw[zav]at h;exact nN λx hx=>gK (h x (Array.mem_toList_iff.2 hx))
 ·exact gK h
theorem FD {v:Value}(h:Na v=true):fN v:=by
 unfold Na at h;split at h
 ·rename_i cs;rw[zav]at h;intro ρ;rw[rv];have h':∀x∈cs,rv ρ x=id x:=λx hx=>wD (h x (Array.mem_toList_iff.2 hx)) ρ;rw[dF h',Array.map_id]
 ·exact wD h
theorem Ia {P:Program}(h:P.types.toList.all tyB=true):∀(t:TypeId) (i:TypeInfo) (v:Value),P.info? t=some i→i.zero=some v→∀ρ:Rn,rv ρ v=v:=by
 have hT:∀(t:TypeId) (i:TypeInfo) (v:Value),P.types[t]?=some i→i.zero=some v→fN v:=by
  intro t i v hi hz;rw[zav]at h;have:=h i (Array.mem_toList_iff.2 (zaX hi));unfold tyB at this;rw[hz]at this;exact FD this
 intro t i v hi hz;unfold Tables.info? at hi;split at hi
 ·exact hT t i v hi hz
 ·exact ua hT _ t i v hi hz
end Go.Ren
namespace Go.Ren
open Go.Proofs.Tryz
open Go Go.Proofs
theorem Nb:prog.globals.size=4:=by kernel_rfl
def Lc:List Nat:=[44,63,73,74,75,76,120,121,127,128,147,148,149,150,151,152,168,169,170,171,172,174,186,187,188,189,191,197,198,199,200,201,202,214,215,223,224,225,226,227,243,247,248,249,250,251]
def Fc:FuncId→Bool:=λf=>Lc.any (·==f)
def Sc:Sd:=⟨λf=>f==149||f==187||f==186,4,4⟩
def Lz:List Nat:=[17,19,21,22,24,26,27,28,29,30,38,39,40,41,42,44,45,46,47,48,60,61,62,63,64,65,66,67,73,74,75,76,77,78,79,80,81,82,83,95,96,97,98,99,100,101,102,103,104,105,106,127,128,129,130,147,148,149,150,151,152,153,154,155,156,157,158,159,160,161,162,163,174,175,176,177,178,179,180,186,187,188,189,190,191,192,193,194,195,196,202,203,204,205,214,215,216,217,218,219,220,221,222,228,229,230,231,232,238,239,240,241,242,244,245,246]
def Fz:FuncId→Bool:=λf=>Lz.any (·==f)
def Sz:Sd:=⟨λf=>f==149||f==187||f==186,0,4⟩
instance afX:Shut prog Sc:=⟨Nb.symm,by rw[Nb];exact zaa _⟩
theorem QW:Two prog Sz Sc:=⟨Nb.symm,by rw[Nb];decide,λ_ h=>h⟩
def Qz (F:FuncId→Bool)(S:Sd)(f:FuncId):Prop:=Hc prog S f∧∀fn c,prog.funcs[f]?=some fn→fn.body=some c→aG prog F S c=true
def qB (P:Program)(F:FuncId→Bool)(S:Sd):Option Func→Bool
 |some g=>!(g.name== "runtime.NumGoroutine")&&(match g.body with|some c=>aG P F S c|none=>false)
 |none=>false
theorem S2 {F:FuncId→Bool}{S:Sd}{f:FuncId}(h:qB prog F S prog.funcs[f]?=true):Qz F S f:=by
 cases hg:prog.funcs[f]? with
 |none=>rw[hg]at h;cases h
 |some g=>
  rw[hg]at h;simp only[qB,zae,Bool.not_eq_true']at h;obtain⟨hn,hc⟩:=h;cases hb:g.body with
  |none=>rw[hb]at hc;cases hc
  |some c0=>
   rw[hb]at hc;refine⟨⟨g,hg,hn,.inl (by rw[hb];rfl)⟩,λfn c h1 h2=>?_⟩;rw[hg]at h1;cases h1;rw[hb]at h2;cases h2;exact hc
theorem wE {F:FuncId→Bool}{S:Sd}{f:FuncId}{g:Func}{e:Array Value→Sem Value}(h:prog.funcs[f]?=some g)(hn:(g.name== "runtime.NumGoroutine")=false)(hb:g.body.isNone=true)(hx:Extern.findNext g=none)(hf:Extern.find g=some e)(he:∀(ρ:Rn) (args:Array Value),qE S ρ→ae prog ρ (VV ρ) (e args) (e (args.map (rv ρ)))):Qz F S f:=by
 refine⟨⟨g,h,hn,.inr ⟨hb,hx,e,hf,λρ args _ S3=>he ρ args S3⟩⟩,λfn c h1 h2=>?_⟩;rw[h]at h1;cases h1;rw[h2]at hb;cases hb
theorem Yv:Qz Fc Sc 202:=wE (g:=f202) (e:=Extern.BytealgIndexByte.indexByte) (by kernel_rfl) (by kernel_rfl) (by kernel_rfl) (by kernel_rfl) (by kernel_rfl) λ_ args hx=>tZ args
theorem Yw:Qz Fc Sc 215:=wE (g:=f215) (e:=Extern.AbiNoEscape.same) (by kernel_rfl) (by kernel_rfl) (by kernel_rfl) (by kernel_rfl) (by kernel_rfl) λ_ args hx=>M7 args
theorem Yx:Qz Fc Sc 248:=wE (g:=f248) (e:=Extern.BytealgIndex.index) (by kernel_rfl) (by kernel_rfl) (by kernel_rfl) (by kernel_rfl) (by kernel_rfl) λ_ args hx=>M9 (λg hg=>hx.l g (by rw[Nb]at hg;exact hg)) args
theorem Yy:Qz Fz Sz 202:=wE (g:=f202) (e:=Extern.BytealgIndexByte.indexByte) (by kernel_rfl) (by kernel_rfl) (by kernel_rfl) (by kernel_rfl) (by kernel_rfl) λ_ args hx=>tZ args
theorem Yz:Qz Fz Sz 215:=wE (g:=f215) (e:=Extern.AbiNoEscape.same) (by kernel_rfl) (by kernel_rfl) (by kernel_rfl) (by kernel_rfl) (by kernel_rfl) λ_ args hx=>M7 args
theorem S4:prog.types.toList.all tyB=true:=by kernel_rfl
theorem acE:(Lc.all λf=>f==202||f==215||f==248||qB prog Fc Sc prog.funcs[f]?)=true:=by kernel_rfl
theorem S5 (f:Nat)(hf:f∈Lc):Qz Fc Sc f:=by
 have h:=zav.1 acE f hf;by_cases Nc:f=202
 ·subst Nc;exact Yv
 by_cases Nf:f=215
 ·subst Nf;exact Yw
 by_cases YA:f=248
 ·subst YA;exact Yx
 simp only[beq_eq_false_iff_ne.2 Nc,beq_eq_false_iff_ne.2 Nf,beq_eq_false_iff_ne.2 YA,Bool.false_or]at h;exact S2 h
theorem S6 {f:FuncId}(h:Fc f=true):f∈Lc:=by
 unfold Fc at h;rw[zbp]at h;obtain⟨x,hx,e⟩:=h;rw[←(beq_iff_eq.1 e)];exact hx
theorem lI:kO prog Fc Sc:=by
 refine⟨λg hg=>?_,λf hf=>(S5 f (S6 hf)).1,λf fn c hf h1 h2=>(S5 f (S6 hf)).2 fn c h1 h2,Ia S4⟩;have sj:(g==149||g==187||g==186)=true:=hg;simp only[Bool.or_eq_true,beq_iff_eq]at sj;rcases sj with(rfl|rfl)|rfl<;>rfl
theorem acF:(Lz.all λf=>f==202||f==215||qB prog Fz Sz prog.funcs[f]?)=true:=by kernel_rfl
theorem S7 (f:Nat)(hf:f∈Lz):Qz Fz Sz f:=by
 have h:=zav.1 acF f hf;by_cases Nc:f=202
 ·subst Nc;exact Yy
 by_cases Nf:f=215
 ·subst Nf;exact Yz
 simp only[beq_eq_false_iff_ne.2 Nc,beq_eq_false_iff_ne.2 Nf,Bool.false_or]at h;exact S2 h
theorem S8 {f:FuncId}(h:Fz f=true):f∈Lz:=by
 unfold Fz at h;rw[zbp]at h;obtain⟨x,hx,e⟩:=h;rw[←(beq_iff_eq.1 e)];exact hx
theorem bZ:kO prog Fz Sz:=by
 refine⟨λg hg=>?_,λf hf=>(S7 f (S8 hf)).1,λf fn c hf h1 h2=>(S7 f (S8 hf)).2 fn c h1 h2,Ia S4⟩;have sj:(g==149||g==187||g==186)=true:=hg;simp only[Bool.or_eq_true,beq_iff_eq]at sj;rcases sj with(rfl|rfl)|rfl<;>rfl
end Go.Ren
set_option linter.unusedSectionVars false
namespace Go.Ren
open Go.Proofs.Tryz
open Go Go.Conc Go.ConcX Go.RowKit Go.Conc.Lib Go.ConcX.Gen Go.Proofs
theorem YB:prog.funcs[71]?=some f71:=by kernel_rfl
def Ng:Frame:=baseD 69
def qY (n:Nat):Frame:={ (default:Frame)with fn:=n,defers:=[],mode:= .panicking [goexitEntry] }
theorem FE (T:Array Value):QuitsD prog 2 0 (G { Ng.at ⟨T,[]⟩ []with mode:= .returning } [(qY prog.funcs.size)]):=by
 refine QuitsD.ctl (g':=G (qY prog.funcs.size) []) rfl (λw=>?_) ?_
 ·simp[G,stepG,unwind,doReturn,results,Frame.at,Ng,baseD,qY,f69,seen,GStep.after,goexitEntry]
 refine QuitsD.ctl (g':={ G (qY prog.funcs.size) []with status:= .finished }) rfl (λw=>?_) ⟨rfl,rfl⟩;simp[G,stepG,unwind,qY,goexitEntry,Frame.catches];rfl
def wF (f:Func):Array Oper:=match f.body with|some (.seq _ (.region _ ops _))=>ops|_=>#[]
theorem Cx [Payload] {Wg C Low:Nat} [Shy Wg C] {vals:List Value}(hW:Wg<Low)(hC:C<Low)(hCW:C≠Wg)(T T':Array Value)(todo:List Item)(w:World)(hF:KCa cg.tWg Wg w∧Full C vals w):Goes prog false (RCa cg.tWg Wg Low) (DCs j8 Wg C) (AtR0 prog cg.tWg Wg C Low vals) (4+23)
  (G { (base 71).at ⟨T',[]⟩ todo with mode:= .returning } [Ng.at ⟨T,[dcall 70 #[.pointer (some ⟨Wg,0,none⟩)]]⟩ [.inRegion (wF f69) [2]],(qY prog.funcs.size)]) w:=by
 u_leave0 YB (ka_rely hC hCW) hF
 u_c stepG_region_end (ka_rely hC hCW) hF
 u_c stepG_end (ka_rely hC hCW) hF
 u_in (ka_rely hC hCW) hF
 rw[stepG_unwind_enter rfl HY (nm_done cg) rfl];simp only[goes_go];refine⟨by u_nil,?_⟩;have hA:=@doneD _ cg prog wgz j8 Wg C Low _ vals hW hC hCW;exact hA rfl (FE _) _ hF
theorem Nh:(prog.funcs[71]?).any (·.norace)=false:=by kernel_rfl
theorem yl {Wg Low ch:Nat}{x y:sX Wg Low}{own:Nat→Prop}(QX:x.C≠ch)(JG:y.C≠ch)(T T':Array Value)(todo:List Item)(ty rt:TypeId)(bs:Array Bool)(w:World)
 (hx:w.heap[x.C]?=some (.cells x.vals.toArray x.pl.ety))(hy:w.heap[y.C]?=some (.cells y.vals.toArray y.pl.ety)):
 wk prog ch (JE prog cg.tWg x y) own (G { (base 71).at ⟨T',[fx (.chan (some ch)) ty rt bs]⟩ todo with mode:= .returning } [Ng.at ⟨T,[dcall 70 #[.pointer (some ⟨Wg,0,none⟩)]]⟩ [.inRegion (wF f69) [2]],(qY prog.funcs.size)]) w:=by
 refine⟨rfl,rfl,G { (base 71).at ⟨T',[]⟩ todo with mode:= .returning } [Ng.at ⟨T,[dcall 70 #[.pointer (some ⟨Wg,0,none⟩)]]⟩ [.inRegion (wF f69) [2]],(qY prog.funcs.size)],rfl,λs r tm hc=>⟨pT rfl hc Nh,λFi=>⟨?_,?_⟩⟩⟩
 ·exact⟨_,@Cx x.pl Wg x.C Low (lH Wg x.C Low mY x.hW x.hC) x.vals x.hW x.hC x.hCW T T' todo _ ⟨.inl Fi,λ_=>(j0 QX).trans hx⟩⟩
 ·exact⟨_,@Cx y.pl Wg y.C Low (lH Wg y.C Low mY y.hW y.hC) y.vals y.hW y.hC y.hCW T T' todo _ ⟨.inl Fi,λ_=>(j0 JG).trans hy⟩⟩
theorem Ni {Wg Low ch:Nat}{x y:sX Wg Low}{ro own:Nat→Prop}(QX:x.C≠ch)(JG:y.C≠ch)(ym:ro x.C)(Cy:ro y.C)(T T':Array Value)(k:List Item)(ty rt:TypeId)(bs:Array Bool)(w:World)
 (hx:w.heap[x.C]?=some (.cells x.vals.toArray x.pl.ety))(hy:w.heap[y.C]?=some (.cells y.vals.toArray y.pl.ety)):
 jw prog ro ch (JE prog cg.tWg x y) [] own (G ((base 71).at ⟨T',[fx (.chan (some ch)) ty rt bs]⟩ (.code .ret::k)) [Ng.at ⟨T,[dcall 70 #[.pointer (some ⟨Wg,0,none⟩)]]⟩ [.inRegion (wF f69) [2]],(qY prog.funcs.size)]) w:=
 ai.silent rfl (λ_=>stepG_ret') (.stop λw₁ hr=>yl QX JG T T' _ ty rt bs w₁ ((hr.block _ (.inr ym)).trans hx) ((hr.block _ (.inr Cy)).trans hy))
end Go.Ren
namespace Go.Loop
def dO (c:Int):Bool:=decide (48≤c∧c≤57)
def k9 (c:Int):Bool:=decide ((97≤c∧c≤122)∨(65≤c∧c≤90))
def S9 (c:Int):Bool:=decide (c=43∨c=45∨c=42∨c=47∨c=60∨c=62∨c=61∨c=63∨c=33∨c=46∨c=95)
def cq (c:Int):Bool:=k9 c||dO c||S9 c
def Ta (c:UInt8):Bool:=cq (c.toNat:Int)
def bI (p:Int→Bool):List UInt8→Nat
 |[]=>0
 |c::r=>if p (c.toNat:Int)then bI p r+1 else 0
def cT:List UInt8→Bool
 |[]=>false
 |c::r=>if c.toNat=43∨c.toNat=45 then(match r with|[]=>false|d::_=>dO (d.toNat:Int))else dO (c.toNat:Int)
def qZ (l:List UInt8):Bool:=!l.isEmpty&&!(l==[46])&&!cT l&&l.all Ta
def AK (n d:Int):Bool:=decide (1≤d∧d≤1000000∧-1000000≤n∧n≤1000000∧Int.gcd n d=1)
theorem Cz (n d:Int)(hd:1≤d):(d/((Int.gcd n d:Nat):Int)==d)=decide (Int.gcd n d=1):=by
 have hp:0<Int.gcd n d:=zbw _ (by omega);rw[zar,beq_iff_eq,decide_eq_true_iff];constructor
 ·intro h;by_cases h1:Int.gcd n d=1
  ·exact h1
  ·exfalso;have h2:(2:Int)≤((Int.gcd n d:Nat):Int):=by omega
   have:d/((Int.gcd n d:Nat):Int)<d:=Int.ediv_lt_self_of_pos_of_ne_one (by omega) (by omega);omega
 ·intro h;rw[h];simp
theorem yn (c:UInt8)(r:List UInt8)(h1:¬(c.toNat:Int)=43)(h2:¬(c.toNat:Int)=45):cT (c::r)=dO (c.toNat:Int):=by
 simp only[cT];rw[if_neg (by omega)]
theorem pB (c:UInt8)(h:(c.toNat:Int)=43∨(c.toNat:Int)=45):cT [c]=false:=by
 simp only[cT];rw[if_pos (by omega)]
theorem pC (c d:UInt8)(r:List UInt8)(h:(c.toNat:Int)=43∨(c.toNat:Int)=45):cT (c::d::r)=dO (d.toNat:Int):=by
 simp only[cT];rw[if_pos (by omega)]
theorem CB (p:Int→Bool)(l:List UInt8):decide (bI p l=l.length)=l.all (λc=>p (c.toNat:Int)):=by
 induction l with
 |nil=>rfl
 |cons c r ih=>
  simp only[bI,zax,zat];by_cases h:p (c.toNat:Int)=true
  ·simp only[h,if_true,zbo,←ih];rw[zar];simp
  ·simp[h]
def nameOf (n:Int):List UInt8:=
 if n=32 then[115,112,97,99,101]else if n=10 then[110,101,119,108,105,110,101]else if n=9 then[116,97,98]
 else if n=0 then[110,117,108]else if n=127 then[100,101,108,101,116,101]else if n=27 then[101,115,99,97,112,101]else[]
def hasName (n:Int):Bool:=decide (n=32∨n=10∨n=9∨n=0∨n=127∨n=27)
def rb (n:Int):Bool:=hasName n||decide (33≤n∧n≤126)
def jx (l:List UInt8):Int:=
 if l=[115,112,97,99,101]then 32 else if l=[110,101,119,108,105,110,101]then 10 else if l=[116,97,98]then 9
 else if l=[110,117,108]then 0 else if l=[100,101,108,101,116,101]then 127 else if l=[101,115,99,97,112,101]then 27 else -1
structure Tok where
 kind:Nat
 from_:Nat
 cA:Nat
 text:List UInt8
 n:Int
 d:Int
 fault:Int
deriving DecidableEq
def aQ (k a e:Nat):Tok:=⟨k,a,e,[],0,0,0⟩
def bJ (a:Nat):Tok:=aQ 1 a a
def oY (s:List UInt8):Tok:=aQ 0 s.length s.length
def Tok.lastB (t:Tok):Bool:=decide (t.kind=0∨t.kind=1)
def nO (c:UInt8):Bool:=decide (c.toNat=32∨c.toNat=9∨c.toNat=10)
def fT:List UInt8→Nat
 |[]=>0
 |c::r=>if c=10 then 0 else fT r+1
def bQ:Nat→List UInt8→Nat×Bool
 |o,c::d::r=>
  if c=35∧d=124 then((bQ (o+1) r).1+2,(bQ (o+1) r).2)
  else if c=124∧d=35 then(if o≤1 then(2,true)else((bQ (o-1) r).1+2,(bQ (o-1) r).2))
  else((bQ o (d::r)).1+1,(bQ o (d::r)).2)
 |_,[_]=>(1,false)
 |_,[]=>(0,false)
def im:List UInt8→Bool
 |c::d::_=>decide (c=35∧d=124)
 |_=>false
def fZ:Nat→Bool→List UInt8→Nat×Bool
 |0,b,_=>(0,b)
 |_+1,b,[]=>(0,b)
 |n+1,b,c::r=>
  if nO c then((fZ n b r).1+1,(fZ n b r).2)
  else if c.toNat=59 then((fZ n b (r.drop (fT r))).1+(fT r+1),(fZ n b (r.drop (fT r))).2)
  else if im (c::r)then((fZ n (bQ 0 (c::r)).2 ((c::r).drop (bQ 0 (c::r)).1)).1+(bQ 0 (c::r)).1,(fZ n (bQ 0 (c::r)).2 ((c::r).drop (bQ 0 (c::r)).1)).2)
  else(0,b)
def pD (s:List UInt8)(a:Nat):Nat:=a+(fZ (s.drop a).length true (s.drop a)).1
def CC (c:UInt8):Option UInt8:=if c=92∨c=34 then some c else if c=110 then some 10 else if c=116 then some 9 else none
inductive Nj where
 |fin
 |bad
 |ok (e:Nat) (b:List UInt8)
def eM:Nat→List UInt8→List UInt8→Nj
 |_,_,[]=> .fin
 |i,acc,[c]=>if c=34 then .ok (i+1) acc else .fin
 |i,acc,c::e::r=>if c=34 then .ok (i+1) acc else if c=92 then(match CC e with|none=> .bad |some b=>eM (i+2) (acc++[b]) r)else eM (i+1) (acc++[c]) (e::r)
def mQ (s:List UInt8)(a:Nat):Tok:=
 match eM (a+1) [] (s.drop (a+1))with
 |.fin=>oY s
 |.bad=>bJ a
 |.ok e b=>{ aQ 8 a e with text:=b }
def rh (l:List UInt8):Option Int:=if 0≤jx l then some (jx l)else none
def gf (s:List UInt8)(a b:Nat):List UInt8:=(s.drop a).take (b-a)
def lJ (s:List UInt8)(a:Nat):Tok:=
 if 1<bI k9 (s.drop (a+2))then
  (match rh (gf s (a+2) (a+2+bI k9 (s.drop (a+2))))with
   |none=>bJ a
   |some k=>{ aQ 9 a (a+2+bI k9 (s.drop (a+2)))with n:=k })
 else match s.drop (a+2)with
  |[]=>bJ a
  |c::_=>if 33≤c.toNat∧c.toNat≤126 then { aQ 9 a (a+3)with n:=(c.toNat:Int) } else bJ a
def fI (n:Int)(l:List UInt8):Int:=l.foldl (λn c=>min (n*10+((c.toNat:Int)-48)) 1000001) n
def af (l:List UInt8):Int:=fI 0 l
def ey (s:List UInt8)(a:Nat):Option Tok:=
 let k:=bI dO (s.drop (a+1))
 if k=0∨3<k then none
 else match s.drop (a+1+k)with
  |[]=>none
  |c::_=>if c.toNat=61 then some { aQ 10 a (a+1+k+1)with n:=af (gf s (a+1) (a+1+k)) } else if c.toNat=35 then some { aQ 11 a (a+1+k+1)with n:=af (gf s (a+1) (a+1+k)) } else none
def ez (s:List UInt8)(a:Nat):Tok:=
 let e:=a+1+bI cq (s.drop (a+1));let w:=gf s (a+1) e
 if w=[116]∨w=[116,114,117,101]then { aQ 12 a e with n:=1 } else if w=[102]∨w=[102,97,108,115,101]then aQ 12 a e else bJ a
def iq (s:List UInt8)(a:Nat):Tok:=
 match s.drop (a+1)with
 |[]=>(ey s a).getD (ez s a)
 |c::_=>if c.toNat=40 then aQ 5 a (a+2)else if c.toNat=59 then aQ 6 a (a+2)else if c.toNat=92 then lJ s a else(ey s a).getD (ez s a)
def pU:List UInt8→Option (List UInt8×List UInt8)
 |[]=>none
 |c::r=>if c.toNat=47 then some ([],r)else(pU r).map λp=>(c::p.1,p.2)
def aO (l:List UInt8):Bool:=!l.isEmpty&&l.all λc=>dO (c.toNat:Int)
def numberOf (neg:Bool)(l:List UInt8):Option (Int×Int×Int):=
 let p:=(pU l).getD (l,[49])
 if aO p.1&&aO p.2 then
  (let n:=af p.1
   let d:=af p.2
   if 1000000<n∨1000000<d then some (0,0,7)
   else if d=0 then some (0,0,3)
   else let m:=if neg then -n else n
    some (m.tdiv (Int.gcd m d),d/(Int.gcd m d),0))
 else none
def gz:List UInt8→Option (Int×Int×Int)
 |[]=>none
 |c::r=>if c.toNat=45 then numberOf true r else if c.toNat=43 then numberOf false r else numberOf false (c::r)
def mR (s:List UInt8)(a:Nat):Tok:=
 let e:=a+bI cq (s.drop a);let w:=gf s a e
 if w=[46]then aQ 7 a e
 else if !cT w then { aQ 14 a e with text:=w }
 else match gz w with
  |none=>bJ a
  |some (n,d,f)=>{ aQ 13 a e with n:=n,d:=d,fault:=f }
def zl (s:List UInt8)(a:Nat):Tok:=
 match s.drop a with
 |[]=>oY s
 |c::_=>
  if c.toNat=40 then aQ 2 a (a+1)else if c.toNat=41 then aQ 3 a (a+1)else if c.toNat=39 then aQ 4 a (a+1)
  else if c.toNat=34 then mQ s a else if c.toNat=35 then iq s a else if cq (c.toNat:Int)then mR s a else bJ a
def aZ (s:List UInt8)(a:Nat):Tok:=zl s (pD s a)
def aU:Nat→List UInt8→Nat→List Tok
 |0,_,_=>[]
 |n+1,s,a=>if(aZ s a).lastB then[aZ s a]else aZ s a::aU n s (aZ s a).cA
theorem ri:∀l:List UInt8,fT l≤l.length
 |[]=>zaa _
 |c::r=>by
  have:=ri r;unfold fT;split<;>simp<;>omega
theorem CE (o:Nat)(l:List UInt8):(bQ o l).1≤l.length:=by
 fun_induction bQ o l<;>simp_all<;>omega
theorem JH (o:Nat)(l:List UInt8)(h:im l=true):2≤(bQ o l).1:=by
 match l,h with
 |c::d::r,h=>
  simp only[im,decide_eq_true_eq]at h;unfold bQ;simp[h]
theorem rj:∀(n:Nat) (b:Bool) (l:List UInt8),(fZ n b l).1≤l.length
 |0,b,l=>by simp[fZ]
 |n+1,b,[]=>by simp[fZ]
 |n+1,b,c::r=>by
  have h1:=rj n b r;have h2:=rj n b (r.drop (fT r));have h3:=rj n (bQ 0 (c::r)).2 ((c::r).drop (bQ 0 (c::r)).1);have h4:=ri r;have h5:=CE 0 (c::r);unfold fZ;split
  ·simp;omega
  ·split
   ·simp at h2 ⊢;omega
   ·split
    ·simp only[zaj]at h3 ⊢;omega
    ·simp
theorem CF {s:List UInt8}{a:Nat}(h:a≤s.length):a≤pD s a∧pD s a≤s.length:=by
 have:=rj (s.drop a).length true (s.drop a);unfold pD;simp only[zaj]at this ⊢;omega
theorem i7 (p:Int→Bool):∀l:List UInt8,bI p l≤l.length
 |[]=>zaa _
 |c::r=>by
  have:=i7 p r;unfold bI;split<;>simp<;>omega
theorem wH:∀(i:Nat) (acc l:List UInt8) (e:Nat) (b:List UInt8),eM i acc l=.ok e b→i<e∧e≤i+l.length
 |i,acc,[],e,b,h=>by simp[eM]at h
 |i,acc,[c],e,b,h=>by
  unfold eM at h;split at h
  ·simp only[Nj.ok.injEq]at h;obtain⟨rfl,_⟩:=h;simp
  ·simp at h
 |i,acc,c::x::r,e,b,h=>by
  unfold eM at h;split at h
  ·simp only[Nj.ok.injEq]at h;obtain⟨rfl,_⟩:=h;simp
  ·split at h
   ·split at h
    ·simp at h
    ·have:=wH _ _ _ _ _ h;simp at this ⊢;omega
   ·have:=wH _ _ _ _ _ h;simp at this ⊢;omega
def wI (s:List UInt8)(a:Nat)(t:Tok):Prop:=t.from_≤s.length∧t.cA≤s.length∧(t.lastB=false→a<t.cA∧a≤t.from_)
theorem gH {s:List UInt8}{a b:Nat}(h:b≤s.length):wI s a (bJ b):=⟨h,h,λe=>by simp[bJ,aQ,Tok.lastB]at e⟩
theorem CG {s:List UInt8}{a:Nat}:wI s a (oY s):=⟨zaa _,zaa _,λe=>by simp[oY,aQ,Tok.lastB]at e⟩
theorem eU {s:List UInt8}{a:Nat}{t:Tok}(h1:t.from_=a)(h2:a<t.cA)(h3:t.cA≤s.length):wI s a t:=⟨by omega,h3,λ_=>⟨h2,by omega⟩⟩
theorem FH {s:List UInt8}{a:Nat}(h:a<s.length):wI s a (ez s a):=by
 have:=i7 cq (s.drop (a+1));simp only[zaj]at this;unfold ez;simp only;split
 ·exact eU rfl (by simp[aQ];omega) (by simp[aQ];omega)
 ·split
  ·exact eU rfl (by simp[aQ];omega) (by simp[aQ];omega)
  ·exact gH (by omega)
theorem FI {s:List UInt8}{a:Nat}(h:a<s.length):wI s a ((ey s a).getD (ez s a)):=by
 have:=i7 dO (s.drop (a+1));simp only[zaj]at this;have ht:=FH h;unfold ey;simp only;split
 ·exact ht
 ·split
  ·exact ht
  ·rename_i hd;have hl:a+1+bI dO (s.drop (a+1))<s.length:=by
    have h2:=congrArg List.length hd;simp only[zaj,zat]at h2;omega
   split
   ·exact eU rfl (by simp[aQ];omega) (by simp[aQ];omega)
   ·split
    ·exact eU rfl (by simp[aQ];omega) (by simp[aQ];omega)
    ·exact ht
theorem JI {s:List UInt8}{a:Nat}(h:a+1<s.length):wI s a (lJ s a):=by
 have:=i7 k9 (s.drop (a+2));simp only[zaj]at this;unfold lJ;split
 ·split
  ·exact gH (by omega)
  ·exact eU rfl (by simp[aQ];omega) (by simp[aQ];omega)
 ·split
  ·exact gH (by omega)
  ·rename_i hd;have h2:=congrArg List.length hd;simp only[zaj,zat]at h2;split
   ·exact eU rfl (by simp[aQ]) (by simp[aQ];omega)
   ·exact gH (by omega)
theorem JJ {s:List UInt8}{a:Nat}(h:a<s.length):wI s a (iq s a):=by
 have hl:=FI h;unfold iq;split
 ·exact hl
 ·rename_i hd;have h2:=congrArg List.length hd;simp only[zaj,zat]at h2;split
  ·exact eU rfl (by simp[aQ]) (by simp[aQ];omega)
  ·split
   ·exact eU rfl (by simp[aQ]) (by simp[aQ];omega)
   ·split
    ·exact JI (by omega)
    ·exact hl
theorem JK {s:List UInt8}{a:Nat}(h:a<s.length):wI s a (mQ s a):=by
 unfold mQ;split
 ·exact CG
 ·exact gH (by omega)
 ·rename_i e b he;have:=wH _ _ _ _ _ he;simp only[zaj]at this;exact eU rfl (by simp[aQ];omega) (by simp[aQ];omega)
theorem JL {s:List UInt8}{a:Nat}(h:a<s.length)(hp:0<bI cq (s.drop a)):wI s a (mR s a):=by
 have:=i7 cq (s.drop a);simp only[zaj]at this;unfold mR;simp only;split
 ·exact eU rfl (by simp[aQ];omega) (by simp[aQ];omega)
 ·split
  ·exact eU rfl (by simp[aQ];omega) (by simp[aQ];omega)
  ·split
   ·exact gH (by omega)
   ·exact eU rfl (by simp[aQ];omega) (by simp[aQ];omega)
theorem QY {s:List UInt8}{a:Nat}:wI s a (zl s a):=by
 unfold zl;split
 ·exact CG
 ·rename_i c r hd;have h2:=congrArg List.length hd;simp only[zaj,zat]at h2;have hlt:a<s.length:=by omega
  split
  ·exact eU rfl (by simp[aQ]) (by simp[aQ];omega)
  ·split
   ·exact eU rfl (by simp[aQ]) (by simp[aQ];omega)
   ·split
    ·exact eU rfl (by simp[aQ]) (by simp[aQ];omega)
    ·split
     ·exact JK hlt
     ·split
      ·exact JJ hlt
      ·split
       ·rename_i hw;exact JL hlt (by rw[hd];simp[bI,hw])
       ·exact gH (by omega)
theorem zm {s:List UInt8}{a:Nat}(h:a≤s.length):wI s a (aZ s a):=by
 have h1:=CF h;obtain⟨f1,f2,f3⟩:=QY (s:=s) (a:=pD s a);exact⟨f1,f2,λe=>by have:=f3 e;unfold aZ at *;omega⟩
end Go.Loop
set_option linter.unusedSectionVars false
namespace Go.Ren
open Go.Proofs.Tryz
open Go Go.Conc Go.ConcX Go.RowKit Go.Conc.Lib Go.ConcX.Gen Go.Proofs Go.Loop
def dQ (t:Tok):Array Value:=#[.int .i64 t.kind,.int .i64 t.from_,.int .i64 t.cA,.string ⟨⟨t.text⟩⟩,.int .i64 t.n,.int .i64 t.d,.int .i64 t.fault]
def bK (t:Tok):Value:= .agg (dQ t)
theorem eA (t:Tok):fN (bK t):=nN λx hx=>by
 simp only[dQ,zbf,zao,zbg,or_false]at hx;rcases hx with rfl|rfl|rfl|rfl|rfl|rfl|rfl<;>intro ρ<;>simp[rv]
theorem Nk (s:ByteArray):fN (.string s):=λρ=>by simp[rv]
theorem CH (k:IntKind)(n:Int):fN (.int k n):=λρ=>by simp[rv]
theorem JM (t:Bool):fN (.bool t):=λρ=>by simp[rv]
theorem pV:(prog.info? 131).map (λi=>(i.size,i.zero))=some (7,some (bK ⟨0,0,0,[],0,0,0⟩)):=by kernel_rfl
theorem wJ (t:Tok):(prog.info? 131).map (·.size)=some (dQ t).size:=by
 obtain⟨i,hi,he⟩:=zai.1 pV;simp only[zab]at he;rw[hi];simp[he.1,dQ]
theorem Nl (t:Tok):(dQ t).all (·.oneCell')=true:=by simp[dQ,Value.oneCell']
theorem QZ (w:World)(r:Nat):(Instr.fieldAt 131 (.pointer (some ⟨r,0,none⟩)) 2).run prog w=.ok (.pointer (some ⟨r,2,none⟩)) w:=by
 simp[go_sem,Instr.fieldAt,Instr.sureAddr,fieldPlace,Addr.add]
theorem YC (w:World)(a:Addr){v:Value}(h:w.cell? a=some v):(Instr.loadAt 3 (.pointer (some a))).run prog w=.ok v w:=by
 simp[go_sem,Instr.loadAt,Instr.sureAddr,loadVar,isAgg,h]
theorem acG:Fc 120=true:=by kernel_rfl
theorem acH:Fc 121=true:=by kernel_rfl
def aL:Code→Code|.seq _ c=>c|_=> .skip
def aC:Code→Code|.seq c _=>c|_=> .skip
def Q0:Code→Code|.block _ c=>c|_=> .skip
def YD:Code→Code|.loop c=>c|_=> .skip
def cC:Code→Array Oper|.region _ o _=>o|_=>#[]
def CI (f:Func):Code:=YD (Q0 (aL (aL (f.body.getD .skip))))
def inS (f:Func):Code:=Q0 (CI f)
def r2 (f:Func):Array Oper:=cC (aC (inS f))
def in3 (f:Func):Code:=aL (inS f)
def r3 (f:Func):Array Oper:=cC (aC (in3 f))
def UA (f:Func):Code:=aL (in3 f)
def r4 (f:Func):Array Oper:=cC (aC (aC (UA f)))
def c4 (f:Func):Code:=aL (aC (UA f))
def r5 (f:Func):Array Oper:=cC (aL (UA f))
def kS (f:Func):List Item:=[.inBlock 1,.inLoop (CI f),.inBlock 0]
variable {Wg Low ch:Nat}{x y:sX Wg Low}{ro own:Nat→Prop}
def WL (n:Nat)(f:Func)(Wg:Nat)(T:Array Value):List Frame:=[Ng.at ⟨T,[dcall 70 #[.pointer (some ⟨Wg,0,none⟩)]]⟩ [.inRegion (wF f) [2]],qY n]
structure SA (a:Act) (ch:Nat) (s:List UInt8) (n:Nat) (ty rt:TypeId) (bs:Array Bool):Prop where
 size:a.tmps.size=16
 txt:a.eval (.tmp 0)=.string ⟨⟨s⟩⟩
 chan:a.eval (.tmp 1)=.chan (some ch)
 here:a.eval (.tmp 4)=.int .i64 n
 defers:a.defers=[fx (.chan (some ch)) ty rt bs]
theorem SA.put {a:Act}{s:List UInt8}{n:Nat}{ty rt:TypeId}{bs:Array Bool}(h:SA a ch s n ty rt bs){t:Tmp}{v:Value}(h0:t≠0)(h1:t≠1)(h4:t≠4):SA (a.put (some t) v) ch s n ty rt bs:=
 ⟨by rw[size_put];exact h.size,by rw[aD h0];exact h.txt,by rw[aD h1];exact h.chan,by rw[aD h4];exact h.here,by rw[ct];exact h.defers⟩
def Hx (x y:sX Wg Low)(W:World):Prop:=W.heap[x.C]?=some (.cells x.vals.toArray x.pl.ety)∧W.heap[y.C]?=some (.cells y.vals.toArray y.pl.ety)
theorem Hx.on {W W':World}(h:Hx x y W)(hx:ro x.C)(hy:ro y.C)(h':∀b,ro b→W'.heap[b]?=W.heap[b]?):Hx x y W':=⟨(h' _ hx).trans h.1,(h' _ hy).trans h.2⟩
section
variable (QX:x.C≠ch)(JG:y.C≠ch)(ym:ro x.C)(Cy:ro y.C){s:List UInt8}{T:Array Value}{ty rt:TypeId}{bs:Array Bool}
 (hN:∀(n:Nat) (w:World),n≤s.length→Calls prog 120 #[.string ⟨⟨s⟩⟩,.int .i64 n] w λe _=>∃v,e=.returned v∧v=bK (aZ s n))
 (hL:∀(t:Tok) (w:World),Calls prog 121 #[bK t] w λe _=>∃v,e=.returned v∧v=.bool t.lastB)
theorem jd {main:Bool}{b:Frame}{a:Act}{ops:Array Oper}{i:Nat}{rest:List Nat}{o:Oper}{kk:List Item}{cs:List Frame}{w:World}(ho:ops[i]?=some o)(hw:Region.wanted o (yielded ops a.tmps)=true)(hk:b.kind≠.early){f:FuncId}{xs:Array Operand}{ats:Array TypeId}{args:Array Value}(hop:o.op=.call { callee:= .value (.func f),args:=xs,argTypes:=ats })(ha:xs.map a.eval=args)(qQ:((prog.funcs[f]?).any λfn=>fn.body.isSome)=true:=by kernel_rfl)(MH:((prog.funcs[f]?).any λfn=>fn.name== "runtime.NumGoroutine")=false:=by kernel_rfl):stepG prog main (G (b.at a (.inRegion ops (i::rest)::kk)) cs) w=.go (G (Frame.enter prog f args .normal) (b.at a (.inRegion ops (i::rest)::kk)::cs)) w #[]:=by
 subst ha;cases hf:prog.funcs[f]? with
 |none=>rw[hf]at qQ;simp at qQ
 |some fn=>
  rw[hf]at qQ MH;simp only[Option.any_some]at qQ MH;obtain⟨cc,hcc⟩:=zbB.1 qQ;have hne:¬fn.name= "runtime.NumGoroutine" :=by simpa using MH
  have hr:(execOp a.eval o).run prog w=.ok (.enter f (xs.map a.eval)) w:=by
   unfold execOp;simp[hop,resolve,invoke,callFunc,hf,hcc,hne,Act.eval,Deferred.ofValue,go_sem]
  have he:(execOp a.eval o).events prog w #[]=#[]:=by
   unfold execOp;simp[hop,resolve,invoke,callFunc,hf,hcc,hne,Act.eval,Deferred.ofValue,go_sem]
  rw[stepG_enter ho hw hk hr,listed_none he]
theorem acI (w:World):prog.globals.size≤(Fh prog w).heap.size:=by rw[nH];exact zaa _
include QX JG ym Cy hN hL in
theorem JN (m:Nat):∀(n:Nat) (a:Act) (W:World) (own:Nat→Prop),n≤s.length→s.length-n<m→SA a ch s n ty rt bs→pP ro own W→prog.globals.size≤W.heap.size→Hx x y W→jw prog ro ch (JE prog cg.tWg x y) ((aU m s n).map bK) own (G ((base 71).at a [.code (CI f71),.inLoop (CI f71),.inBlock 0]) (WL prog.funcs.size f69 Wg T)) W:=by
 induction m with
 |zero=>intro n a W own _ h;omega
 |succ m ih=>
  intro n a W own hn hm hS hH hb hP;obtain⟨rest,hgp,zn⟩:∃rest,(aU (m+1) s n).map bK=bK (aZ s n)::rest∧rest=if(aZ s n).lastB then[]else(aU m s (aZ s n).cA).map bK:=by
   refine⟨_,?_,rfl⟩;rw[aU];split<;>simp
  rw[hgp,cY];refine ai.silent rfl (λ_=>stepG_block (id:=1) (c:=inS f71)) ?_;refine ai.silent rfl (λ_=>stepG_seq (x:= .region 2 (r2 f71) false) (y:=in3 f71)) ?_;refine ai.silent rfl (λ_=>stepG_region) ?_;refine ai.mv (ops:=r2 f71) (i:=0) (rest:=[1,2,3,4]) rfl rfl (by decide) (dd:=some 7) rfl (.inl rfl) hS.txt ?_;have hS1:=hS.put (t:=7) (v:= .string ⟨⟨s⟩⟩) (by decide) (by decide) (by decide);have h7:(a.put (some 7) (.string ⟨⟨s⟩⟩)).eval (.tmp 7)=.string ⟨⟨s⟩⟩:=aW (by rw[hS.size];decide);generalize a.put (some 7) (.string ⟨⟨s⟩⟩)=a1 at *;refine ai.mv (ops:=r2 f71) (i:=1) (rest:=[2,3,4]) rfl rfl (by decide) (dd:=some 8) rfl (.inl rfl) hS1.here ?_;have Mr:=hS1.put (t:=8) (v:= .int .i64 n) (by decide) (by decide) (by decide);have h8:(a1.put (some 8) (.int .i64 n)).eval (.tmp 8)=.int .i64 n:=aW (by rw[hS1.size];decide);have h7':(a1.put (some 8) (.int .i64 n)).eval (.tmp 7)=.string ⟨⟨s⟩⟩:=(aD (by decide)).trans h7;generalize a1.put (some 8) (.int .i64 n)=a2 at *;refine ai.call' lI (cs:=WL prog.funcs.size f69 Wg T) (f:=120) (args:=#[.string ⟨⟨s⟩⟩,.int .i64 n]) acG (λv hv=>?_) (Qv:=λv=>v=bK (aZ s n)) (λv hv=>hv▸eA _) (c:=(base 71).at a2 (.inRegion (r2 f71) [2,3,4]::.code (in3 f71)::kS f71)) rfl (λw₁=>?_) hb hH (λw' _=>hN n w' hn) ?_
  ·simp only[zbf,zao,zbg,or_false]at hv;rcases hv with rfl|rfl
   ·exact Nk _
   ·exact CH _ _
  ·exact jd (ops:=r2 f71) (i:=2) rfl rfl (by decide) rfl (by simp[h7',h8])
  rintro _ W1 af6 rfl WM hH1 acJ UB;rw[Frame.finish_at];change ai _ _ _ _ _ (G ((base 71).at (a2.put (some 9) (bK (aZ s n))) _) _) _;have hS3:=Mr.put (t:=9) (v:=bK (aZ s n)) (by decide) (by decide) (by decide);have h9:(a2.put (some 9) (bK (aZ s n))).eval (.tmp 9)=bK (aZ s n):=aW (by rw[Mr.size];decide);generalize a2.put (some 9) (bK (aZ s n))=a3 at *;have hb1:prog.globals.size≤W1.heap.size:=zad hb UB;have hP1:Hx x y W1:=hP.on ym Cy λb hb=>acJ b (.inr hb);have WN:=At.empty (S:=Sc) hH1 hb1;obtain⟨i76,UC,Nn⟩:=zai.1 pV;simp only[zab]at Nn;have hg0:=acI W1;generalize dD jA prog.globals.size W1.heap.size=ρ0 at WN;generalize Fh prog W1=w0 at WN hg0;refine ai.Mw lI (ops:=r2 f71) (i:=3) (rest:=[4]) rfl rfl (by decide) (dd:=some 5) rfl rfl UC Nn.2 WN ?_;intro w1 AG W2 acK e1 Q1 FJ;have hs1:w1.heap.size=w0.heap.size:=by rw[e1]
  rw[←hs1];have hS4:=hS3.put (t:=5) (v:= .pointer (some ⟨AG w1.heap.size,0,none⟩)) (by decide) (by decide) (by decide);have h5:(a3.put (some 5) (.pointer (some ⟨AG w1.heap.size,0,none⟩))).eval (.tmp 5)=.pointer (some ⟨AG w1.heap.size,0,none⟩):=aW (by rw[hS3.size];decide);have h9':(a3.put (some 5) (.pointer (some ⟨AG w1.heap.size,0,none⟩))).eval (.tmp 9)=bK (aZ s n):=(aD (by decide)).trans h9;generalize a3.put (some 5) (.pointer (some ⟨AG w1.heap.size,0,none⟩))=a4 at *;have hg1:prog.globals.size≤w1.heap.size:=by omega
  refine ai.storeT lI (ops:=r2 f71) (i:=4) (rest:=[]) rfl rfl (by decide) (dd:=none) rfl (s:=5) (t:=9) (by decide) rfl (c:=dQ ⟨0,0,0,[],0,0,0⟩) (c':=dQ (aZ s n)) (wJ _) rfl (Nl _) Q1 h5 (by rw[h9'];exact(eA _ _).symm) (eA _ _) hg1 ?_;intro w2 Fp W3 acL e2 pW WO;rw[vZ];have hs2:w2.heap.size=w1.heap.size:=by rw[e2]
  have hr2:Fp w2.heap.size=AG w1.heap.size:=by rw[hs2];exact WO.agree _ (by rw[bD];omega)
  rw[←hr2]at h5;have hP3:Hx x y W3:=(hP1.on ym Cy FJ.ro).on ym Cy WO.ro;have hg2:prog.globals.size≤w2.heap.size:=by omega
  refine ai.silent rfl (λ_=>stepG_region_end) ?_;refine ai.silent rfl (λ_=>stepG_seq (x:= .region 3 (r3 f71) false) (y:=UA f71)) ?_;refine ai.silent rfl (λ_=>stepG_region) ?_;refine ai.mv (ops:=r3 f71) (i:=0) (rest:=[1,2]) rfl rfl (by decide) (dd:=some 10) rfl (.inl rfl) hS4.chan ?_;have hS5:=hS4.put (t:=10) (v:= .chan (some ch)) (by decide) (by decide) (by decide);have h10:(a4.put (some 10) (.chan (some ch))).eval (.tmp 10)=.chan (some ch):=aW (by rw[hS4.size];decide);have YE:(a4.put (some 10) (.chan (some ch))).eval (.tmp 5)=.pointer (some ⟨Fp w2.heap.size,0,none⟩):=(aD (by decide)).trans h5;generalize a4.put (some 10) (.chan (some ch))=a5 at *;refine ai.loadT lI (ops:=r3 f71) (i:=1) (rest:=[2]) rfl rfl (by decide) (dd:=some 11) rfl (s:=5) rfl underlying131 rfl (wJ _) pW YE hg2 ?_;intro w3 Np W4 acM e3 uZ YF;have hs3:w3.heap.size=w2.heap.size:=by rw[e3]
  have hr3:Np w3.heap.size=Fp w2.heap.size:=by rw[hs3];exact YF.agree _ (by rw[bD];omega)
  rw[←hr3]at YE;have Nq:Hx x y W4:=hP3.on ym Cy YF.ro;have hg3:prog.globals.size≤w3.heap.size:=by omega
  rw[show rv Np (.agg (dQ (aZ s n)))=bK (aZ s n) from eA _ _];have hS6:=hS5.put (t:=11) (v:=bK (aZ s n)) (by decide) (by decide) (by decide);have h11:(a5.put (some 11) (bK (aZ s n))).eval (.tmp 11)=bK (aZ s n):=aW (by rw[hS5.size];decide);have acN:(a5.put (some 11) (bK (aZ s n))).eval (.tmp 10)=.chan (some ch):=(aD (by decide)).trans h10;have Q2:(a5.put (some 11) (bK (aZ s n))).eval (.tmp 5)=.pointer (some ⟨Np w3.heap.size,0,none⟩):=(aD (by decide)).trans YE;generalize a5.put (some 11) (bK (aZ s n))=a6 at *;refine .stop λaH hr=>?_;refine⟨rfl,.tuple #[],?_,?_⟩
  ·have oZ:(execOp a6.eval (r3 f71)[2]).run prog aH=.ok (.comm #[scase ch (bK (aZ s n)) (.tuple #[])] true .send) aH:=by
    show(pure (.comm #[{ chan:=a6.eval (.tmp 10),send:=some (a6.eval (.tmp 11)),zero:= .tuple #[] }] true .send):Sem Next).run prog aH=_;rw[acN,h11];rfl
   rw[stepG_comm (ops:=r3 f71) (i:=2) rfl rfl (by decide) oZ,listed_none rfl];rfl
  show jw _ _ _ _ _ _ (G (((base 71).at a6 (.inRegion (r3 f71) [2]::.code (UA f71)::kS f71)).finish undef) (WL prog.funcs.size f69 Wg T)) aH;rw[Frame.finish_at];change jw _ _ _ _ _ _ (G ((base 71).at a6 (.inRegion (r3 f71) []::.code (UA f71)::kS f71)) (WL prog.funcs.size f69 Wg T)) aH;obtain⟨YG,hO4⟩:=uZ.rely hr;generalize dD Np (w3.alloc (Obj.cells (dQ (aZ s n)) 131)).heap.size aH.heap.size=ρ4 at YG hO4;have hr4:ρ4 w3.heap.size=Np w3.heap.size:=hO4.agree _ (by rw[bD];omega);rw[←hr4]at Q2;have WQ:Hx x y aH:=Nq.on ym Cy hO4.ro;have nP:prog.globals.size≤aH.heap.size:=YG.uy.oX;clear WN Q1 pW uZ FJ WO YF hO4 hP hP1 hP3 Nq;rw[cY];refine ai.silent rfl (λ_=>stepG_region_end) ?_;refine ai.silent rfl (λ_=>stepG_seq (x:=aC (UA f71)) (y:= .region 5 (r5 f71) false)) ?_;refine ai.silent rfl (λ_=>stepG_seq (x:= .region 4 (r4 f71) false) (y:=c4 f71)) ?_;refine ai.silent rfl (λ_=>stepG_region) ?_;refine ai.loadT lI (ops:=r4 f71) (i:=0) (rest:=[1]) rfl rfl (by decide) (dd:=some 12) rfl (s:=5) rfl underlying131 rfl (wJ _) YG Q2 hg3 ?_;intro w5 Ib W5 acO e5 Q3 hO5;have hs5:w5.heap.size=w3.heap.size:=by rw[e5]
  have PH:Ib w5.heap.size=ρ4 w3.heap.size:=by rw[hs5];exact hO5.agree _ (by rw[bD];omega)
  rw[←PH]at Q2;have YH:Hx x y W5:=WQ.on ym Cy hO5.ro;have WT:prog.globals.size≤w5.heap.size:=by omega
  rw[show rv Ib (.agg (dQ (aZ s n)))=bK (aZ s n) from eA _ _];have hS7:=hS6.put (t:=12) (v:=bK (aZ s n)) (by decide) (by decide) (by decide);have BK:(a6.put (some 12) (bK (aZ s n))).eval (.tmp 12)=bK (aZ s n):=aW (by rw[hS6.size];decide);have h5c:(a6.put (some 12) (bK (aZ s n))).eval (.tmp 5)=.pointer (some ⟨Ib w5.heap.size,0,none⟩):=(aD (by decide)).trans Q2;generalize a6.put (some 12) (bK (aZ s n))=a7 at *;refine ai.call' lI (cs:=WL prog.funcs.size f69 Wg T) (f:=121) (args:=#[bK (aZ s n)]) acH (λv hv=>?_) (Qv:=λv=>v=.bool (aZ s n).lastB) (λv hv=>hv▸JM _) (c:=(base 71).at a7 (.inRegion (r4 f71) [1]::.code (c4 f71)::.code (.region 5 (r5 f71) false)::kS f71)) rfl (λw₁=>?_) Q3.uy.oX Q3.hold (λw' _=>hL _ w') ?_
  ·simp only[zbf,zao,zbg,or_false]at hv;subst hv;exact eA _
  ·exact jd (ops:=r4 f71) (i:=1) rfl rfl (by decide) rfl (by simp[BK])
  rintro _ W6 af7 rfl ho6 hH6 acP YI;rw[Frame.finish_at];change ai _ _ _ _ _ (G ((base 71).at (a7.put (some 13) (.bool (aZ s n).lastB)) _) _) _;obtain⟨hA6,hO6⟩:=Q3.call acP YI ho6 hH6;generalize dD Ib (w5.alloc (Obj.cells (dQ (aZ s n)) 131)).heap.size W6.heap.size=ρ6 at hA6 hO6;have yq:ρ6 w5.heap.size=Ib w5.heap.size:=hO6.agree _ (by rw[bD];omega);rw[←yq]at h5c;have YJ:Hx x y W6:=YH.on ym Cy hO6.ro;have WU:=hS7.put (t:=13) (v:= .bool (aZ s n).lastB) (by decide) (by decide) (by decide);have h13:(a7.put (some 13) (.bool (aZ s n).lastB)).eval (.tmp 13)=.bool (aZ s n).lastB:=aW (by rw[hS7.size];decide);have h5d:(a7.put (some 13) (.bool (aZ s n).lastB)).eval (.tmp 5)=.pointer (some ⟨ρ6 w5.heap.size,0,none⟩):=(aD (by decide)).trans h5c;generalize a7.put (some 13) (.bool (aZ s n).lastB)=a8 at *;refine ai.silent rfl (λ_=>stepG_region_end) ?_;refine ai.silent rfl (λ_=>stepG_cond (c:= .tmp 13) (x:= .ret) (y:= .skip) h13) ?_;by_cases wK:(aZ s n).lastB=true
  ·rw[if_pos wK]at zn;rw[zn,wK,←cY];obtain⟨T8,D8⟩:=a8;have hD:D8=[fx (.chan (some ch)) ty rt bs]:=WU.defers;subst hD;exact Ni QX JG ym Cy T T8 _ ty rt bs W6 YJ.1 YJ.2
  have Nr:(aZ s n).lastB=false:=by simpa using wK
  rw[if_neg wK]at zn;rw[zn,Nr];refine ai.silent rfl (λ_=>stepG_skip) ?_;refine ai.silent rfl (λ_=>stepG_region) ?_;refine ai.Uk lI (ops:=r5 f71) (i:=0) (rest:=[1,2]) rfl rfl (by decide) (dd:=some 14) rfl (s:=5) (j:=2) (off:=2) rfl QZ hA6 h5d WT ?_;intro w7 ρ7 W7 af8 e7 hA7 hO7;have hs7:w7.heap.size=w5.heap.size:=by rw[e7]
  rw[←hs7];have hS9:=WU.put (t:=14) (v:= .pointer (some ⟨ρ7 w7.heap.size,2,none⟩)) (by decide) (by decide) (by decide);have EJ:(a8.put (some 14) (.pointer (some ⟨ρ7 w7.heap.size,2,none⟩))).eval (.tmp 14)=.pointer (some ⟨ρ7 w7.heap.size,2,none⟩):=aW (by rw[WU.size];decide);generalize a8.put (some 14) (.pointer (some ⟨ρ7 w7.heap.size,2,none⟩))=a9 at *;have hP8:Hx x y W7:=YJ.on ym Cy hO7.ro;refine ai.X6 lI (ops:=r5 f71) (i:=1) (rest:=[2]) rfl rfl (by decide) (dd:=some 15) rfl (s:=14) (off:=2) rfl (v:= .int .i64 (aZ s n).cA) (λw a h=>YC w a h) rfl hA7 EJ (by omega) ?_;intro w8 ρ8 W8 acQ e8 hA8 hO8;have hP9:Hx x y W8:=hP8.on ym Cy hO8.ro;rw[CH];have Ns:=hS9.put (t:=15) (v:= .int .i64 (aZ s n).cA) (by decide) (by decide) (by decide);have h15:(a9.put (some 15) (.int .i64 (aZ s n).cA)).eval (.tmp 15)=.int .i64 (aZ s n).cA:=aW (by rw[hS9.size];decide);generalize a9.put (some 15) (.int .i64 (aZ s n).cA)=a10 at *;refine ai.mv (ops:=r5 f71) (i:=2) (rest:=[]) rfl rfl (by decide) (dd:=some 4) rfl (.inr rfl) h15 ?_;have acR:SA (a10.put (some 4) (.int .i64 (aZ s n).cA)) ch s (aZ s n).cA ty rt bs:=⟨by rw[size_put];exact Ns.size,by rw[aD (by decide)];exact Ns.txt,by rw[aD (by decide)];exact Ns.chan,aW (by rw[Ns.size];decide),by rw[ct];exact Ns.defers⟩;generalize a10.put (some 4) (.int .i64 (aZ s n).cA)=a11 at *;refine ai.silent rfl (λ_=>stepG_region_end) ?_;refine ai.silent rfl (λ_=>stepG_inBlock) ?_;refine ai.silent rfl (λ_=>stepG_inLoop) ?_;obtain⟨f1,f2,f3⟩:=zm hn;have f4:=f3 Nr;have:=ih (aZ s n).cA a11 W8 acQ f2 (by omega) acR hA8.hold hA8.uy.oX hP9;rw[cY]at this;exact this
end
end Go.Ren
