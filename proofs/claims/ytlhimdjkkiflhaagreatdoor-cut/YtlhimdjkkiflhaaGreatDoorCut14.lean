import Derived.Deep.DeepAppendWide
import Derived.Test.YtlhimdjkkiflhaaGreatDoorCut13
set_option maxHeartbeats 8000000
set_option maxRecDepth 100000
set_option linter.unusedSectionVars false
namespace Go.Ren
open Go.Proofs.Tryz
open Go Go.Conc Go.ConcX Go.RowKit Go.Conc.Lib Go.ConcX.Gen Go.Proofs Go.Loop
def eH (t:Tok):Array Value:=#[.int .i64 t.kind,.int .i64 t.from_,.int .i64 t.dF,.string ⟨⟨t.text⟩⟩,.int .i64 t.n,.int .i64 t.d,.int .i64 t.fault]
def cn (t:Tok):Value:= .agg (eH t)
theorem fc (t:Tok):gH (cn t):=od λx hx=>by
 simp only[eH,zbb,zas,zbc,or_false]at hx;rcases hx with rfl|rfl|rfl|rfl|rfl|rfl|rfl<;>intro ρ<;>simp[rv]
theorem LQ (s:ByteArray):gH (.string s):=λρ=>by simp[rv]
theorem Co (k:IntKind)(n:Int):gH (.int k n):=λρ=>by simp[rv]
theorem IQ (t:Bool):gH (.bool t):=λρ=>by simp[rv]
theorem qb:(prog.info? 131).map (λi=>(i.size,i.zero))=some (7,some (cn ⟨0,0,0,[],0,0,0⟩)):=by kernel_rfl
theorem wO (t:Tok):(prog.info? 131).map (·.size)=some (eH t).size:=by
 obtain⟨i,hi,he⟩:=zam.1 qb;simp only[zab]at he;rw[hi];simp[he.1,eH]
theorem LR (t:Tok):(eH t).all (·.oneCell')=true:=by simp[eH,Value.oneCell']
theorem O2 (w:World)(r:Nat):(Instr.fieldAt 131 (.pointer (some ⟨r,0,none⟩)) 2).run prog w=.ok (.pointer (some ⟨r,2,none⟩)) w:=by
 simp[go_sem,Instr.fieldAt,Instr.sureAddr,fieldPlace,Addr.add]
theorem Yf (w:World)(a:Addr){v:Value}(h:w.cell? a=some v):(Instr.loadAt 3 (.pointer (some a))).run prog w=.ok v w:=by
 simp[go_sem,Instr.loadAt,Instr.sureAddr,loadVar,isAgg,h]
theorem aaL:Fc 120=true:=by kernel_rfl
theorem aaM:Fc 121=true:=by kernel_rfl
def cd:Code→Code|.seq _ c=>c|_=> .skip
def cJ:Code→Code|.seq c _=>c|_=> .skip
def O3:Code→Code|.block _ c=>c|_=> .skip
def Yg:Code→Code|.loop c=>c|_=> .skip
def gB:Code→Array Oper|.region _ o _=>o|_=>#[]
def Cp (f:Func):Code:=Yg (O3 (cd (cd (f.body.getD .skip))))
def inS (f:Func):Code:=O3 (Cp f)
def r2 (f:Func):Array Oper:=gB (cJ (inS f))
def in3 (f:Func):Code:=cd (inS f)
def r3 (f:Func):Array Oper:=gB (cJ (in3 f))
def TZ (f:Func):Code:=cd (in3 f)
def r4 (f:Func):Array Oper:=gB (cJ (cJ (TZ f)))
def c4 (f:Func):Code:=cd (cJ (TZ f))
def r5 (f:Func):Array Oper:=gB (cd (TZ f))
def kS (f:Func):List Item:=[.inBlock 1,.inLoop (Cp f),.inBlock 0]
variable {Wg Low ch:Nat}{x y:sP Wg Low}{ro own:Nat→Prop}
def WA (n:Nat)(f:Func)(Wg:Nat)(T:Array Value):List Frame:=[LL.at ⟨T,[dcall 70 #[.pointer (some ⟨Wg,0,none⟩)]]⟩ [.inRegion (wK f) [2]],rz n]
structure SA (a:Act) (ch:Nat) (s:List UInt8) (n:Nat) (ty rt:TypeId) (bs:Array Bool):Prop where
 size:a.tmps.size=16
 txt:a.eval (.tmp 0)=.string ⟨⟨s⟩⟩
 chan:a.eval (.tmp 1)=.chan (some ch)
 here:a.eval (.tmp 4)=.int .i64 n
 defers:a.defers=[fX (.chan (some ch)) ty rt bs]
theorem SA.put {a:Act}{s:List UInt8}{n:Nat}{ty rt:TypeId}{bs:Array Bool}(h:SA a ch s n ty rt bs){t:Tmp}{v:Value}(h0:t≠0)(h1:t≠1)(h4:t≠4):SA (a.put (some t) v) ch s n ty rt bs:=
 ⟨by rw[size_put];exact h.size,by rw[aO h0];exact h.txt,by rw[aO h1];exact h.chan,by rw[aO h4];exact h.here,by rw[cM];exact h.defers⟩
def Hx (x y:sP Wg Low)(W:World):Prop:=W.heap[x.C]?=some (.cells x.vals.toArray x.pl.ety)∧W.heap[y.C]?=some (.cells y.vals.toArray y.pl.ety)
theorem Hx.on {W W':World}(h:Hx x y W)(hx:ro x.C)(hy:ro y.C)(h':∀b,ro b→W'.heap[b]?=W.heap[b]?):Hx x y W':=⟨(h' _ hx).trans h.1,(h' _ hy).trans h.2⟩
section
variable (O0:x.C≠ch)(IJ:y.C≠ch)(yf:ro x.C)(Cg:ro y.C){s:List UInt8}{T:Array Value}{ty rt:TypeId}{bs:Array Bool}
 (hN:∀(n:Nat) (w:World),n≤s.length→Calls prog 120 #[.string ⟨⟨s⟩⟩,.int .i64 n] w λe _=>∃v,e=.returned v∧v=cn (ax s n))
 (hL:∀(t:Tok) (w:World),Calls prog 121 #[cn t] w λe _=>∃v,e=.returned v∧v=.bool t.lastB)
theorem jH {main:Bool}{b:Frame}{a:Act}{ops:Array Oper}{i:Nat}{rest:List Nat}{o:Oper}{kk:List Item}{cs:List Frame}{w:World}(ho:ops[i]?=some o)(hw:Region.wanted o (yielded ops a.tmps)=true)(hk:b.kind≠.early){f:FuncId}{xs:Array Operand}{ats:Array TypeId}{args:Array Value}(hop:o.op=.call { callee:= .value (.func f),args:=xs,argTypes:=ats })(ha:xs.map a.eval=args)(pZ:((prog.funcs[f]?).any λfn=>fn.body.isSome)=true:=by kernel_rfl)(Ew:((prog.funcs[f]?).any λfn=>fn.name== "runtime.NumGoroutine")=false:=by kernel_rfl):stepG prog main (G (b.at a (.inRegion ops (i::rest)::kk)) cs) w=.go (G (Frame.enter prog f args .normal) (b.at a (.inRegion ops (i::rest)::kk)::cs)) w #[]:=by
 subst ha;cases hf:prog.funcs[f]? with
 |none=>rw[hf]at pZ;simp at pZ
 |some fn=>
  rw[hf]at pZ Ew;simp only[Option.any_some]at pZ Ew;obtain⟨cc,hcc⟩:=zbq.1 pZ;have hne:¬fn.name= "runtime.NumGoroutine" :=by simpa using Ew
  have hr:(execOp a.eval o).run prog w=.ok (.enter f (xs.map a.eval)) w:=by
   unfold execOp;simp[hop,resolve,invoke,callFunc,hf,hcc,hne,Act.eval,Deferred.ofValue,go_sem]
  have he:(execOp a.eval o).events prog w #[]=#[]:=by
   unfold execOp;simp[hop,resolve,invoke,callFunc,hf,hcc,hne,Act.eval,Deferred.ofValue,go_sem]
  rw[stepG_enter ho hw hk hr,listed_none he]
theorem aaN (w:World):prog.globals.size≤(Em prog w).heap.size:=by rw[nW];exact zaa _
include O0 IJ yf Cg hN hL in
theorem IU (m:Nat):∀(n:Nat) (a:Act) (W:World) (own:Nat→Prop),n≤s.length→s.length-n<m→SA a ch s n ty rt bs→nC ro own W→prog.globals.size≤W.heap.size→Hx x y W→jT prog ro ch (IE prog cG.tWg x y) ((aQ m s n).map cn) own (G ((base 71).at a [.code (Cp f71),.inLoop (Cp f71),.inBlock 0]) (WA prog.funcs.size f69 Wg T)) W:=by
 induction m with
 |zero=>intro n a W own _ h;omega
 |succ m ih=>
  intro n a W own hn hm hS hH hb hP;obtain⟨rest,hgp,zj⟩:∃rest,(aQ (m+1) s n).map cn=cn (ax s n)::rest∧rest=if(ax s n).lastB then[]else(aQ m s (ax s n).dF).map cn:=by
   refine⟨_,?_,rfl⟩;rw[aQ];split<;>simp
  rw[hgp,dN];refine aj.silent rfl (λ_=>stepG_block (id:=1) (c:=inS f71)) ?_;refine aj.silent rfl (λ_=>stepG_seq (x:= .region 2 (r2 f71) false) (y:=in3 f71)) ?_;refine aj.silent rfl (λ_=>stepG_region) ?_;refine aj.mv (ops:=r2 f71) (i:=0) (rest:=[1,2,3,4]) rfl rfl (by decide) (dd:=some 7) rfl (.inl rfl) hS.txt ?_;have hS1:=hS.put (t:=7) (v:= .string ⟨⟨s⟩⟩) (by decide) (by decide) (by decide);have h7:(a.put (some 7) (.string ⟨⟨s⟩⟩)).eval (.tmp 7)=.string ⟨⟨s⟩⟩:=bk (by rw[hS.size];decide);generalize a.put (some 7) (.string ⟨⟨s⟩⟩)=a1 at *;refine aj.mv (ops:=r2 f71) (i:=1) (rest:=[2,3,4]) rfl rfl (by decide) (dd:=some 8) rfl (.inl rfl) hS1.here ?_;have pA:=hS1.put (t:=8) (v:= .int .i64 n) (by decide) (by decide) (by decide);have h8:(a1.put (some 8) (.int .i64 n)).eval (.tmp 8)=.int .i64 n:=bk (by rw[hS1.size];decide);have h7':(a1.put (some 8) (.int .i64 n)).eval (.tmp 7)=.string ⟨⟨s⟩⟩:=(aO (by decide)).trans h7;generalize a1.put (some 8) (.int .i64 n)=a2 at *;refine aj.call' ma (cs:=WA prog.funcs.size f69 Wg T) (f:=120) (args:=#[.string ⟨⟨s⟩⟩,.int .i64 n]) aaL (λv hv=>?_) (Qv:=λv=>v=cn (ax s n)) (λv hv=>hv▸fc _) (c:=(base 71).at a2 (.inRegion (r2 f71) [2,3,4]::.code (in3 f71)::kS f71)) rfl (λw₁=>?_) hb hH (λw' _=>hN n w' hn) ?_
  ·simp only[zbb,zas,zbc,or_false]at hv;rcases hv with rfl|rfl
   ·exact LQ _
   ·exact Co _ _
  ·exact jH (ops:=r2 f71) (i:=2) rfl rfl (by decide) rfl (by simp[h7',h8])
  rintro _ W1 acD rfl WB hH1 aaO aaP;rw[Frame.finish_at];change aj _ _ _ _ _ (G ((base 71).at (a2.put (some 9) (cn (ax s n))) _) _) _;have hS3:=pA.put (t:=9) (v:=cn (ax s n)) (by decide) (by decide) (by decide);have h9:(a2.put (some 9) (cn (ax s n))).eval (.tmp 9)=cn (ax s n):=bk (by rw[pA.size];decide);generalize a2.put (some 9) (cn (ax s n))=a3 at *;have hb1:prog.globals.size≤W1.heap.size:=zad hb aaP;have hP1:Hx x y W1:=hP.on yf Cg λb hb=>aaO b (.inr hb);have WC:=At.empty (S:=Sc) hH1 hb1;obtain⟨i76,T1,LS⟩:=zam.1 qb;simp only[zab]at LS;have hg0:=aaN W1;generalize cL jD prog.globals.size W1.heap.size=ρ0 at WC;generalize Em prog W1=w0 at WC hg0;refine aj.KZ ma (ops:=r2 f71) (i:=3) (rest:=[4]) rfl rfl (by decide) (dd:=some 5) rfl rfl T1 LS.2 WC ?_;intro w1 uT W2 aaQ e1 LU EO;have hs1:w1.heap.size=w0.heap.size:=by rw[e1]
  rw[←hs1];have hS4:=hS3.put (t:=5) (v:= .pointer (some ⟨uT w1.heap.size,0,none⟩)) (by decide) (by decide) (by decide);have h5:(a3.put (some 5) (.pointer (some ⟨uT w1.heap.size,0,none⟩))).eval (.tmp 5)=.pointer (some ⟨uT w1.heap.size,0,none⟩):=bk (by rw[hS3.size];decide);have h9':(a3.put (some 5) (.pointer (some ⟨uT w1.heap.size,0,none⟩))).eval (.tmp 9)=cn (ax s n):=(aO (by decide)).trans h9;generalize a3.put (some 5) (.pointer (some ⟨uT w1.heap.size,0,none⟩))=a4 at *;have hg1:prog.globals.size≤w1.heap.size:=by omega
  refine aj.storeT ma (ops:=r2 f71) (i:=4) (rest:=[]) rfl rfl (by decide) (dd:=none) rfl (s:=5) (t:=9) (by decide) rfl (c:=eH ⟨0,0,0,[],0,0,0⟩) (c':=eH (ax s n)) (wO _) rfl (LR _) LU h5 (by rw[h9'];exact(fc _ _).symm) (fc _ _) hg1 ?_;intro w2 vW W3 aaR e2 Sw Kg;rw[vT];have hs2:w2.heap.size=w1.heap.size:=by rw[e2]
  have hr2:vW w2.heap.size=uT w1.heap.size:=by rw[hs2];exact Kg.agree _ (by rw[bX];omega)
  rw[←hr2]at h5;have hP3:Hx x y W3:=(hP1.on yf Cg EO.ro).on yf Cg Kg.ro;have hg2:prog.globals.size≤w2.heap.size:=by omega
  refine aj.silent rfl (λ_=>stepG_region_end) ?_;refine aj.silent rfl (λ_=>stepG_seq (x:= .region 3 (r3 f71) false) (y:=TZ f71)) ?_;refine aj.silent rfl (λ_=>stepG_region) ?_;refine aj.mv (ops:=r3 f71) (i:=0) (rest:=[1,2]) rfl rfl (by decide) (dd:=some 10) rfl (.inl rfl) hS4.chan ?_;have hS5:=hS4.put (t:=10) (v:= .chan (some ch)) (by decide) (by decide) (by decide);have h10:(a4.put (some 10) (.chan (some ch))).eval (.tmp 10)=.chan (some ch):=bk (by rw[hS4.size];decide);have Yh:(a4.put (some 10) (.chan (some ch))).eval (.tmp 5)=.pointer (some ⟨vW w2.heap.size,0,none⟩):=(aO (by decide)).trans h5;generalize a4.put (some 10) (.chan (some ch))=a5 at *;refine aj.loadT ma (ops:=r3 f71) (i:=1) (rest:=[2]) rfl rfl (by decide) (dd:=some 11) rfl (s:=5) rfl underlying131 rfl (wO _) Sw Yh hg2 ?_;intro w3 LV W4 aaS e3 O4 Yi;have hs3:w3.heap.size=w2.heap.size:=by rw[e3]
  have hr3:LV w3.heap.size=vW w2.heap.size:=by rw[hs3];exact Yi.agree _ (by rw[bX];omega)
  rw[←hr3]at Yh;have LW:Hx x y W4:=hP3.on yf Cg Yi.ro;have hg3:prog.globals.size≤w3.heap.size:=by omega
  rw[show rv LV (.agg (eH (ax s n)))=cn (ax s n) from fc _ _];have hS6:=hS5.put (t:=11) (v:=cn (ax s n)) (by decide) (by decide) (by decide);have h11:(a5.put (some 11) (cn (ax s n))).eval (.tmp 11)=cn (ax s n):=bk (by rw[hS5.size];decide);have aaT:(a5.put (some 11) (cn (ax s n))).eval (.tmp 10)=.chan (some ch):=(aO (by decide)).trans h10;have O5:(a5.put (some 11) (cn (ax s n))).eval (.tmp 5)=.pointer (some ⟨LV w3.heap.size,0,none⟩):=(aO (by decide)).trans Yh;generalize a5.put (some 11) (cn (ax s n))=a6 at *;refine .stop λaF hr=>?_;refine⟨rfl,.tuple #[],?_,?_⟩
  ·have hrr:(execOp a6.eval (r3 f71)[2]).run prog aF=.ok (.comm #[scase ch (cn (ax s n)) (.tuple #[])] true .send) aF:=by
    show(pure (.comm #[{ chan:=a6.eval (.tmp 10),send:=some (a6.eval (.tmp 11)),zero:= .tuple #[] }] true .send):Sem Next).run prog aF=_;rw[aaT,h11];rfl
   rw[stepG_comm (ops:=r3 f71) (i:=2) rfl rfl (by decide) hrr,listed_none rfl];rfl
  show jT _ _ _ _ _ _ (G (((base 71).at a6 (.inRegion (r3 f71) [2]::.code (TZ f71)::kS f71)).finish undef) (WA prog.funcs.size f69 Wg T)) aF;rw[Frame.finish_at];change jT _ _ _ _ _ _ (G ((base 71).at a6 (.inRegion (r3 f71) []::.code (TZ f71)::kS f71)) (WA prog.funcs.size f69 Wg T)) aF;obtain⟨hA4,hO4⟩:=O4.rely hr;generalize cL LV (w3.alloc (Obj.cells (eH (ax s n)) 131)).heap.size aF.heap.size=ρ4 at hA4 hO4;have hr4:ρ4 w3.heap.size=LV w3.heap.size:=hO4.agree _ (by rw[bX];omega);rw[←hr4]at O5;have WD:Hx x y aF:=LW.on yf Cg hO4.ro;have lC:prog.globals.size≤aF.heap.size:=hA4.uu.nB;clear WC LU Sw O4 EO Kg Yi hO4 hP hP1 hP3 LW;rw[dN];refine aj.silent rfl (λ_=>stepG_region_end) ?_;refine aj.silent rfl (λ_=>stepG_seq (x:=cJ (TZ f71)) (y:= .region 5 (r5 f71) false)) ?_;refine aj.silent rfl (λ_=>stepG_seq (x:= .region 4 (r4 f71) false) (y:=c4 f71)) ?_;refine aj.silent rfl (λ_=>stepG_region) ?_;refine aj.loadT ma (ops:=r4 f71) (i:=0) (rest:=[1]) rfl rfl (by decide) (dd:=some 12) rfl (s:=5) rfl underlying131 rfl (wO _) hA4 O5 hg3 ?_;intro w5 GQ W5 aaU e5 O6 hO5;have hs5:w5.heap.size=w3.heap.size:=by rw[e5]
  have xR:GQ w5.heap.size=ρ4 w3.heap.size:=by rw[hs5];exact hO5.agree _ (by rw[bX];omega)
  rw[←xR]at O5;have Yj:Hx x y W5:=WD.on yf Cg hO5.ro;have WE:prog.globals.size≤w5.heap.size:=by omega
  rw[show rv GQ (.agg (eH (ax s n)))=cn (ax s n) from fc _ _];have hS7:=hS6.put (t:=12) (v:=cn (ax s n)) (by decide) (by decide) (by decide);have Bo:(a6.put (some 12) (cn (ax s n))).eval (.tmp 12)=cn (ax s n):=bk (by rw[hS6.size];decide);have h5c:(a6.put (some 12) (cn (ax s n))).eval (.tmp 5)=.pointer (some ⟨GQ w5.heap.size,0,none⟩):=(aO (by decide)).trans O5;generalize a6.put (some 12) (cn (ax s n))=a7 at *;refine aj.call' ma (cs:=WA prog.funcs.size f69 Wg T) (f:=121) (args:=#[cn (ax s n)]) aaM (λv hv=>?_) (Qv:=λv=>v=.bool (ax s n).lastB) (λv hv=>hv▸IQ _) (c:=(base 71).at a7 (.inRegion (r4 f71) [1]::.code (c4 f71)::.code (.region 5 (r5 f71) false)::kS f71)) rfl (λw₁=>?_) O6.uu.nB O6.hold (λw' _=>hL _ w') ?_
  ·simp only[zbb,zas,zbc,or_false]at hv;subst hv;exact fc _
  ·exact jH (ops:=r4 f71) (i:=1) rfl rfl (by decide) rfl (by simp[Bo])
  rintro _ W6 acE rfl ho6 hH6 aaV Yk;rw[Frame.finish_at];change aj _ _ _ _ _ (G ((base 71).at (a7.put (some 13) (.bool (ax s n).lastB)) _) _) _;obtain⟨hA6,hO6⟩:=O6.call aaV Yk ho6 hH6;generalize cL GQ (w5.alloc (Obj.cells (eH (ax s n)) 131)).heap.size W6.heap.size=ρ6 at hA6 hO6;have yh:ρ6 w5.heap.size=GQ w5.heap.size:=hO6.agree _ (by rw[bX];omega);rw[←yh]at h5c;have Yl:Hx x y W6:=Yj.on yf Cg hO6.ro;have WG:=hS7.put (t:=13) (v:= .bool (ax s n).lastB) (by decide) (by decide) (by decide);have h13:(a7.put (some 13) (.bool (ax s n).lastB)).eval (.tmp 13)=.bool (ax s n).lastB:=bk (by rw[hS7.size];decide);have h5d:(a7.put (some 13) (.bool (ax s n).lastB)).eval (.tmp 5)=.pointer (some ⟨ρ6 w5.heap.size,0,none⟩):=(aO (by decide)).trans h5c;generalize a7.put (some 13) (.bool (ax s n).lastB)=a8 at *;refine aj.silent rfl (λ_=>stepG_region_end) ?_;refine aj.silent rfl (λ_=>stepG_cond (c:= .tmp 13) (x:= .ret) (y:= .skip) h13) ?_;by_cases wP:(ax s n).lastB=true
  ·rw[if_pos wP]at zj;rw[zj,wP,←dN];obtain⟨T8,D8⟩:=a8;have hD:D8=[fX (.chan (some ch)) ty rt bs]:=WG.defers;subst hD;exact LN O0 IJ yf Cg T T8 _ ty rt bs W6 Yl.1 Yl.2
  have LX:(ax s n).lastB=false:=by simpa using wP
  rw[if_neg wP]at zj;rw[zj,LX];refine aj.silent rfl (λ_=>stepG_skip) ?_;refine aj.silent rfl (λ_=>stepG_region) ?_;refine aj.Tv ma (ops:=r5 f71) (i:=0) (rest:=[1,2]) rfl rfl (by decide) (dd:=some 14) rfl (s:=5) (j:=2) (off:=2) rfl O2 hA6 h5d WE ?_;intro w7 ρ7 W7 acF e7 hA7 hO7;have hs7:w7.heap.size=w5.heap.size:=by rw[e7]
  rw[←hs7];have hS9:=WG.put (t:=14) (v:= .pointer (some ⟨ρ7 w7.heap.size,2,none⟩)) (by decide) (by decide) (by decide);have uV:(a8.put (some 14) (.pointer (some ⟨ρ7 w7.heap.size,2,none⟩))).eval (.tmp 14)=.pointer (some ⟨ρ7 w7.heap.size,2,none⟩):=bk (by rw[WG.size];decide);generalize a8.put (some 14) (.pointer (some ⟨ρ7 w7.heap.size,2,none⟩))=a9 at *;have hP8:Hx x y W7:=Yl.on yf Cg hO7.ro;refine aj.XJ ma (ops:=r5 f71) (i:=1) (rest:=[2]) rfl rfl (by decide) (dd:=some 15) rfl (s:=14) (off:=2) rfl (v:= .int .i64 (ax s n).dF) (λw a h=>Yf w a h) rfl hA7 uV (by omega) ?_;intro w8 ρ8 W8 aaW e8 hA8 hO8;have hP9:Hx x y W8:=hP8.on yf Cg hO8.ro;rw[Co];have LY:=hS9.put (t:=15) (v:= .int .i64 (ax s n).dF) (by decide) (by decide) (by decide);have h15:(a9.put (some 15) (.int .i64 (ax s n).dF)).eval (.tmp 15)=.int .i64 (ax s n).dF:=bk (by rw[hS9.size];decide);generalize a9.put (some 15) (.int .i64 (ax s n).dF)=a10 at *;refine aj.mv (ops:=r5 f71) (i:=2) (rest:=[]) rfl rfl (by decide) (dd:=some 4) rfl (.inr rfl) h15 ?_;have aaX:SA (a10.put (some 4) (.int .i64 (ax s n).dF)) ch s (ax s n).dF ty rt bs:=⟨by rw[size_put];exact LY.size,by rw[aO (by decide)];exact LY.txt,by rw[aO (by decide)];exact LY.chan,bk (by rw[LY.size];decide),by rw[cM];exact LY.defers⟩;generalize a10.put (some 4) (.int .i64 (ax s n).dF)=a11 at *;refine aj.silent rfl (λ_=>stepG_region_end) ?_;refine aj.silent rfl (λ_=>stepG_inBlock) ?_;refine aj.silent rfl (λ_=>stepG_inLoop) ?_;obtain⟨f1,f2,f3⟩:=zi hn;have f4:=f3 LX;have:=ih (ax s n).dF a11 W8 aaW f2 (by omega) aaX hA8.hold hA8.uu.nB hP9;rw[dN]at this;exact this
end
end Go.Ren
set_option linter.unusedSectionVars false
namespace Go.Ren
open Go.Proofs.Tryz
open Go Go.Conc Go.ConcX Go.RowKit Go.Conc.Lib Go.ConcX.Gen Go.Proofs Go.Loop
theorem LZ {e:TypeId}(he:e=9∨e=132)(w:World)(ad:Addr){v:Value}(h:w.cell? ad=some v):(Instr.loadAt e (.pointer (some ad))).run prog w=.ok v w∧∀ev∈(Instr.loadAt e (.pointer (some ad))).events prog w #[],ev.loc=.cell ad∧ev.write=false:=by
 rcases he with rfl|rfl
 ·refine⟨by simp[go_sem,Instr.loadAt,Instr.sureAddr,loadVar,isAgg,h],λev he=>?_⟩;have:(Instr.loadAt 9 (.pointer (some ad))).events prog w #[]=(load ad).events prog w #[]:=by simp[go_sem,Instr.loadAt,Instr.sureAddr,loadVar,isAgg]
  rw[this]at he;exact(events_load_at w ad _ #[] h ev he).resolve_left (by simp)
 ·refine⟨by simp[go_sem,Instr.loadAt,Instr.sureAddr,loadVar,isAgg,h],λev he=>?_⟩;have:(Instr.loadAt 132 (.pointer (some ad))).events prog w #[]=(load ad).events prog w #[]:=by simp[go_sem,Instr.loadAt,Instr.sureAddr,loadVar,isAgg]
  rw[this]at he;exact(events_load_at w ad _ #[] h ev he).resolve_left (by simp)
def sR (Wg X Y:Nat):Deferred:={ target:= .fn (.func 69) #[.pointer (some ⟨Wg,0,none⟩),.pointer (some ⟨X,0,none⟩),.pointer (some ⟨Y,0,none⟩)],args:=#[] }
def Sx (Wg X Y:Nat):Array Value:=#[.pointer (some ⟨Wg,0,none⟩),.pointer (some ⟨X,0,none⟩),.pointer (some ⟨Y,0,none⟩),undef,undef,undef]
def yj (f:Func):Code:=f.body.getD .skip
theorem IV (Wg X Y:Nat)(w:World):stepG prog false (born prog (sR Wg X Y)) w=.go (G (LL.at ⟨Sx Wg X Y,[]⟩ [.code (yj f69)]) [(rz prog.funcs.size)]) w #[]:=by
 simp[born,stepG,unwind,callDeferred,sR,invoke,callFunc,f69,GStep.after,G,Frame.enter,LL,baseD,Frame.at,Sx,yj,rz,seen]
def Ym (f:Func):Array Oper:=gB (cJ (yj f))
def a26 (s:List UInt8)(ch:Nat):Act:=⟨#[.string ⟨⟨s⟩⟩,.chan (some ch)]++Array.replicate 14 undef,[]⟩
variable {Wg Low ch:Nat}{x y:sP Wg Low}{ro:Nat→Prop}
section
variable (O0:x.C≠ch)(IJ:y.C≠ch)(yf:ro x.C)(Cg:ro y.C){s:List UInt8}
 (hN:∀(n:Nat) (w:World),n≤s.length→Calls prog 120 #[.string ⟨⟨s⟩⟩,.int .i64 n] w λe _=>∃v,e=.returned v∧v=cn (ax s n))
 (hL:∀(t:Tok) (w:World),Calls prog 121 #[cn t] w λe _=>∃v,e=.returned v∧v=.bool t.lastB)
include O0 IJ yf Cg hN hL in
theorem EP (W:World)(hH:nC ro (λ_=>False) W)(hb:prog.globals.size≤W.heap.size)(hP:Hx x y W)(hx:W.cell? ⟨x.C,0,none⟩=some (.string ⟨⟨s⟩⟩))(hy:W.cell? ⟨y.C,0,none⟩=some (.chan (some ch))):jT prog ro ch (IE prog cG.tWg x y) ((aQ (s.length+1) s 0).map cn) (λ_=>False) (born prog (sR Wg x.C y.C)) W:=by
 rw[dN];refine aj.silent rfl (λ_=>IV _ _ _ _) ?_;refine aj.silent rfl (λ_=>stepG_seq (x:= .region 0 (Ym f69) false) (y:= .region 1 (wK f69) false)) ?_;refine aj.silent rfl (λ_=>stepG_region) ?_;refine aj.silent rfl (λ_=>stepG_defer (ops:=Ym f69) (i:=0) (rest:=[]) rfl rfl (by decide) rfl) ?_;refine aj.silent rfl (λ_=>stepG_region_end) ?_;refine aj.silent rfl (λ_=>stepG_region) ?_;have hm:Array.map (⟨Sx Wg x.C y.C,[]⟩:Act).eval #[Operand.tmp 0]=#[.pointer (some ⟨Wg,0,none⟩)]:=by simp[Act.eval,Sx]
 rw[hm];change aj _ _ _ _ _ (G (LL.at ⟨Sx Wg x.C y.C,[dcall 70 #[.pointer (some ⟨Wg,0,none⟩)]]⟩ [.inRegion (wK f69) [0,1,2]]) [(rz prog.funcs.size)]) W;refine aj.Ah (ops:=(wK f69)) (i:=0) (rest:=[1,2]) rfl rfl (by decide) (dd:=some 3) rfl (e:=9) (x:= .tmp 1) rfl (ad:=⟨x.C,0,none⟩) rfl yf hx (λw h=>LZ (.inl rfl) w _ h) ?_;refine aj.Ah (ops:=(wK f69)) (i:=1) (rest:=[2]) rfl rfl (by decide) (dd:=some 4) rfl (e:=132) (x:= .tmp 2) rfl (ad:=⟨y.C,0,none⟩) rfl Cg hy (λw h=>LZ (.inr rfl) w _ h) ?_;refine aj.silent rfl (λ_=>jH (ops:=(wK f69)) (i:=2) (rest:=[]) (f:=71) (args:=#[.string ⟨⟨s⟩⟩,.chan (some ch)]) rfl rfl (by decide) rfl (by simp[Act.eval,Act.put,Sx])) ?_;have he:=enter_at (P:=prog) (f:=71) (c:=yj f71) #[.string ⟨⟨s⟩⟩,.chan (some ch)] Ye rfl;rw[he];obtain⟨T,hT⟩:∃T:Array Value,T=(Act.put (Act.put ⟨Sx Wg x.C y.C,[dcall 70 #[.pointer (some ⟨Wg,0,none⟩)]]⟩ (some 3) (.string ⟨⟨s⟩⟩)) (some 4) (.chan (some ch))).tmps:=⟨_,rfl⟩;change aj _ _ _ _ _ (G ((base 71).at (a26 s ch) [.code (yj f71)]) [LL.at ⟨(Act.put (Act.put ⟨Sx Wg x.C y.C,[dcall 70 #[.pointer (some ⟨Wg,0,none⟩)]]⟩ (some 3) (.string ⟨⟨s⟩⟩)) (some 4) (.chan (some ch))).tmps,[dcall 70 #[.pointer (some ⟨Wg,0,none⟩)]]⟩ [.inRegion (wK f69) [2]],(rz prog.funcs.size)]) W;rw[←hT];change aj _ _ _ _ _ (G ((base 71).at (a26 s ch) [.code (yj f71)]) (WA prog.funcs.size f69 Wg T)) W;refine aj.silent rfl (λ_=>stepG_seq (x:= .region 0 (Ym f71) false) (y:=cd (yj f71))) ?_;refine aj.silent rfl (λ_=>stepG_region) ?_;have q0:(a26 s ch).eval (.tmp 0)=.string ⟨⟨s⟩⟩:=by simp[a26,Act.eval]
 have q1:(a26 s ch).eval (.tmp 1)=.chan (some ch):=by simp[a26,Act.eval]
 have qs:(a26 s ch).tmps.size=16:=by simp[a26]
 have qd:(a26 s ch).defers=[]:=rfl;generalize a26 s ch=a at *;refine aj.mv (ops:=Ym f71) (i:=0) (rest:=[1]) rfl rfl (by decide) (dd:=some 6) rfl (.inl rfl) q1 ?_;have q6:(a.put (some 6) (.chan (some ch))).eval (.tmp 6)=.chan (some ch):=bk (by rw[qs];decide);have q0':(a.put (some 6) (.chan (some ch))).eval (.tmp 0)=.string ⟨⟨s⟩⟩:=(aO (by decide)).trans q0;have q1':(a.put (some 6) (.chan (some ch))).eval (.tmp 1)=.chan (some ch):=(aO (by decide)).trans q1;have qs':(a.put (some 6) (.chan (some ch))).tmps.size=16:=size_put.trans qs;have qd':(a.put (some 6) (.chan (some ch))).defers=[]:=cM.trans qd;generalize a.put (some 6) (.chan (some ch))=a1 at *;refine aj.silent rfl (λ_=>rq (ops:=Ym f71) (i:=1) (rest:=[]) (x:=6) (ty:=206) rfl rfl (by decide) rfl) ?_;rw[q6,qd'];change aj _ _ _ _ _ (G ((base 71).at ⟨a1.tmps,[fX (.chan (some ch)) 206 0 #[false]]⟩ _) _) _;have p0:(⟨a1.tmps,[fX (.chan (some ch)) 206 0 #[false]]⟩:Act).eval (.tmp 0)=.string ⟨⟨s⟩⟩:=q0';have p1:(⟨a1.tmps,[fX (.chan (some ch)) 206 0 #[false]]⟩:Act).eval (.tmp 1)=.chan (some ch):=q1';have ps:(⟨a1.tmps,[fX (.chan (some ch)) 206 0 #[false]]⟩:Act).tmps.size=16:=qs';have pd:(⟨a1.tmps,[fX (.chan (some ch)) 206 0 #[false]]⟩:Act).defers=[fX (.chan (some ch)) 206 0 #[false]]:=rfl;generalize (⟨a1.tmps,[fX (.chan (some ch)) 206 0 #[false]]⟩:Act)=a2 at *;refine aj.silent rfl (λ_=>stepG_region_end) ?_;refine aj.silent rfl (λ_=>stepG_seq (x:= .region 1 (gB (cJ (cd (yj f71)))) false) (y:=cd (cd (yj f71)))) ?_;refine aj.silent rfl (λ_=>stepG_region) ?_;refine aj.mv (ops:=gB (cJ (cd (yj f71)))) (i:=0) (rest:=[]) rfl rfl (by decide) (dd:=some 4) rfl (.inr rfl) (v:= .int .i64 0) rfl ?_;have hSA:SA (a2.put (some 4) (.int .i64 0)) ch s 0 206 0 #[false]:=⟨size_put.trans ps,(aO (by decide)).trans p0,(aO (by decide)).trans p1,bk (by rw[ps];decide),cM.trans pd⟩;generalize a2.put (some 4) (.int .i64 0)=a3 at *;refine aj.silent rfl (λ_=>stepG_region_end) ?_;refine aj.silent rfl (λ_=>stepG_block (id:=0) (c:= .loop (Cp f71))) ?_;refine aj.silent rfl (λ_=>stepG_loop) ?_;have:=IU O0 IJ yf Cg (T:=T) hN hL (s.length+1) 0 a3 W (λ_=>False) (zaj _) (by omega) hSA hH hb hP;rw[dN]at this;exact this
end
end Go.Ren
set_option linter.unusedSectionVars false
namespace Go.Ren
open Go.Proofs.Tryz
open Go Go.Conc Go.ConcX Go.RowKit Go.Conc.Lib Go.ConcX.Gen Go.Proofs Go.Loop
theorem T2 (t:Tok):Instr.fill (λi=>some (i*7,7)) (Array.map (λx=>(cn ⟨0,0,0,[],0,0,0⟩).cells[x%(cn ⟨0,0,0,[],0,0,0⟩).cells.size]!) (Array.range 7)) [(0,cn t)]=some (eH t):=by kernel_rfl
theorem O7 (t:Tok)(w:World):(Instr.buildSlice 85 1 #[(0,cn t)]).run prog w=.ok (.slice (some ⟨w.heap.size,0,none⟩) 1 1) (w.alloc (.cells (eH t) 131)):=by
 obtain⟨i,hi,he⟩:=zam.1 qb;simp only[zab]at he;have hu:prog.underlying 85=some (.slice 131):=by kernel_rfl
 simp[Instr.buildSlice,run_underlying hu,sizeOf,typeInfo,hi,he.1,he.2,zeroValue,newRow,T2]
theorem O8:(prog.info? 131).map (λi=>i.bytes)=some 64:=by kernel_rfl
theorem L3 {o:Oper}{x y:Operand}(hop:o.op=.call { callee:= .builtin .append,args:=#[x,y],argTypes:=#[85,85] }){ev:Operand→Value}{w:World}{v:Value}{n:Nat}{xs:List Value}(hown:w.ownsRow prog.globals.size 131 7 v n xs)(hb:prog.globals.size≤w.heap.size)(hn:n+1≤1000000)
 {t:Tok}{r:Nat}(hr:w.heap[r]?=some (.cells (eH t) 131))(hx:ev x=v)(hy:ev y=.slice (some ⟨r,0,none⟩) 1 1):
 ∃v' w',(execOp ev o).run prog w=.ok (.value v') w'∧w'.ownsRow prog.globals.size 131 7 v' (n+1) (xs++(eH t).toList):=by
 obtain⟨i,hi,he⟩:=zam.1 qb;simp only[zab]at he;have hu:prog.underlying 85=some (.slice 131):=by kernel_rfl
 have hby:i.bytes=64:=by have:=O8;rw[hi]at this;simpa using this
 obtain⟨v',w',h1,h2,_⟩:=run_append_own_wide (P:=prog) (w:=w) prog.globals.size 85 o.type 131 i _ 7 64 hu hi he.2 he.1 hby rfl (by decide) v n xs hown ⟨r,0,none⟩ 1 1 (eH t).toList rfl (λj u hj=>by
  rw[Addr.add_mid];simp only[World.cell?,hr];simpa using hj) (λu hu=>by
   have:=LR t;rw[zbr]at this;exact this u (by simpa using hu)) (by simp only[maxLen];omega) (by omega) hb
 refine⟨v',w',?_,h2⟩;unfold execOp;simp only[hop,resolve,invoke,builtin,Sem.run_bind,Sem.run_pure,Result.andThen_ok,zbe,zao,zaG,hx,hy,h1]
def dC:Nat→Code→Code
 |0,c=>c
 |n+1,c=>dC n (cd c)
def D5 (f:Func):Code:=dC 5 (yj f)
def D6 (f:Func):Code:=dC 6 (yj f)
def D10 (f:Func):Code:=dC 7 (yj f)
def WH (f:Func):Code:=dC 8 (yj f)
def g5 (f:Func):Array Oper:=gB (cJ (D5 f))
def g6 (f:Func):Array Oper:=gB (cJ (cJ (D6 f)))
def Lg (f:Func):Code:=Yg (O3 (cd (cJ (D6 f))))
def g7 (f:Func):Array Oper:=gB (cJ (Lg f))
def Mg (f:Func):Code:=O3 (cd (cd (Lg f)))
def g8 (f:Func):Array Oper:=gB (cJ (Mg f))
def g9 (f:Func):Array Oper:=gB (cd (Mg f))
def g10 (f:Func):Array Oper:=gB (cJ (D10 f))
def g11 (f:Func):Array Oper:=gB (cJ (WH f))
def kG (f:Func):List Item:=[.inLoop (Lg f),.inBlock 0,.code (D10 f)]
def sS:Tok:=⟨0,0,0,[],0,0,0⟩
structure Yn (a:Act) (X Y Wg ch:Nat):Prop where
 size:a.tmps.size=20
 s1:a.eval (.tmp 1)=.pointer (some ⟨X,0,none⟩)
 s3:a.eval (.tmp 3)=.pointer (some ⟨Y,0,none⟩)
 s4:a.eval (.tmp 4)=.pointer (some ⟨Wg,0,none⟩)
 s10:a.eval (.tmp 10)=.chan (some ch)
 defers:a.defers=[]
variable {Wg Low ch X Y:Nat}{x y:sP Wg Low}{ro own:Nat→Prop}{cs:List Frame}
theorem Yn.put {a:Act}(h:Yn a X Y Wg ch){t:Tmp}{v:Value}(h1:t≠1)(h3:t≠3)(h4:t≠4)(h10:t≠10):Yn (a.put (some t) v) X Y Wg ch:=
 ⟨size_put.trans h.size,(aO h1).trans h.s1,(aO h3).trans h.s3,(aO h4).trans h.s4,(aO h10).trans h.s10,cM.trans h.defers⟩
structure GR (ro:Nat→Prop) (X Y Wg ch:Nat) (xs:List Tok) (own:Nat→Prop) (a:Act) (W:World):Prop where
 ga:Yn a X Y Wg ch
 row:∃ρ w v,At prog Sc ro ρ w W own∧a.eval (.tmp 5)=rv ρ v∧Cl prog Sc w v∧w.ownsRow prog.globals.size 131 7 v xs.length (xs.flatMap λt=>(eH t).toList)
theorem O9 (xs:List Tok)(t:Tok):(xs++[t]).flatMap (λt=>(eH t).toList)=xs.flatMap (λt=>(eH t).toList)++(eH t).toList:=by simp
theorem Pa (a:Act)(W:World)(h:a.eval (.tmp 10)=.chan (some ch)):(execOp a.eval (g7 f43)[0]).run prog W=.ok (.comm #[rcase ch (cn sS)] true (.recv true)) W∧(execOp a.eval (g7 f43)[0]).events prog W #[]=#[]:=by
 obtain⟨i,hi,he⟩:=zam.1 qb;simp only[zab]at he;obtain⟨dir,hu⟩:∃dir,prog.underlying 132=some (.chan dir 131):=⟨_,underlying132⟩;have hop:(g7 f43)[0].op=.recv 132 (.tmp 10) true:=rfl;constructor
 ·unfold execOp;simp[hop,run_underlying hu,zeroValue,typeInfo,hi,he.2,h,rcase,sS]
 ·unfold execOp;simp[hop,run_underlying hu,zeroValue,typeInfo,hi,he.2]
theorem GU (a:Act)(W:World)(h:a.eval (.tmp 10)=.chan (some ch)):stepG prog true (G ((base 43).at a (.inRegion (g7 f43) [0,1]::.code (cd (Lg f43))::kG f43)) cs) W=.comm (core (G ((base 43).at a (.inRegion (g7 f43) [0,1]::.code (cd (Lg f43))::kG f43)) cs)) #[rcase ch (cn sS)] true (.recv true) W #[]:=by
 obtain⟨h1,h2⟩:=Pa a W h;rw[stepG_comm (ops:=g7 f43) (i:=0) (rest:=[1]) rfl rfl (by decide) h1,listed_none h2];rfl
theorem GR.rely {W aF:World}{xs:List Tok}{a:Act}(h:GR ro X Y Wg ch xs own a W)(hr:bV ro own W aF):GR ro X Y Wg ch xs own a aF:=by
 obtain⟨ρ,w,v,hA,h5,eG,hrow⟩:=h.row;obtain⟨LU,EO⟩:=hA.rely hr;exact⟨h.ga,_,w,v,LU,by rw[h5];exact(eG.agree EO.agree (Aa hA.uu LU.uu)).symm,eG,hrow⟩
theorem IW {Fin:(Nat→Prop)→Goroutine→World→Prop}(ts:List Tok)
 :∀(xs:List Tok) (own:Nat→Prop) (a:Act) (W:World),GR ro X Y Wg ch xs own a W→xs.length+ts.length≤1000000→
  (∀own a W,GR ro X Y Wg ch (xs++ts) own a W→Fin own (G ((base 43).at (a.put (some 11) (.tuple #[cn sS,.bool false])) (.inRegion (g7 f43) [1]::.code (cd (Lg f43))::kG f43)) cs) W)→
  lA prog ro ch (cn sS) Fin (ts.map cn) own (G ((base 43).at a (.code (Lg f43)::kG f43)) cs) W:=by
 induction ts with
 |nil=>
  intro xs own a W h _ hF;rw[cN];refine aj.silent rfl (λ_=>stepG_seq (x:= .region 7 (g7 f43) false) (y:=cd (Lg f43))) ?_;refine aj.silent rfl (λ_=>stepG_region) ?_;refine .stop λaF hr=>?_;have h1:=h.rely hr;refine⟨rfl,GU a aF h.ga.s10,?_⟩;show Fin own (G (((base 43).at a (.inRegion (g7 f43) [0,1]::.code (cd (Lg f43))::kG f43)).finish _) cs) aF;rw[Frame.finish_at];exact hF own a aF (by simpa using h1)
 |cons t ts ih=>
  intro xs own a W h hlen hF;rw[cN];refine aj.silent rfl (λ_=>stepG_seq (x:= .region 7 (g7 f43) false) (y:=cd (Lg f43))) ?_;refine aj.silent rfl (λ_=>stepG_region) ?_;refine .stop λaF hr=>?_;have h1:=h.rely hr;refine⟨rfl,GU a aF h.ga.s10,?_⟩;show lA _ _ _ _ _ _ own (G (((base 43).at a (.inRegion (g7 f43) [0,1]::.code (cd (Lg f43))::kG f43)).finish _) cs) aF;rw[Frame.finish_at,cN];change aj _ _ _ _ _ (G ((base 43).at (a.put (some 11) (.tuple #[cn t,.bool true])) (.inRegion (g7 f43) [1]::.code (cd (Lg f43))::kG f43)) cs) aF;clear h hr;obtain⟨hg,ρ,w,v,hA,h5,eG,hrow⟩:=h1;have hg1:=hg.put (t:=11) (v:= .tuple #[cn t,.bool true]) (by decide) (by decide) (by decide) (by decide);have Ki:(a.put (some 11) (.tuple #[cn t,.bool true])).eval (.tmp 11)=.tuple #[cn t,.bool true]:=bk (by rw[hg.size];decide);have k5:(a.put (some 11) (.tuple #[cn t,.bool true])).eval (.tmp 5)=rv ρ v:=(aO (by decide)).trans h5;generalize a.put (some 11) (.tuple #[cn t,.bool true])=a1 at *;refine aj.XI (ops:=g7 f43) (i:=1) (rest:=[]) rfl rfl (by decide) (dd:=some 12) rfl rfl Ki (v:= .bool true) rfl ?_;have hg2:=hg1.put (t:=12) (v:= .bool true) (by decide) (by decide) (by decide) (by decide);have k12:(a1.put (some 12) (.bool true)).eval (.tmp 12)=.bool true:=bk (by rw[hg1.size];decide);replace Ki:(a1.put (some 12) (.bool true)).eval (.tmp 11)=.tuple #[cn t,.bool true]:=(aO (by decide)).trans Ki;replace k5:(a1.put (some 12) (.bool true)).eval (.tmp 5)=rv ρ v:=(aO (by decide)).trans k5;generalize a1.put (some 12) (.bool true)=a2 at *;refine aj.silent rfl (λ_=>stepG_region_end) ?_;refine aj.silent rfl (λ_=>stepG_seq (x:= .cond (.tmp 12) .skip (.exit 0)) (y:= .block 1 (Mg f43))) ?_;refine aj.silent rfl (λ_=>stepG_cond k12) ?_;refine aj.silent rfl (λ_=>stepG_skip) ?_;refine aj.silent rfl (λ_=>stepG_block) ?_;refine aj.silent rfl (λ_=>stepG_seq (x:= .region 8 (g8 f43) false) (y:= .region 9 (g9 f43) false)) ?_;refine aj.silent rfl (λ_=>stepG_region) ?_;refine aj.XI (ops:=g8 f43) (i:=0) (rest:=[1,2]) rfl rfl (by decide) (dd:=some 13) rfl rfl Ki (v:=cn t) rfl ?_;have hg3:=hg2.put (t:=13) (v:=cn t) (by decide) (by decide) (by decide) (by decide);have k13:(a2.put (some 13) (cn t)).eval (.tmp 13)=cn t:=bk (by rw[hg2.size];decide);replace k5:(a2.put (some 13) (cn t)).eval (.tmp 5)=rv ρ v:=(aO (by decide)).trans k5;generalize a2.put (some 13) (cn t)=a3 at *;obtain⟨i76,T1,LS⟩:=zam.1 qb;simp only[zab]at LS;have hgw:prog.globals.size≤w.heap.size:=hA.uu.wr.big.p;refine aj.KZ ma (ops:=g8 f43) (i:=1) (rest:=[2]) rfl rfl (by decide) (dd:=some 6) rfl rfl T1 LS.2 hA ?_;intro w1 uT W2 aaQ e1 LU EO;have hs1:w1.heap.size=w.heap.size:=by rw[e1]
  have L4:rv uT v=rv ρ v:=eG.agree EO.agree (Aa hA.uu LU.uu);have KP:Cl prog Sc w1 v:=by unfold Cl at eG ⊢;rw[hs1];exact eG
  have Sy:w1.ownsRow prog.globals.size 131 7 v xs.length (xs.flatMap λt=>(eH t).toList):=by unfold World.ownsRow at hrow ⊢;rw[e1];exact hrow
  rw[←hs1];have hg4:=hg3.put (t:=6) (v:= .pointer (some ⟨uT w1.heap.size,0,none⟩)) (by decide) (by decide) (by decide) (by decide);have k6:(a3.put (some 6) (.pointer (some ⟨uT w1.heap.size,0,none⟩))).eval (.tmp 6)=.pointer (some ⟨uT w1.heap.size,0,none⟩):=bk (by rw[hg3.size];decide);replace k13:(a3.put (some 6) (.pointer (some ⟨uT w1.heap.size,0,none⟩))).eval (.tmp 13)=cn t:=(aO (by decide)).trans k13;replace k5:(a3.put (some 6) (.pointer (some ⟨uT w1.heap.size,0,none⟩))).eval (.tmp 5)=rv uT v:=((aO (by decide)).trans k5).trans L4.symm;generalize a3.put (some 6) (.pointer (some ⟨uT w1.heap.size,0,none⟩))=a4 at *;have aaY:prog.globals.size≤w1.heap.size:=by omega
  refine aj.storeT ma (ops:=g8 f43) (i:=2) (rest:=[]) rfl rfl (by decide) (dd:=none) rfl (s:=6) (t:=13) (by decide) rfl (c:=eH ⟨0,0,0,[],0,0,0⟩) (c':=eH t) (wO _) rfl (LR _) LU k6 (by rw[k13];exact(fc _ _).symm) (fc _ _) aaY ?_;intro w2 vW W3 aaR e2 Sw Kg;rw[vT];have hs2:w2.heap.size=w1.heap.size:=by rw[e2]
  have hr2:vW w2.heap.size=uT w1.heap.size:=by rw[hs2];exact Kg.agree _ (by rw[bX];omega)
  have hv2:rv vW v=rv uT v:=KP.agree (λr hr=>Kg.agree r (by rw[bX];omega)) (Aa LU.uu Sw.uu);have KQ:Cl prog Sc w2 v:=by unfold Cl at KP ⊢;rw[hs2];exact KP
  have hrow2:w2.ownsRow prog.globals.size 131 7 v xs.length (xs.flatMap λt=>(eH t).toList):=by unfold World.ownsRow at Sy ⊢;rw[e2];exact Sy
  rw[←hr2]at k6;rw[←hv2]at k5;have aaZ:prog.globals.size≤w2.heap.size:=by omega
  refine aj.silent rfl (λ_=>stepG_region_end) ?_;refine aj.silent rfl (λ_=>stepG_region) ?_;refine aj.mv (ops:=g9 f43) (i:=0) (rest:=[1,2,3,4]) rfl rfl (by decide) (dd:=some 14) rfl (.inl rfl) k5 ?_;have WE:=hg4.put (t:=14) (v:=rv vW v) (by decide) (by decide) (by decide) (by decide);have T3:(a4.put (some 14) (rv vW v)).eval (.tmp 14)=rv vW v:=bk (by rw[hg4.size];decide);replace k6:(a4.put (some 14) (rv vW v)).eval (.tmp 6)=.pointer (some ⟨vW w2.heap.size,0,none⟩):=(aO (by decide)).trans k6;generalize a4.put (some 14) (rv vW v)=a5 at *;refine aj.loadT ma (ops:=g9 f43) (i:=1) (rest:=[2,3,4]) rfl rfl (by decide) (dd:=some 15) rfl (s:=6) rfl underlying131 rfl (wO _) Sw k6 aaZ ?_;intro w3 LV W4 aaS e3 O4 Yi;have hs3:w3.heap.size=w2.heap.size:=by rw[e3]
  have hv3:rv LV v=rv vW v:=KQ.agree (λr hr=>Yi.agree r (by rw[bX];omega)) (Aa Sw.uu O4.uu);have T4:Cl prog Sc w3 v:=by unfold Cl at KQ ⊢;rw[hs3];exact KQ
  have hrow3:w3.ownsRow prog.globals.size 131 7 v xs.length (xs.flatMap λt=>(eH t).toList):=by unfold World.ownsRow at hrow2 ⊢;rw[e3];exact hrow2
  rw[←hv3]at T3;have acG:prog.globals.size≤w3.heap.size:=by omega
  rw[show rv LV (.agg (eH t))=cn t from fc _ _];have hg6:=WE.put (t:=15) (v:=cn t) (by decide) (by decide) (by decide) (by decide);have k15:(a5.put (some 15) (cn t)).eval (.tmp 15)=cn t:=bk (by rw[WE.size];decide);replace T3:(a5.put (some 15) (cn t)).eval (.tmp 14)=rv LV v:=(aO (by decide)).trans T3;generalize a5.put (some 15) (cn t)=a6 at *;have hrow4:(w3.alloc (.cells (eH t) 131)).ownsRow prog.globals.size 131 7 v xs.length (xs.flatMap λt=>(eH t).toList):=hrow3.alloc _;have T5:Cl prog Sc (w3.alloc (.cells (eH t) 131)) v:=T4.mono (by rw[bX];omega);have aa0:prog.globals.size≤(w3.alloc (.cells (eH t) 131)).heap.size:=by rw[bX];omega
  generalize w3.alloc (.cells (eH t) 131)=w4 at O4 hrow4 T5 aa0;refine aj.KY ma (ops:=g9 f43) (i:=2) (rest:=[3,4]) (by rw[show(g9 f43)[2].op=.buildSlice 85 1 #[(0,.tmp 15)] from rfl];simp[eN,gL]) rfl rfl (by decide) (T:=λ_=>cn t) (λ_=>fc _ _) O4 ?_ (v:=λw₀=> .slice (some ⟨w₀.heap.size,0,none⟩) 1 1) (o':=λw₀=>w₀.alloc (.cells (eH t) 131)) ?_ ?_
  ·have hop:(g9 f43)[2].op=.buildSlice 85 1 #[(0,.tmp 15)]:=rfl;unfold execOp;rw[hop];simp only[zbe,zao,zaG,fE,k15,fc t LV]
  ·intro τ d;have hop:(g9 f43)[2].op=.buildSlice 85 1 #[(0,.tmp 15)]:=rfl;unfold execOp;simp only[hop,zbe,zao,zaG,fE,Sem.run_bind,O7,Result.andThen_ok,Sem.run_pure]
  intro w5 GQ W5 aaU e5 O6 hO5 Yo;have hs5:w5.heap.size=w4.heap.size:=by rw[e5]
  have hv5:rv GQ v=rv LV v:=T5.agree hO5.agree (Aa O4.uu O6.uu);have SB:(w5.alloc (.cells (eH t) 131)).ownsRow prog.globals.size 131 7 v xs.length (xs.flatMap λt=>(eH t).toList):=by
   refine World.ownsRow.alloc ?_ _;unfold World.ownsRow at hrow4 ⊢;rw[e5];exact hrow4
  have Yp:Cl prog Sc (w5.alloc (.cells (eH t) 131)) v:=T5.mono (by rw[bX];omega);rw[←hv5]at T3;change aj _ _ _ _ _ (G ((base 43).at (a6.put (some 16) (rv GQ (.slice (some ⟨w5.heap.size,0,none⟩) 1 1))) _) _) _;have hg7:=hg6.put (t:=16) (v:=rv GQ (.slice (some ⟨w5.heap.size,0,none⟩) 1 1)) (by decide) (by decide) (by decide) (by decide);have k16:(a6.put (some 16) (rv GQ (.slice (some ⟨w5.heap.size,0,none⟩) 1 1))).eval (.tmp 16)=rv GQ (.slice (some ⟨w5.heap.size,0,none⟩) 1 1):=bk (by rw[hg6.size];decide);replace T3:(a6.put (some 16) (rv GQ (.slice (some ⟨w5.heap.size,0,none⟩) 1 1))).eval (.tmp 14)=rv GQ v:=(aO (by decide)).trans T3;generalize a6.put (some 16) (rv GQ (.slice (some ⟨w5.heap.size,0,none⟩) 1 1))=a7 at *;have wP:(w5.alloc (.cells (eH t) 131)).heap[w5.heap.size]?=some (.cells (eH t) 131):=by
   show(w5.heap.push _)[w5.heap.size]?=_;simp
  have Yq:prog.globals.size≤(w5.alloc (.cells (eH t) 131)).heap.size:=by rw[bX];omega
  generalize tP:w5.heap.size=r0 at *;generalize w5.alloc (.cells (eH t) 131)=w6 at O6 SB Yp wP Yo Yq;have acv:xs.length+(ts.length+1)≤1000000:=by simpa using hlen
  refine aj.BP ma (ops:=g9 f43) (i:=3) (rest:=[4]) (by rw[show(g9 f43)[3].op=.call { callee:= .builtin .append,args:=#[.tmp 14,.tmp 16],argTypes:=#[85,85] } from rfl];simp[eN,gL,oP]) rfl rfl (by decide) (T:=λs=>if s=14 then v else .slice (some ⟨r0,0,none⟩) 1 1) (λs=>?_) O6.uu O6.Sg ?_ (Q:=λv' w'=>w'.ownsRow prog.globals.size 131 7 v' (xs.length+1) (xs.flatMap (λt=>(eH t).toList)++(eH t).toList)) (λτ d=>?_) ?_ O6.hold
  ·by_cases h:s=14
   ·simp only[h,if_true];exact Yp
   ·simp only[h,if_false];exact Yo
  ·have hop:(g9 f43)[3].op=.call { callee:= .builtin .append,args:=#[.tmp 14,.tmp 16],argTypes:=#[85,85] }:=rfl;unfold execOp;simp only[hop,resolve,zbe,zao,zaG,fE,T3,k16,if_true,show ¬(16=14) by decide,if_false]
  ·exact L3 (x:= .tmp 14) (y:= .tmp 16) rfl (w:=w6.re τ d) SB Yq (by omega) wP rfl rfl
  intro v' w' ρ' W' own' hq Gn _ _ hc' ht' _ _ hH';change aj _ _ _ _ _ (G ((base 43).at (a7.put (some 17) (rv ρ' v')) _) _) _;have hg8:=hg7.put (t:=17) (v:=rv ρ' v') (by decide) (by decide) (by decide) (by decide);have k17:(a7.put (some 17) (rv ρ' v')).eval (.tmp 17)=rv ρ' v':=bk (by rw[hg7.size];decide);generalize a7.put (some 17) (rv ρ' v')=a8 at *;refine aj.mv (ops:=g9 f43) (i:=4) (rest:=[]) rfl rfl (by decide) (dd:=some 5) rfl (.inr rfl) k17 ?_;have hg9:=hg8.put (t:=5) (v:=rv ρ' v') (by decide) (by decide) (by decide) (by decide);have Yr:(a8.put (some 5) (rv ρ' v')).eval (.tmp 5)=rv ρ' v':=bk (by rw[hg8.size];decide);generalize a8.put (some 5) (rv ρ' v')=a9 at *;refine aj.silent rfl (λ_=>stepG_region_end) ?_;refine aj.silent rfl (λ_=>stepG_inBlock) ?_;refine aj.silent rfl (λ_=>stepG_inLoop) ?_;have Wv:GR ro X Y Wg ch (xs++[t]) own' a9 W':=⟨hg9,ρ',w',v',⟨Gn,ht',hH'⟩,Yr,hc',by rw[O9];simpa using hq⟩;have:=ih (xs++[t]) own' a9 W' Wv (by simp;omega) (by simpa using hF);rw[cN]at this;exact this
end Go.Ren
