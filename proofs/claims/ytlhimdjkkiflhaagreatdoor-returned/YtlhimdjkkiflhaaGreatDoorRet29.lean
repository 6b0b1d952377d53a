import Derived.Conc.FxGenDone
import Derived.Conc.FxGenWait
import Derived.Conc.FxGenLone
import Derived.Conc.BesideWords
import Derived.Deep.DeepAppendWide
import Derived.Test.YtlhimdjkkiflhaaGreatDoorRet09
import Derived.Test.YtlhimdjkkiflhaaGreatDoorRet14
set_option maxHeartbeats 8000000
set_option maxRecDepth 100000
open Go.Value renaming int→Γ
open Go.IntKind renaming i64→Δ
open Go renaming undef→Θ,World→Λ,Value→Ξ,execOp→Φ,Frame→ζ,FuncId→η,Goroutine→θ,TypeId→ξ,stepG→π,Operand→υ,zeroValue→φ,typeInfo→χ,Calls→ψ
open Go.Instr renaming loadAt→Ω,sureAddr→ι
open Go.Act renaming eval→ω
namespace Go.Ren
open Go.Proofs.Tryz
open Go Go.Proofs Go.Conc.Lib
abbrev cI:WgLink:={ add:=68,done:=70,wait:=72,relMerge:=107,disable:=108,enable:=109,inBubble:=110,associate:=111,fatal:=112,uOr:=113,uAdd:=114,raceRead:=115,uLoad:=116,uStore:=117,disassociate:=118,semrelease:=119,acquire:=122,isAssociated:=123,uCas:=124,raceWrite:=125,semacquire:=126,orU64:=164,addU64:=165,loadU64:=166,storeU64:=167,casU64:=173,tWgP:=194,tUP:=196,tAssoc:=197,tWg:=142,tAU:=139,tU64:=137,tUint:=200,tU32:=140,tPU32:=201,tPAU:=240,tPU64:=242,tNoCopy:=134,tANoCopy:=135,tAlign64:=136 }
theorem O0:prog.funcs[68]?=some (addFn cI):=by kernel_rfl
theorem J8:prog.funcs[70]?=some (doneFn cI):=by kernel_rfl
theorem J9:prog.funcs[72]?=some (waitFn cI):=by kernel_rfl
theorem wgz:WgLib prog cI:=by
 refine⟨O0,J8,J9,?_,?_,?_,?_,?_,?_,?_,?_,?_,?_,?_,?_,?_,?_,?_,?_,?_,?_,?_,?_,?_,?_,?_,
  ?_,?_,?_,?_,?_,?_,?_,?_,?_,?_,?_,?_,?_,?_,?_,?_,?_,?_,?_,?_,?_,?_,?_,?_,?_,?_,?_,?_,?_,?_,?_,?_,?_,?_,?_,?_,?_,?_,?_,?_,?_,?_,?_,?_,?_,?_,?_,?_,?_,?_,?_,?_,?_,?_,?_,?_,?_,?_,?_,?_,?_,?_,?_,?_,?_,?_,?_,?_,?_,?_,?_,?_,?_,?_,?_,?_,?_,?_,?_,?_,?_,?_,?_,?_,?_,?_,?_⟩
 all_goals first
  |kernel_rfl
  |(intro w;kernel_rfl)
end Go.Ren
namespace Go.Ren
open Go.Proofs.Tryz
open Go Go.Proofs
theorem O8:prog.globals.size=4:=by kernel_rfl
def Lc:List Nat:=[44,63,73,74,75,76,120,121,127,128,147,148,149,150,151,152,168,169,170,171,172,174,186,187,188,189,191,197,198,199,200,201,202,214,215,223,224,225,226,227,243,247,248,249,250,251]
def Fc:η→Bool:=λf=>Lc.any (·==f)
def Sc:Sd:=⟨λf=>f==149||f==187||f==186,4,4⟩
def Lz:List Nat:=[17,19,21,22,24,26,27,28,29,30,38,39,40,41,42,44,45,46,47,48,60,61,62,63,64,65,66,67,73,74,75,76,77,78,79,80,81,82,83,95,96,97,98,99,100,101,102,103,104,105,106,127,128,129,130,147,148,149,150,151,152,153,154,155,156,157,158,159,160,161,162,163,174,175,176,177,178,179,180,186,187,188,189,190,191,192,193,194,195,196,202,203,204,205,214,215,216,217,218,219,220,221,222,228,229,230,231,232,238,239,240,241,242,244,245,246]
def Fz:η→Bool:=λf=>Lz.any (·==f)
def Sz:Sd:=⟨λf=>f==149||f==187||f==186,0,4⟩
instance afd:Shut prog Sc:=⟨O8.symm,by rw[O8];exact zac _⟩
theorem TV:Two prog Sz Sc:=⟨O8.symm,by rw[O8];decide,λ_ h=>h⟩
def Qz (F:η→Bool)(S:Sd)(f:η):Prop:=JI prog S f∧∀fn c,prog.funcs[f]?=some fn→fn.body=some c→bB prog F S c=true
def qB (P:Program)(F:η→Bool)(S:Sd):Option Func→Bool
 |some g=>!(g.name== "runtime.NumGoroutine")&&(match g.body with|some c=>bB P F S c|none=>false)
 |none=>false
theorem WH {F:η→Bool}{S:Sd}{f:η}(h:qB prog F S prog.funcs[f]?=true):Qz F S f:=by
 cases hg:prog.funcs[f]? with
 |none=>rw[hg]at h;cases h
 |some g=>
  rw[hg]at h;simp only[qB,zae,Bool.not_eq_true']at h;obtain⟨hn,hc⟩:=h;cases hb:g.body with
  |none=>rw[hb]at hc;cases hc
  |some c0=>
   rw[hb]at hc;refine⟨⟨g,hg,hn,.inl (by rw[hb];rfl)⟩,λfn c h1 h2=>?_⟩;rw[hg]at h1;cases h1;rw[hb]at h2;cases h2;exact hc
theorem xZ {F:η→Bool}{S:Sd}{f:η}{g:Func}{e:Array Ξ→Sem Ξ}(h:prog.funcs[f]?=some g)(hn:(g.name== "runtime.NumGoroutine")=false)(hb:g.body.isNone=true)(hx:Extern.findNext g=none)(hf:Extern.find g=some e)(he:∀(ρ:Rn) (args:Array Ξ),rV S ρ→ae prog ρ (VV ρ) (e args) (e (args.map (rv ρ)))):Qz F S f:=by
 refine⟨⟨g,h,hn,.inr ⟨hb,hx,e,hf,λρ args _ hfx=>he ρ args hfx⟩⟩,λfn c h1 h2=>?_⟩;rw[h]at h1;cases h1;rw[h2]at hb;cases hb
theorem aaC:Qz Fc Sc 202:=xZ (g:=f202) (e:=Extern.BytealgIndexByte.indexByte) (by kernel_rfl) (by kernel_rfl) (by kernel_rfl) (by kernel_rfl) (by kernel_rfl) λ_ args hx=>uW args
theorem aaD:Qz Fc Sc 215:=xZ (g:=f215) (e:=Extern.AbiNoEscape.same) (by kernel_rfl) (by kernel_rfl) (by kernel_rfl) (by kernel_rfl) (by kernel_rfl) λ_ args hx=>O4 args
theorem aaE:Qz Fc Sc 248:=xZ (g:=f248) (e:=Extern.BytealgIndex.index) (by kernel_rfl) (by kernel_rfl) (by kernel_rfl) (by kernel_rfl) (by kernel_rfl) λ_ args hx=>O6 (λg hg=>hx.l g (by rw[O8]at hg;exact hg)) args
theorem aaF:Qz Fz Sz 202:=xZ (g:=f202) (e:=Extern.BytealgIndexByte.indexByte) (by kernel_rfl) (by kernel_rfl) (by kernel_rfl) (by kernel_rfl) (by kernel_rfl) λ_ args hx=>uW args
theorem aaG:Qz Fz Sz 215:=xZ (g:=f215) (e:=Extern.AbiNoEscape.same) (by kernel_rfl) (by kernel_rfl) (by kernel_rfl) (by kernel_rfl) (by kernel_rfl) λ_ args hx=>O4 args
theorem WI:prog.types.toList.all tyB=true:=by kernel_rfl
theorem acY:(Lc.all λf=>f==202||f==215||f==248||qB prog Fc Sc prog.funcs[f]?)=true:=by kernel_rfl
theorem WJ (f:Nat)(hf:f∈Lc):Qz Fc Sc f:=by
 have h:=zaC.1 acY f hf;by_cases O9:f=202
 ·subst O9;exact aaC
 by_cases Pa:f=215
 ·subst Pa;exact aaD
 by_cases aaH:f=248
 ·subst aaH;exact aaE
 simp only[beq_eq_false_iff_ne.2 O9,beq_eq_false_iff_ne.2 Pa,beq_eq_false_iff_ne.2 aaH,Bool.false_or]at h;exact WH h
theorem WK {f:η}(h:Fc f=true):f∈Lc:=by
 unfold Fc at h;rw[List.any_eq_true]at h;obtain⟨x,hx,e⟩:=h;rw[←(beq_iff_eq.1 e)];exact hx
theorem mm:lp prog Fc Sc:=by
 refine⟨λg hg=>?_,λf hf=>(WJ f (WK hf)).1,λf fn c hf h1 h2=>(WJ f (WK hf)).2 fn c h1 h2,Kb WI⟩;have tK:(g==149||g==187||g==186)=true:=hg;simp only[Bool.or_eq_true,zaJ]at tK;rcases tK with(rfl|rfl)|rfl<;>rfl
theorem acZ:(Lz.all λf=>f==202||f==215||qB prog Fz Sz prog.funcs[f]?)=true:=by kernel_rfl
theorem WM (f:Nat)(hf:f∈Lz):Qz Fz Sz f:=by
 have h:=zaC.1 acZ f hf;by_cases O9:f=202
 ·subst O9;exact aaF
 by_cases Pa:f=215
 ·subst Pa;exact aaG
 simp only[beq_eq_false_iff_ne.2 O9,beq_eq_false_iff_ne.2 Pa,Bool.false_or]at h;exact WH h
theorem WN {f:η}(h:Fz f=true):f∈Lz:=by
 unfold Fz at h;rw[List.any_eq_true]at h;obtain⟨x,hx,e⟩:=h;rw[←(beq_iff_eq.1 e)];exact hx
theorem dS:lp prog Fz Sz:=by
 refine⟨λg hg=>?_,λf hf=>(WM f (WN hf)).1,λf fn c hf h1 h2=>(WM f (WN hf)).2 fn c h1 h2,Kb WI⟩;have tK:(g==149||g==187||g==186)=true:=hg;simp only[Bool.or_eq_true,zaJ]at tK;rcases tK with(rfl|rfl)|rfl<;>rfl
end Go.Ren
set_option linter.unusedSectionVars false
namespace Go.Ren
open Go.Proofs.Tryz
open Go Go.Conc Go.ConcX Go.RowKit Go.Conc.Lib Go.ConcX.Gen Go.Proofs
theorem aaI:prog.funcs[71]?=some f71:=by kernel_rfl
def Pb:ζ:=baseD 69
def sD (n:Nat):ζ:={ (default:ζ)with fn:=n,defers:=[],mode:= .panicking [goexitEntry] }
theorem H8 (T:Array Ξ):QuitsD prog 2 0 (G { Pb.at ⟨T,[]⟩ []with mode:= .returning } [(sD prog.funcs.size)]):=by
 refine QuitsD.ctl (g':=G (sD prog.funcs.size) []) rfl (λw=>?_) ?_
 ·simp[G,π,unwind,doReturn,results,ζ.at,Pb,baseD,sD,f69,seen,GStep.after,goexitEntry]
 refine QuitsD.ctl (g':={ G (sD prog.funcs.size) []with status:= .finished }) rfl (λw=>?_) ⟨rfl,rfl⟩;simp[G,π,unwind,sD,goexitEntry,ζ.catches];rfl
def yc (f:Func):Array Oper:=match f.body with|some (.seq _ (.region _ ops _))=>ops|_=>#[]
theorem EO [Payload] {Wg C Low:Nat} [Shy Wg C] {vals:List Ξ}(hW:Wg<Low)(hC:C<Low)(hCW:C≠Wg)(T T':Array Ξ)(todo:List Item)(w:Λ)(hF:KCa cI.tWg Wg w∧Full C vals w):Goes prog false (RCa cI.tWg Wg Low) (DCs kQ Wg C) (AtR0 prog cI.tWg Wg C Low vals) (4+23)
  (G { (base 71).at ⟨T',[]⟩ todo with mode:= .returning } [Pb.at ⟨T,[dcall 70 #[.pointer (some ⟨Wg,0,none⟩)]]⟩ [.inRegion (yc f69) [2]],(sD prog.funcs.size)]) w:=by
 u_leave0 aaI (ka_rely hC hCW) hF
 u_c zaX (ka_rely hC hCW) hF
 u_c stepG_end (ka_rely hC hCW) hF
 u_in (ka_rely hC hCW) hF
 rw[stepG_unwind_enter rfl J8 (nm_done cI) rfl];simp only[goes_go];refine⟨by u_nil,?_⟩;have hA:=@doneD _ cI prog wgz kQ Wg C Low _ vals hW hC hCW;exact hA rfl (H8 _) _ hF
theorem Pc:(prog.funcs[71]?).any (·.norace)=false:=by kernel_rfl
theorem Av {Wg Low ch:Nat}{x y:uh Wg Low}{own:Nat→Prop}(TW:x.C≠ch)(LQ:y.C≠ch)(T T':Array Ξ)(todo:List Item)(ty rt:ξ)(bs:Array Bool)(w:Λ)
 (hx:w.heap[x.C]?=some (.cells x.vals.toArray x.pl.ety))(hy:w.heap[y.C]?=some (.cells y.vals.toArray y.pl.ety)):
 xP prog ch (LO prog cI.tWg x y) own (G { (base 71).at ⟨T',[fW (.chan (some ch)) ty rt bs]⟩ todo with mode:= .returning } [Pb.at ⟨T,[dcall 70 #[.pointer (some ⟨Wg,0,none⟩)]]⟩ [.inRegion (yc f69) [2]],(sD prog.funcs.size)]) w:=by
 refine⟨rfl,rfl,G { (base 71).at ⟨T',[]⟩ todo with mode:= .returning } [Pb.at ⟨T,[dcall 70 #[.pointer (some ⟨Wg,0,none⟩)]]⟩ [.inRegion (yc f69) [2]],(sD prog.funcs.size)],rfl,λs r tm hc=>⟨rb rfl hc Pc,λHm=>⟨?_,?_⟩⟩⟩
 ·exact⟨_,@EO x.pl Wg x.C Low (ml Wg x.C Low nV x.hW x.hC) x.vals x.hW x.hC x.hCW T T' todo _ ⟨.inl Hm,λ_=>(kP TW).trans hx⟩⟩
 ·exact⟨_,@EO y.pl Wg y.C Low (ml Wg y.C Low nV y.hW y.hC) y.vals y.hW y.hC y.hCW T T' todo _ ⟨.inl Hm,λ_=>(kP LQ).trans hy⟩⟩
theorem Pd {Wg Low ch:Nat}{x y:uh Wg Low}{ro own:Nat→Prop}(TW:x.C≠ch)(LQ:y.C≠ch)(Aw:ro x.C)(EP:ro y.C)(T T':Array Ξ)(k:List Item)(ty rt:ξ)(bs:Array Bool)(w:Λ)
 (hx:w.heap[x.C]?=some (.cells x.vals.toArray x.pl.ety))(hy:w.heap[y.C]?=some (.cells y.vals.toArray y.pl.ety)):
 jU prog ro ch (LO prog cI.tWg x y) [] own (G ((base 71).at ⟨T',[fW (.chan (some ch)) ty rt bs]⟩ (.code .ret::k)) [Pb.at ⟨T,[dcall 70 #[.pointer (some ⟨Wg,0,none⟩)]]⟩ [.inRegion (yc f69) [2]],(sD prog.funcs.size)]) w:=
 af.silent rfl (λ_=>stepG_ret') (.stop λw₁ hr=>Av TW LQ T T' _ ty rt bs w₁ ((hr.block _ (.inr Aw)).trans hx) ((hr.block _ (.inr EP)).trans hy))
end Go.Ren
set_option linter.unusedSectionVars false
namespace Go.Ren
open Go.Proofs.Tryz
open Go Go.Conc Go.ConcX Go.RowKit Go.Conc.Lib Go.ConcX.Gen Go.Proofs Go.Loop
def eH (t:Tok):Array Ξ:=#[Γ Δ t.kind,Γ Δ t.from_,Γ Δ t.gw,.string ⟨⟨t.text⟩⟩,Γ Δ t.n,Γ Δ t.d,Γ Δ t.fault]
def cg (t:Tok):Ξ:= .agg (eH t)
theorem fc (t:Tok):gq (cg t):=oD λx hx=>by
 simp only[eH,zca,zal,zcb,or_false]at hx;rcases hx with rfl|rfl|rfl|rfl|rfl|rfl|rfl<;>intro ρ<;>simp[rv]
theorem Pf (s:ByteArray):gq (.string s):=λρ=>by simp[rv]
theorem EY (k:IntKind)(n:Int):gq (.int k n):=λρ=>by simp[rv]
theorem LV (t:Bool):gq (.bool t):=λρ=>by simp[rv]
theorem rh:(prog.info? 131).map (λi=>(i.size,i.zero))=some (7,some (cg ⟨0,0,0,[],0,0,0⟩)):=by kernel_rfl
theorem yf (t:Tok):(prog.info? 131).map (·.size)=some (eH t).size:=by
 obtain⟨i,hi,he⟩:=zas.1 rh;simp only[zaf]at he;rw[hi];simp[he.1,eH]
theorem Pg (t:Tok):(eH t).all (·.oneCell')=true:=by simp[eH,Ξ.oneCell']
theorem TX (w:Λ)(r:Nat):(Instr.fieldAt 131 (.pointer (some ⟨r,0,none⟩)) 2).run prog w=.ok (.pointer (some ⟨r,2,none⟩)) w:=by
 simp[go_sem,Instr.fieldAt,ι,fieldPlace,Addr.add]
theorem aaJ (w:Λ)(a:Addr){v:Ξ}(h:w.cell? a=some v):(Ω 3 (.pointer (some a))).run prog w=.ok v w:=by
 simp[go_sem,Ω,ι,loadVar,isAgg,h]
theorem ac0:Fc 120=true:=by kernel_rfl
theorem ac1:Fc 121=true:=by kernel_rfl
def bM:Code→Code|.seq _ c=>c|_=> .skip
def cj:Code→Code|.seq c _=>c|_=> .skip
def TY:Code→Code|.block _ c=>c|_=> .skip
def aaK:Code→Code|.loop c=>c|_=> .skip
def bz:Code→Array Oper|.region _ o _=>o|_=>#[]
def EZ (f:Func):Code:=aaK (TY (bM (bM (f.body.getD .skip))))
def inS (f:Func):Code:=TY (EZ f)
def r2 (f:Func):Array Oper:=bz (cj (inS f))
def in3 (f:Func):Code:=bM (inS f)
def r3 (f:Func):Array Oper:=bz (cj (in3 f))
def Yi (f:Func):Code:=bM (in3 f)
def r4 (f:Func):Array Oper:=bz (cj (cj (Yi f)))
def c4 (f:Func):Code:=bM (cj (Yi f))
def r5 (f:Func):Array Oper:=bz (bM (Yi f))
def kS (f:Func):List Item:=[.inBlock 1,.inLoop (EZ f),.inBlock 0]
variable {Wg Low ch:Nat}{x y:uh Wg Low}{ro own:Nat→Prop}
def csF (n:Nat)(f:Func)(Wg:Nat)(T:Array Ξ):List ζ:=[Pb.at ⟨T,[dcall 70 #[.pointer (some ⟨Wg,0,none⟩)]]⟩ [.inRegion (yc f) [2]],sD n]
structure SA (a:Act) (ch:Nat) (s:List UInt8) (n:Nat) (ty rt:ξ) (bs:Array Bool):Prop where
 size:a.tmps.size=16
 txt:a.eval (.tmp 0)=.string ⟨⟨s⟩⟩
 chan:a.eval (.tmp 1)=.chan (some ch)
 here:a.eval (.tmp 4)=Γ Δ n
 defers:a.defers=[fW (.chan (some ch)) ty rt bs]
theorem SA.put {a:Act}{s:List UInt8}{n:Nat}{ty rt:ξ}{bs:Array Bool}(h:SA a ch s n ty rt bs){t:Tmp}{v:Ξ}(h0:t≠0)(h1:t≠1)(h4:t≠4):SA (a.put (some t) v) ch s n ty rt bs:=
 ⟨by rw[size_put];exact h.size,by rw[aN h0];exact h.txt,by rw[aN h1];exact h.chan,by rw[aN h4];exact h.here,by rw[cP];exact h.defers⟩
def Hx (x y:uh Wg Low)(W:Λ):Prop:=W.heap[x.C]?=some (.cells x.vals.toArray x.pl.ety)∧W.heap[y.C]?=some (.cells y.vals.toArray y.pl.ety)
theorem Hx.on {W W':Λ}(h:Hx x y W)(hx:ro x.C)(hy:ro y.C)(h':∀b,ro b→W'.heap[b]?=W.heap[b]?):Hx x y W':=⟨(h' _ hx).trans h.1,(h' _ hy).trans h.2⟩
section
variable (TW:x.C≠ch)(LQ:y.C≠ch)(Aw:ro x.C)(EP:ro y.C){s:List UInt8}{T:Array Ξ}{ty rt:ξ}{bs:Array Bool}
 (hN:∀(n:Nat) (w:Λ),n≤s.length→ψ prog 120 #[.string ⟨⟨s⟩⟩,Γ Δ n] w λe _=>∃v,e=.returned v∧v=cg (aR s n))
 (hL:∀(t:Tok) (w:Λ),ψ prog 121 #[cg t] w λe _=>∃v,e=.returned v∧v=.bool t.lastB)
theorem jI {main:Bool}{b:ζ}{a:Act}{ops:Array Oper}{i:Nat}{rest:List Nat}{o:Oper}{kk:List Item}{cs:List ζ}{w:Λ}(ho:ops[i]?=some o)(hw:Region.wanted o (yielded ops a.tmps)=true)(hk:b.kind≠.early){f:η}{xs:Array υ}{ats:Array ξ}{args:Array Ξ}(hop:o.op=.call { callee:= .value (.func f),args:=xs,argTypes:=ats })(ha:xs.map a.eval=args)(vL:((prog.funcs[f]?).any λfn=>fn.body.isSome)=true:=by kernel_rfl)(OG:((prog.funcs[f]?).any λfn=>fn.name== "runtime.NumGoroutine")=false:=by kernel_rfl):π prog main (G (b.at a (.inRegion ops (i::rest)::kk)) cs) w=.go (G (ζ.enter prog f args .normal) (b.at a (.inRegion ops (i::rest)::kk)::cs)) w #[]:=by
 subst ha;cases hf:prog.funcs[f]? with
 |none=>rw[hf]at vL;simp at vL
 |some fn=>
  rw[hf]at vL OG;simp only[Option.any_some]at vL OG;obtain⟨cc,hcc⟩:=zcc.1 vL;have hne:¬fn.name= "runtime.NumGoroutine" :=by simpa using OG
  have hr:(Φ a.eval o).run prog w=.ok (.enter f (xs.map a.eval)) w:=by
   unfold Φ;simp[hop,resolve,invoke,callFunc,hf,hcc,hne,ω,Deferred.ofValue,go_sem]
  have he:(Φ a.eval o).events prog w #[]=#[]:=by
   unfold Φ;simp[hop,resolve,invoke,callFunc,hf,hcc,hne,ω,Deferred.ofValue,go_sem]
  rw[stepG_enter ho hw hk hr,listed_none he]
theorem ac2 (w:Λ):prog.globals.size≤(Hl prog w).heap.size:=by rw[oy];exact zac _
include TW LQ Aw EP hN hL in
theorem LW (m:Nat):∀(n:Nat) (a:Act) (W:Λ) (own:Nat→Prop),n≤s.length→s.length-n<m→SA a ch s n ty rt bs→qc ro own W→prog.globals.size≤W.heap.size→Hx x y W→jU prog ro ch (LO prog cI.tWg x y) ((aw m s n).map cg) own (G ((base 71).at a [.code (EZ f71),.inLoop (EZ f71),.inBlock 0]) (csF prog.funcs.size f69 Wg T)) W:=by
 induction m with
 |zero=>intro n a W own _ h;omega
 |succ m ih=>
  intro n a W own hn hm hS hH hb hP;obtain⟨rest,hgp,Bw⟩:∃rest,(aw (m+1) s n).map cg=cg (aR s n)::rest∧rest=if(aR s n).lastB then[]else(aw m s (aR s n).gw).map cg:=by
   refine⟨_,?_,rfl⟩;rw[aw];split<;>simp
  rw[hgp,dR];refine af.silent rfl (λ_=>stepG_block (id:=1) (c:=inS f71)) ?_;refine af.silent rfl (λ_=>zaV (x:= .region 2 (r2 f71) false) (y:=in3 f71)) ?_;refine af.silent rfl (λ_=>zaW) ?_;refine af.mv (ops:=r2 f71) (i:=0) (rest:=[1,2,3,4]) rfl rfl (by decide) (dd:=some 7) rfl (.inl rfl) hS.txt ?_;have hS1:=hS.put (t:=7) (v:= .string ⟨⟨s⟩⟩) (by decide) (by decide) (by decide);have h7:(a.put (some 7) (.string ⟨⟨s⟩⟩)).eval (.tmp 7)=.string ⟨⟨s⟩⟩:=bn (by rw[hS.size];decide);generalize a.put (some 7) (.string ⟨⟨s⟩⟩)=a1 at *;refine af.mv (ops:=r2 f71) (i:=1) (rest:=[2,3,4]) rfl rfl (by decide) (dd:=some 8) rfl (.inl rfl) hS1.here ?_;have Oq:=hS1.put (t:=8) (v:= Γ Δ n) (by decide) (by decide) (by decide);have h8:(a1.put (some 8) (Γ Δ n)).eval (.tmp 8)=Γ Δ n:=bn (by rw[hS1.size];decide);have h7':(a1.put (some 8) (Γ Δ n)).eval (.tmp 7)=.string ⟨⟨s⟩⟩:=(aN (by decide)).trans h7;generalize a1.put (some 8) (Γ Δ n)=a2 at *;refine af.call' mm (cs:=csF prog.funcs.size f69 Wg T) (f:=120) (args:=#[.string ⟨⟨s⟩⟩,Γ Δ n]) ac0 (λv hv=>?_) (Qv:=λv=>v=cg (aR s n)) (λv hv=>hv▸fc _) (c:=(base 71).at a2 (.inRegion (r2 f71) [2,3,4]::.code (in3 f71)::kS f71)) rfl (λw₁=>?_) hb hH (λw' _=>hN n w' hn) ?_
  ·simp only[zca,zal,zcb,or_false]at hv;rcases hv with rfl|rfl
   ·exact Pf _
   ·exact EY _ _
  ·exact jI (ops:=r2 f71) (i:=2) rfl rfl (by decide) rfl (by simp[h7',h8])
  rintro _ W1 afm rfl WO hH1 ac3 ac4;rw[zcj];change af _ _ _ _ _ (G ((base 71).at (a2.put (some 9) (cg (aR s n))) _) _) _;have hS3:=Oq.put (t:=9) (v:=cg (aR s n)) (by decide) (by decide) (by decide);have h9:(a2.put (some 9) (cg (aR s n))).eval (.tmp 9)=cg (aR s n):=bn (by rw[Oq.size];decide);generalize a2.put (some 9) (cg (aR s n))=a3 at *;have hb1:prog.globals.size≤W1.heap.size:=zag hb ac4;have hP1:Hx x y W1:=hP.on Aw EP λb hb=>ac3 b (.inr hb);have hA0:=At.empty (S:=Sc) hH1 hb1;obtain⟨i76,Yj,Ph⟩:=zas.1 rh;simp only[zaf]at Ph;have hg0:=ac2 W1;generalize ek jR prog.globals.size W1.heap.size=ρ0 at hA0;generalize Hl prog W1=w0 at hA0 hg0;refine af.Ox mm (ops:=r2 f71) (i:=3) (rest:=[4]) rfl rfl (by decide) (dd:=some 5) rfl rfl Yj Ph.2 hA0 ?_;intro w1 xO W2 ac5 e1 AD yg;have hs1:w1.heap.size=w0.heap.size:=by rw[e1]
  rw[←hs1];have hS4:=hS3.put (t:=5) (v:= .pointer (some ⟨xO w1.heap.size,0,none⟩)) (by decide) (by decide) (by decide);have h5:(a3.put (some 5) (.pointer (some ⟨xO w1.heap.size,0,none⟩))).eval (.tmp 5)=.pointer (some ⟨xO w1.heap.size,0,none⟩):=bn (by rw[hS3.size];decide);have h9':(a3.put (some 5) (.pointer (some ⟨xO w1.heap.size,0,none⟩))).eval (.tmp 9)=cg (aR s n):=(aN (by decide)).trans h9;generalize a3.put (some 5) (.pointer (some ⟨xO w1.heap.size,0,none⟩))=a4 at *;have hg1:prog.globals.size≤w1.heap.size:=by omega
  refine af.storeT mm (ops:=r2 f71) (i:=4) (rest:=[]) rfl rfl (by decide) (dd:=none) rfl (s:=5) (t:=9) (by decide) rfl (c:=eH ⟨0,0,0,[],0,0,0⟩) (c':=eH (aR s n)) (yf _) rfl (Pg _) AD h5 (by rw[h9'];exact(fc _ _).symm) (fc _ _) hg1 ?_;intro w2 Hr W3 ac6 e2 hA2 WQ;rw[xI];have hs2:w2.heap.size=w1.heap.size:=by rw[e2]
  have hr2:Hr w2.heap.size=xO w1.heap.size:=by rw[hs2];exact WQ.agree _ (by rw[bV];omega)
  rw[←hr2]at h5;have hP3:Hx x y W3:=(hP1.on Aw EP yg.ro).on Aw EP WQ.ro;have hg2:prog.globals.size≤w2.heap.size:=by omega
  refine af.silent rfl (λ_=>zaX) ?_;refine af.silent rfl (λ_=>zaV (x:= .region 3 (r3 f71) false) (y:=Yi f71)) ?_;refine af.silent rfl (λ_=>zaW) ?_;refine af.mv (ops:=r3 f71) (i:=0) (rest:=[1,2]) rfl rfl (by decide) (dd:=some 10) rfl (.inl rfl) hS4.chan ?_;have hS5:=hS4.put (t:=10) (v:= .chan (some ch)) (by decide) (by decide) (by decide);have h10:(a4.put (some 10) (.chan (some ch))).eval (.tmp 10)=.chan (some ch):=bn (by rw[hS4.size];decide);have h5':(a4.put (some 10) (.chan (some ch))).eval (.tmp 5)=.pointer (some ⟨Hr w2.heap.size,0,none⟩):=(aN (by decide)).trans h5;generalize a4.put (some 10) (.chan (some ch))=a5 at *;refine af.loadT mm (ops:=r3 f71) (i:=1) (rest:=[2]) rfl rfl (by decide) (dd:=some 11) rfl (s:=5) rfl underlying131 rfl (yf _) hA2 h5' hg2 ?_;intro w3 Pj W4 ac7 e3 TZ hO3;have hs3:w3.heap.size=w2.heap.size:=by rw[e3]
  have hr3:Pj w3.heap.size=Hr w2.heap.size:=by rw[hs3];exact hO3.agree _ (by rw[bV];omega)
  rw[←hr3]at h5';have Pk:Hx x y W4:=hP3.on Aw EP hO3.ro;have hg3:prog.globals.size≤w3.heap.size:=by omega
  rw[show rv Pj (.agg (eH (aR s n)))=cg (aR s n) from fc _ _];have hS6:=hS5.put (t:=11) (v:=cg (aR s n)) (by decide) (by decide) (by decide);have h11:(a5.put (some 11) (cg (aR s n))).eval (.tmp 11)=cg (aR s n):=bn (by rw[hS5.size];decide);have ac8:(a5.put (some 11) (cg (aR s n))).eval (.tmp 10)=.chan (some ch):=(aN (by decide)).trans h10;have T1:(a5.put (some 11) (cg (aR s n))).eval (.tmp 5)=.pointer (some ⟨Pj w3.heap.size,0,none⟩):=(aN (by decide)).trans h5';generalize a5.put (some 11) (cg (aR s n))=a6 at *;refine .stop λaS hr=>?_;refine⟨rfl,.tuple #[],?_,?_⟩
  ·have hrr:(Φ a6.eval (r3 f71)[2]).run prog aS=.ok (.comm #[scase ch (cg (aR s n)) (.tuple #[])] true .send) aS:=by
    show(pure (.comm #[{ chan:=a6.eval (.tmp 10),send:=some (a6.eval (.tmp 11)),zero:= .tuple #[] }] true .send):Sem Next).run prog aS=_;rw[ac8,h11];rfl
   rw[stepG_comm (ops:=r3 f71) (i:=2) rfl rfl (by decide) hrr,listed_none rfl];rfl
  show jU _ _ _ _ _ _ (G (((base 71).at a6 (.inRegion (r3 f71) [2]::.code (Yi f71)::kS f71)).finish Θ) (csF prog.funcs.size f69 Wg T)) aS;rw[zcj];change jU _ _ _ _ _ _ (G ((base 71).at a6 (.inRegion (r3 f71) []::.code (Yi f71)::kS f71)) (csF prog.funcs.size f69 Wg T)) aS;obtain⟨hA4,hO4⟩:=TZ.rely hr;generalize ek Pj (w3.alloc (Obj.cells (eH (aR s n)) 131)).heap.size aS.heap.size=ρ4 at hA4 hO4;have hr4:ρ4 w3.heap.size=Pj w3.heap.size:=hO4.agree _ (by rw[bV];omega);rw[←hr4]at T1;have hP5:Hx x y aS:=Pk.on Aw EP hO4.ro;have j8:prog.globals.size≤aS.heap.size:=hA4.vG.qb;clear hA0 AD hA2 TZ yg WQ hO3 hO4 hP hP1 hP3 Pk;rw[dR];refine af.silent rfl (λ_=>zaX) ?_;refine af.silent rfl (λ_=>zaV (x:=cj (Yi f71)) (y:= .region 5 (r5 f71) false)) ?_;refine af.silent rfl (λ_=>zaV (x:= .region 4 (r4 f71) false) (y:=c4 f71)) ?_;refine af.silent rfl (λ_=>zaW) ?_;refine af.loadT mm (ops:=r4 f71) (i:=0) (rest:=[1]) rfl rfl (by decide) (dd:=some 12) rfl (s:=5) rfl underlying131 rfl (yf _) hA4 T1 hg3 ?_;intro w5 Kc W5 ac9 e5 T2 hO5;have hs5:w5.heap.size=w3.heap.size:=by rw[e5]
  have SN:Kc w5.heap.size=ρ4 w3.heap.size:=by rw[hs5];exact hO5.agree _ (by rw[bV];omega)
  rw[←SN]at T1;have hP6:Hx x y W5:=hP5.on Aw EP hO5.ro;have hg5:prog.globals.size≤w5.heap.size:=by omega
  rw[show rv Kc (.agg (eH (aR s n)))=cg (aR s n) from fc _ _];have hS7:=hS6.put (t:=12) (v:=cg (aR s n)) (by decide) (by decide) (by decide);have DR:(a6.put (some 12) (cg (aR s n))).eval (.tmp 12)=cg (aR s n):=bn (by rw[hS6.size];decide);have h5c:(a6.put (some 12) (cg (aR s n))).eval (.tmp 5)=.pointer (some ⟨Kc w5.heap.size,0,none⟩):=(aN (by decide)).trans T1;generalize a6.put (some 12) (cg (aR s n))=a7 at *;refine af.call' mm (cs:=csF prog.funcs.size f69 Wg T) (f:=121) (args:=#[cg (aR s n)]) ac1 (λv hv=>?_) (Qv:=λv=>v=.bool (aR s n).lastB) (λv hv=>hv▸LV _) (c:=(base 71).at a7 (.inRegion (r4 f71) [1]::.code (c4 f71)::.code (.region 5 (r5 f71) false)::kS f71)) rfl (λw₁=>?_) T2.vG.qb T2.hold (λw' _=>hL _ w') ?_
  ·simp only[zca,zal,zcb,or_false]at hv;subst hv;exact fc _
  ·exact jI (ops:=r4 f71) (i:=1) rfl rfl (by decide) rfl (by simp[DR])
  rintro _ W6 afn rfl ho6 hH6 ada aaL;rw[zcj];change af _ _ _ _ _ (G ((base 71).at (a7.put (some 13) (.bool (aR s n).lastB)) _) _) _;obtain⟨hA6,hO6⟩:=T2.call ada aaL ho6 hH6;generalize ek Kc (w5.alloc (Obj.cells (eH (aR s n)) 131)).heap.size W6.heap.size=ρ6 at hA6 hO6;have AE:ρ6 w5.heap.size=Kc w5.heap.size:=hO6.agree _ (by rw[bV];omega);rw[←AE]at h5c;have hP7:Hx x y W6:=hP6.on Aw EP hO6.ro;have hS8:=hS7.put (t:=13) (v:= .bool (aR s n).lastB) (by decide) (by decide) (by decide);have h13:(a7.put (some 13) (.bool (aR s n).lastB)).eval (.tmp 13)=.bool (aR s n).lastB:=bn (by rw[hS7.size];decide);have h5d:(a7.put (some 13) (.bool (aR s n).lastB)).eval (.tmp 5)=.pointer (some ⟨ρ6 w5.heap.size,0,none⟩):=(aN (by decide)).trans h5c;generalize a7.put (some 13) (.bool (aR s n).lastB)=a8 at *;refine af.silent rfl (λ_=>zaX) ?_;refine af.silent rfl (λ_=>stepG_cond (c:= .tmp 13) (x:= .ret) (y:= .skip) h13) ?_;by_cases oF:(aR s n).lastB=true
  ·rw[zab oF]at Bw;rw[Bw,oF,←dR];obtain⟨T8,D8⟩:=a8;have hD:D8=[fW (.chan (some ch)) ty rt bs]:=hS8.defers;subst hD;exact Pd TW LQ Aw EP T T8 _ ty rt bs W6 hP7.1 hP7.2
  have Pm:(aR s n).lastB=false:=by simpa using oF
  rw[zaa oF]at Bw;rw[Bw,Pm];refine af.silent rfl (λ_=>stepG_skip) ?_;refine af.silent rfl (λ_=>zaW) ?_;refine af.X2 mm (ops:=r5 f71) (i:=0) (rest:=[1,2]) rfl rfl (by decide) (dd:=some 14) rfl (s:=5) (j:=2) (off:=2) rfl TX hA6 h5d hg5 ?_;intro w7 ρ7 W7 afo e7 hA7 hO7;have hs7:w7.heap.size=w5.heap.size:=by rw[e7]
  rw[←hs7];have hS9:=hS8.put (t:=14) (v:= .pointer (some ⟨ρ7 w7.heap.size,2,none⟩)) (by decide) (by decide) (by decide);have rG:(a8.put (some 14) (.pointer (some ⟨ρ7 w7.heap.size,2,none⟩))).eval (.tmp 14)=.pointer (some ⟨ρ7 w7.heap.size,2,none⟩):=bn (by rw[hS8.size];decide);generalize a8.put (some 14) (.pointer (some ⟨ρ7 w7.heap.size,2,none⟩))=a9 at *;have hP8:Hx x y W7:=hP7.on Aw EP hO7.ro;refine af.aal mm (ops:=r5 f71) (i:=1) (rest:=[2]) rfl rfl (by decide) (dd:=some 15) rfl (s:=14) (off:=2) rfl (v:= Γ Δ (aR s n).gw) (λw a h=>aaJ w a h) rfl hA7 rG (by omega) ?_;intro w8 ρ8 W8 adb e8 hA8 hO8;have hP9:Hx x y W8:=hP8.on Aw EP hO8.ro;rw[EY];have Pn:=hS9.put (t:=15) (v:= Γ Δ (aR s n).gw) (by decide) (by decide) (by decide);have h15:(a9.put (some 15) (Γ Δ (aR s n).gw)).eval (.tmp 15)=Γ Δ (aR s n).gw:=bn (by rw[hS9.size];decide);generalize a9.put (some 15) (Γ Δ (aR s n).gw)=a10 at *;refine af.mv (ops:=r5 f71) (i:=2) (rest:=[]) rfl rfl (by decide) (dd:=some 4) rfl (.inr rfl) h15 ?_;have ade:SA (a10.put (some 4) (Γ Δ (aR s n).gw)) ch s (aR s n).gw ty rt bs:=⟨by rw[size_put];exact Pn.size,by rw[aN (by decide)];exact Pn.txt,by rw[aN (by decide)];exact Pn.chan,bn (by rw[Pn.size];decide),by rw[cP];exact Pn.defers⟩;generalize a10.put (some 4) (Γ Δ (aR s n).gw)=a11 at *;refine af.silent rfl (λ_=>zaX) ?_;refine af.silent rfl (λ_=>stepG_inBlock) ?_;refine af.silent rfl (λ_=>stepG_inLoop) ?_;obtain⟨f1,f2,f3⟩:=ju hn;have f4:=f3 Pm;have:=ih (aR s n).gw a11 W8 adb f2 (by omega) ade hA8.hold hA8.vG.qb hP9;rw[dR]at this;exact this
end
end Go.Ren
set_option linter.unusedSectionVars false
namespace Go.Ren
open Go.Proofs.Tryz
open Go Go.Conc Go.ConcX Go.RowKit Go.Conc.Lib Go.ConcX.Gen Go.Proofs Go.Loop
theorem Po {e:ξ}(he:e=9∨e=132)(w:Λ)(ad:Addr){v:Ξ}(h:w.cell? ad=some v):(Ω e (.pointer (some ad))).run prog w=.ok v w∧∀ev∈(Ω e (.pointer (some ad))).events prog w #[],ev.loc=.cell ad∧ev.write=false:=by
 rcases he with rfl|rfl
 ·refine⟨by simp[go_sem,Ω,ι,loadVar,isAgg,h],λev he=>?_⟩;have:(Ω 9 (.pointer (some ad))).events prog w #[]=(load ad).events prog w #[]:=by simp[go_sem,Ω,ι,loadVar,isAgg]
  rw[this]at he;exact(events_load_at w ad _ #[] h ev he).resolve_left (by simp)
 ·refine⟨by simp[go_sem,Ω,ι,loadVar,isAgg,h],λev he=>?_⟩;have:(Ω 132 (.pointer (some ad))).events prog w #[]=(load ad).events prog w #[]:=by simp[go_sem,Ω,ι,loadVar,isAgg]
  rw[this]at he;exact(events_load_at w ad _ #[] h ev he).resolve_left (by simp)
def uk (Wg X Y:Nat):Deferred:={ target:= .fn (.func 69) #[.pointer (some ⟨Wg,0,none⟩),.pointer (some ⟨X,0,none⟩),.pointer (some ⟨Y,0,none⟩)],args:=#[] }
def WT (Wg X Y:Nat):Array Ξ:=#[.pointer (some ⟨Wg,0,none⟩),.pointer (some ⟨X,0,none⟩),.pointer (some ⟨Y,0,none⟩),Θ,Θ,Θ]
def AG (f:Func):Code:=f.body.getD .skip
theorem LX (Wg X Y:Nat)(w:Λ):π prog false (born prog (uk Wg X Y)) w=.go (G (Pb.at ⟨WT Wg X Y,[]⟩ [.code (AG f69)]) [(sD prog.funcs.size)]) w #[]:=by
 simp[born,π,unwind,callDeferred,uk,invoke,callFunc,f69,GStep.after,G,ζ.enter,Pb,baseD,ζ.at,WT,AG,sD,seen]
def r24 (f:Func):Array Oper:=bz (cj (AG f))
def a26 (s:List UInt8)(ch:Nat):Act:=⟨#[.string ⟨⟨s⟩⟩,.chan (some ch)]++Array.replicate 14 Θ,[]⟩
variable {Wg Low ch:Nat}{x y:uh Wg Low}{ro:Nat→Prop}
section
variable (TW:x.C≠ch)(LQ:y.C≠ch)(Aw:ro x.C)(EP:ro y.C){s:List UInt8}
 (hN:∀(n:Nat) (w:Λ),n≤s.length→ψ prog 120 #[.string ⟨⟨s⟩⟩,Γ Δ n] w λe _=>∃v,e=.returned v∧v=cg (aR s n))
 (hL:∀(t:Tok) (w:Λ),ψ prog 121 #[cg t] w λe _=>∃v,e=.returned v∧v=.bool t.lastB)
include TW LQ Aw EP hN hL in
theorem Ic (W:Λ)(hH:qc ro (λ_=>False) W)(hb:prog.globals.size≤W.heap.size)(hP:Hx x y W)(hx:W.cell? ⟨x.C,0,none⟩=some (.string ⟨⟨s⟩⟩))(hy:W.cell? ⟨y.C,0,none⟩=some (.chan (some ch))):jU prog ro ch (LO prog cI.tWg x y) ((aw (s.length+1) s 0).map cg) (λ_=>False) (born prog (uk Wg x.C y.C)) W:=by
 rw[dR];refine af.silent rfl (λ_=>LX _ _ _ _) ?_;refine af.silent rfl (λ_=>zaV (x:= .region 0 (r24 f69) false) (y:= .region 1 (yc f69) false)) ?_;refine af.silent rfl (λ_=>zaW) ?_;refine af.silent rfl (λ_=>stepG_defer (ops:=r24 f69) (i:=0) (rest:=[]) rfl rfl (by decide) rfl) ?_;refine af.silent rfl (λ_=>zaX) ?_;refine af.silent rfl (λ_=>zaW) ?_;have hm:Array.map (⟨WT Wg x.C y.C,[]⟩:Act).eval #[υ.tmp 0]=#[.pointer (some ⟨Wg,0,none⟩)]:=by simp[ω,WT]
 rw[hm];change af _ _ _ _ _ (G (Pb.at ⟨WT Wg x.C y.C,[dcall 70 #[.pointer (some ⟨Wg,0,none⟩)]]⟩ [.inRegion (yc f69) [0,1,2]]) [(sD prog.funcs.size)]) W;refine af.Ib (ops:=(yc f69)) (i:=0) (rest:=[1,2]) rfl rfl (by decide) (dd:=some 3) rfl (e:=9) (x:= .tmp 1) rfl (ad:=⟨x.C,0,none⟩) rfl Aw hx (λw h=>Po (.inl rfl) w _ h) ?_;refine af.Ib (ops:=(yc f69)) (i:=1) (rest:=[2]) rfl rfl (by decide) (dd:=some 4) rfl (e:=132) (x:= .tmp 2) rfl (ad:=⟨y.C,0,none⟩) rfl EP hy (λw h=>Po (.inr rfl) w _ h) ?_;refine af.silent rfl (λ_=>jI (ops:=(yc f69)) (i:=2) (rest:=[]) (f:=71) (args:=#[.string ⟨⟨s⟩⟩,.chan (some ch)]) rfl rfl (by decide) rfl (by simp[ω,Act.put,WT])) ?_;have he:=enter_at (P:=prog) (f:=71) (c:=AG f71) #[.string ⟨⟨s⟩⟩,.chan (some ch)] aaI rfl;rw[he];obtain⟨T,hT⟩:∃T:Array Ξ,T=(Act.put (Act.put ⟨WT Wg x.C y.C,[dcall 70 #[.pointer (some ⟨Wg,0,none⟩)]]⟩ (some 3) (.string ⟨⟨s⟩⟩)) (some 4) (.chan (some ch))).tmps:=⟨_,rfl⟩;change af _ _ _ _ _ (G ((base 71).at (a26 s ch) [.code (AG f71)]) [Pb.at ⟨(Act.put (Act.put ⟨WT Wg x.C y.C,[dcall 70 #[.pointer (some ⟨Wg,0,none⟩)]]⟩ (some 3) (.string ⟨⟨s⟩⟩)) (some 4) (.chan (some ch))).tmps,[dcall 70 #[.pointer (some ⟨Wg,0,none⟩)]]⟩ [.inRegion (yc f69) [2]],(sD prog.funcs.size)]) W;rw[←hT];change af _ _ _ _ _ (G ((base 71).at (a26 s ch) [.code (AG f71)]) (csF prog.funcs.size f69 Wg T)) W;refine af.silent rfl (λ_=>zaV (x:= .region 0 (r24 f71) false) (y:=bM (AG f71))) ?_;refine af.silent rfl (λ_=>zaW) ?_;have q0:(a26 s ch).eval (.tmp 0)=.string ⟨⟨s⟩⟩:=by simp[a26,ω]
 have q1:(a26 s ch).eval (.tmp 1)=.chan (some ch):=by simp[a26,ω]
 have qs:(a26 s ch).tmps.size=16:=by simp[a26]
 have qd:(a26 s ch).defers=[]:=rfl;generalize a26 s ch=a at *;refine af.mv (ops:=r24 f71) (i:=0) (rest:=[1]) rfl rfl (by decide) (dd:=some 6) rfl (.inl rfl) q1 ?_;have q6:(a.put (some 6) (.chan (some ch))).eval (.tmp 6)=.chan (some ch):=bn (by rw[qs];decide);have q0':(a.put (some 6) (.chan (some ch))).eval (.tmp 0)=.string ⟨⟨s⟩⟩:=(aN (by decide)).trans q0;have q1':(a.put (some 6) (.chan (some ch))).eval (.tmp 1)=.chan (some ch):=(aN (by decide)).trans q1;have qs':(a.put (some 6) (.chan (some ch))).tmps.size=16:=size_put.trans qs;have qd':(a.put (some 6) (.chan (some ch))).defers=[]:=cP.trans qd;generalize a.put (some 6) (.chan (some ch))=a1 at *;refine af.silent rfl (λ_=>sx (ops:=r24 f71) (i:=1) (rest:=[]) (x:=6) (ty:=206) rfl rfl (by decide) rfl) ?_;rw[q6,qd'];change af _ _ _ _ _ (G ((base 71).at ⟨a1.tmps,[fW (.chan (some ch)) 206 0 #[false]]⟩ _) _) _;have p0:(⟨a1.tmps,[fW (.chan (some ch)) 206 0 #[false]]⟩:Act).eval (.tmp 0)=.string ⟨⟨s⟩⟩:=q0';have p1:(⟨a1.tmps,[fW (.chan (some ch)) 206 0 #[false]]⟩:Act).eval (.tmp 1)=.chan (some ch):=q1';have ps:(⟨a1.tmps,[fW (.chan (some ch)) 206 0 #[false]]⟩:Act).tmps.size=16:=qs';have pd:(⟨a1.tmps,[fW (.chan (some ch)) 206 0 #[false]]⟩:Act).defers=[fW (.chan (some ch)) 206 0 #[false]]:=rfl;generalize (⟨a1.tmps,[fW (.chan (some ch)) 206 0 #[false]]⟩:Act)=a2 at *;refine af.silent rfl (λ_=>zaX) ?_;refine af.silent rfl (λ_=>zaV (x:= .region 1 (bz (cj (bM (AG f71)))) false) (y:=bM (bM (AG f71)))) ?_;refine af.silent rfl (λ_=>zaW) ?_;refine af.mv (ops:=bz (cj (bM (AG f71)))) (i:=0) (rest:=[]) rfl rfl (by decide) (dd:=some 4) rfl (.inr rfl) (v:= Γ Δ 0) rfl ?_;have hSA:SA (a2.put (some 4) (Γ Δ 0)) ch s 0 206 0 #[false]:=⟨size_put.trans ps,(aN (by decide)).trans p0,(aN (by decide)).trans p1,bn (by rw[ps];decide),cP.trans pd⟩;generalize a2.put (some 4) (Γ Δ 0)=a3 at *;refine af.silent rfl (λ_=>zaX) ?_;refine af.silent rfl (λ_=>stepG_block (id:=0) (c:= .loop (EZ f71))) ?_;refine af.silent rfl (λ_=>stepG_loop) ?_;have:=LW TW LQ Aw EP (T:=T) hN hL (s.length+1) 0 a3 W (λ_=>False) (zaq _) (by omega) hSA hH hb hP;rw[dR]at this;exact this
end
end Go.Ren
set_option linter.unusedSectionVars false
namespace Go.Ren
open Go.Proofs.Tryz
open Go Go.Conc Go.ConcX Go.RowKit Go.Conc.Lib Go.ConcX.Gen Go.Proofs Go.Loop
theorem Yk (t:Tok):Instr.fill (λi=>some (i*7,7)) (Array.map (λx=>(cg ⟨0,0,0,[],0,0,0⟩).cells[x%(cg ⟨0,0,0,[],0,0,0⟩).cells.size]!) (Array.range 7)) [(0,cg t)]=some (eH t):=by kernel_rfl
theorem T3 (t:Tok)(w:Λ):(Instr.buildSlice 85 1 #[(0,cg t)]).run prog w=.ok (.slice (some ⟨w.heap.size,0,none⟩) 1 1) (w.alloc (.cells (eH t) 131)):=by
 obtain⟨i,hi,he⟩:=zas.1 rh;simp only[zaf]at he;have hu:prog.underlying 85=some (.slice 131):=by kernel_rfl
 simp[Instr.buildSlice,run_underlying hu,sizeOf,χ,hi,he.1,he.2,φ,newRow,Yk]
theorem T4:(prog.info? 131).map (λi=>i.bytes)=some 64:=by kernel_rfl
theorem Pp {o:Oper}{x y:υ}(hop:o.op=.call { callee:= .builtin .append,args:=#[x,y],argTypes:=#[85,85] }){ev:υ→Ξ}{w:Λ}{v:Ξ}{n:Nat}{xs:List Ξ}(hown:w.ownsRow prog.globals.size 131 7 v n xs)(hb:prog.globals.size≤w.heap.size)(hn:n+1≤1000000)
 {t:Tok}{r:Nat}(hr:w.heap[r]?=some (.cells (eH t) 131))(hx:ev x=v)(hy:ev y=.slice (some ⟨r,0,none⟩) 1 1):
 ∃v' w',(Φ ev o).run prog w=.ok (.value v') w'∧w'.ownsRow prog.globals.size 131 7 v' (n+1) (xs++(eH t).toList):=by
 obtain⟨i,hi,he⟩:=zas.1 rh;simp only[zaf]at he;have hu:prog.underlying 85=some (.slice 131):=by kernel_rfl
 have hby:i.bytes=64:=by have:=T4;rw[hi]at this;simpa using this
 obtain⟨v',w',h1,h2,_⟩:=run_append_own_wide (P:=prog) (w:=w) prog.globals.size 85 o.type 131 i _ 7 64 hu hi he.2 he.1 hby rfl (by decide) v n xs hown ⟨r,0,none⟩ 1 1 (eH t).toList rfl (λj u hj=>by
  rw[Addr.add_mid];simp only[Λ.cell?,hr];simpa using hj) (λu hu=>by
   have:=Pg t;rw[zcd]at this;exact this u (by simpa using hu)) (by simp only[maxLen];omega) (by omega) hb
 refine⟨v',w',?_,h2⟩;unfold Φ;simp only[hop,resolve,invoke,builtin,zba,zbd,zbb,zbR,zaB,zbt,hx,hy,h1]
def dC:Nat→Code→Code
 |0,c=>c
 |n+1,c=>dC n (bM c)
def D5 (f:Func):Code:=dC 5 (AG f)
def D6 (f:Func):Code:=dC 6 (AG f)
def D10 (f:Func):Code:=dC 7 (AG f)
def D11 (f:Func):Code:=dC 8 (AG f)
def g5 (f:Func):Array Oper:=bz (cj (D5 f))
def g6 (f:Func):Array Oper:=bz (cj (cj (D6 f)))
def Lg (f:Func):Code:=aaK (TY (bM (cj (D6 f))))
def g7 (f:Func):Array Oper:=bz (cj (Lg f))
def Mg (f:Func):Code:=TY (bM (bM (Lg f)))
def g8 (f:Func):Array Oper:=bz (cj (Mg f))
def g9 (f:Func):Array Oper:=bz (bM (Mg f))
def g10 (f:Func):Array Oper:=bz (cj (D10 f))
def g11 (f:Func):Array Oper:=bz (cj (D11 f))
def kG (f:Func):List Item:=[.inLoop (Lg f),.inBlock 0,.code (D10 f)]
def um:Tok:=⟨0,0,0,[],0,0,0⟩
structure GtA (a:Act) (X Y Wg ch:Nat):Prop where
 size:a.tmps.size=20
 s1:a.eval (.tmp 1)=.pointer (some ⟨X,0,none⟩)
 s3:a.eval (.tmp 3)=.pointer (some ⟨Y,0,none⟩)
 s4:a.eval (.tmp 4)=.pointer (some ⟨Wg,0,none⟩)
 s10:a.eval (.tmp 10)=.chan (some ch)
 defers:a.defers=[]
variable {Wg Low ch X Y:Nat}{x y:uh Wg Low}{ro own:Nat→Prop}{cs:List ζ}
theorem GtA.put {a:Act}(h:GtA a X Y Wg ch){t:Tmp}{v:Ξ}(h1:t≠1)(h3:t≠3)(h4:t≠4)(h10:t≠10):GtA (a.put (some t) v) X Y Wg ch:=
 ⟨size_put.trans h.size,(aN h1).trans h.s1,(aN h3).trans h.s3,(aN h4).trans h.s4,(aN h10).trans h.s10,cP.trans h.defers⟩
structure GR (ro:Nat→Prop) (X Y Wg ch:Nat) (xs:List Tok) (own:Nat→Prop) (a:Act) (W:Λ):Prop where
 ga:GtA a X Y Wg ch
 row:∃ρ w v,At prog Sc ro ρ w W own∧a.eval (.tmp 5)=rv ρ v∧Cl prog Sc w v∧w.ownsRow prog.globals.size 131 7 v xs.length (xs.flatMap λt=>(eH t).toList)
theorem T5 (xs:List Tok)(t:Tok):(xs++[t]).flatMap (λt=>(eH t).toList)=xs.flatMap (λt=>(eH t).toList)++(eH t).toList:=by simp
theorem T6 (a:Act)(W:Λ)(h:a.eval (.tmp 10)=.chan (some ch)):(Φ a.eval (g7 f43)[0]).run prog W=.ok (.comm #[rcase ch (cg um)] true (.recv true)) W∧(Φ a.eval (g7 f43)[0]).events prog W #[]=#[]:=by
 obtain⟨i,hi,he⟩:=zas.1 rh;simp only[zaf]at he;obtain⟨dir,hu⟩:∃dir,prog.underlying 132=some (.chan dir 131):=⟨_,underlying132⟩;have hop:(g7 f43)[0].op=.recv 132 (.tmp 10) true:=rfl;constructor
 ·unfold Φ;simp[hop,run_underlying hu,φ,χ,hi,he.2,h,rcase,um]
 ·unfold Φ;simp[hop,run_underlying hu,φ,χ,hi,he.2]
theorem Kd (a:Act)(W:Λ)(h:a.eval (.tmp 10)=.chan (some ch)):π prog true (G ((base 43).at a (.inRegion (g7 f43) [0,1]::.code (bM (Lg f43))::kG f43)) cs) W=.comm (core (G ((base 43).at a (.inRegion (g7 f43) [0,1]::.code (bM (Lg f43))::kG f43)) cs)) #[rcase ch (cg um)] true (.recv true) W #[]:=by
 obtain⟨h1,h2⟩:=T6 a W h;rw[stepG_comm (ops:=g7 f43) (i:=0) (rest:=[1]) rfl rfl (by decide) h1,listed_none h2];rfl
theorem GR.rely {W aS:Λ}{xs:List Tok}{a:Act}(h:GR ro X Y Wg ch xs own a W)(hr:cq ro own W aS):GR ro X Y Wg ch xs own a aS:=by
 obtain⟨ρ,w,v,hA,h5,fK,hrow⟩:=h.row;obtain⟨AD,yg⟩:=hA.rely hr;exact⟨h.ga,_,w,v,AD,by rw[h5];exact(fK.agree yg.agree (Er hA.vG AD.vG)).symm,fK,hrow⟩
theorem LY {Fin:(Nat→Prop)→θ→Λ→Prop}(ts:List Tok)
 :∀(xs:List Tok) (own:Nat→Prop) (a:Act) (W:Λ),GR ro X Y Wg ch xs own a W→xs.length+ts.length≤1000000→
  (∀own a W,GR ro X Y Wg ch (xs++ts) own a W→Fin own (G ((base 43).at (a.put (some 11) (.tuple #[cg um,.bool false])) (.inRegion (g7 f43) [1]::.code (bM (Lg f43))::kG f43)) cs) W)→
  lR prog ro ch (cg um) Fin (ts.map cg) own (G ((base 43).at a (.code (Lg f43)::kG f43)) cs) W:=by
 induction ts with
 |nil=>
  intro xs own a W h _ hF;rw[cQ];refine af.silent rfl (λ_=>zaV (x:= .region 7 (g7 f43) false) (y:=bM (Lg f43))) ?_;refine af.silent rfl (λ_=>zaW) ?_;refine .stop λaS hr=>?_;have h1:=h.rely hr;refine⟨rfl,Kd a aS h.ga.s10,?_⟩;show Fin own (G (((base 43).at a (.inRegion (g7 f43) [0,1]::.code (bM (Lg f43))::kG f43)).finish _) cs) aS;rw[zcj];exact hF own a aS (by simpa using h1)
 |cons t ts ih=>
  intro xs own a W h hlen hF;rw[cQ];refine af.silent rfl (λ_=>zaV (x:= .region 7 (g7 f43) false) (y:=bM (Lg f43))) ?_;refine af.silent rfl (λ_=>zaW) ?_;refine .stop λaS hr=>?_;have h1:=h.rely hr;refine⟨rfl,Kd a aS h.ga.s10,?_⟩;show lR _ _ _ _ _ _ own (G (((base 43).at a (.inRegion (g7 f43) [0,1]::.code (bM (Lg f43))::kG f43)).finish _) cs) aS;rw[zcj,cQ];change af _ _ _ _ _ (G ((base 43).at (a.put (some 11) (.tuple #[cg t,.bool true])) (.inRegion (g7 f43) [1]::.code (bM (Lg f43))::kG f43)) cs) aS;clear h hr;obtain⟨hg,ρ,w,v,hA,h5,fK,hrow⟩:=h1;have hg1:=hg.put (t:=11) (v:= .tuple #[cg t,.bool true]) (by decide) (by decide) (by decide) (by decide);have Nz:(a.put (some 11) (.tuple #[cg t,.bool true])).eval (.tmp 11)=.tuple #[cg t,.bool true]:=bn (by rw[hg.size];decide);have k5:(a.put (some 11) (.tuple #[cg t,.bool true])).eval (.tmp 5)=rv ρ v:=(aN (by decide)).trans h5;generalize a.put (some 11) (.tuple #[cg t,.bool true])=a1 at *;refine af.aak (ops:=g7 f43) (i:=1) (rest:=[]) rfl rfl (by decide) (dd:=some 12) rfl rfl Nz (v:= .bool true) rfl ?_;have hg2:=hg1.put (t:=12) (v:= .bool true) (by decide) (by decide) (by decide) (by decide);have k12:(a1.put (some 12) (.bool true)).eval (.tmp 12)=.bool true:=bn (by rw[hg1.size];decide);replace Nz:(a1.put (some 12) (.bool true)).eval (.tmp 11)=.tuple #[cg t,.bool true]:=(aN (by decide)).trans Nz;replace k5:(a1.put (some 12) (.bool true)).eval (.tmp 5)=rv ρ v:=(aN (by decide)).trans k5;generalize a1.put (some 12) (.bool true)=a2 at *;refine af.silent rfl (λ_=>zaX) ?_;refine af.silent rfl (λ_=>zaV (x:= .cond (.tmp 12) .skip (.exit 0)) (y:= .block 1 (Mg f43))) ?_;refine af.silent rfl (λ_=>stepG_cond k12) ?_;refine af.silent rfl (λ_=>stepG_skip) ?_;refine af.silent rfl (λ_=>stepG_block) ?_;refine af.silent rfl (λ_=>zaV (x:= .region 8 (g8 f43) false) (y:= .region 9 (g9 f43) false)) ?_;refine af.silent rfl (λ_=>zaW) ?_;refine af.aak (ops:=g8 f43) (i:=0) (rest:=[1,2]) rfl rfl (by decide) (dd:=some 13) rfl rfl Nz (v:=cg t) rfl ?_;have hg3:=hg2.put (t:=13) (v:=cg t) (by decide) (by decide) (by decide) (by decide);have k13:(a2.put (some 13) (cg t)).eval (.tmp 13)=cg t:=bn (by rw[hg2.size];decide);replace k5:(a2.put (some 13) (cg t)).eval (.tmp 5)=rv ρ v:=(aN (by decide)).trans k5;generalize a2.put (some 13) (cg t)=a3 at *;obtain⟨i76,Yj,Ph⟩:=zas.1 rh;simp only[zaf]at Ph;have hgw:prog.globals.size≤w.heap.size:=hA.vG.wr.big.p;refine af.Ox mm (ops:=g8 f43) (i:=1) (rest:=[2]) rfl rfl (by decide) (dd:=some 6) rfl rfl Yj Ph.2 hA ?_;intro w1 xO W2 ac5 e1 AD yg;have hs1:w1.heap.size=w.heap.size:=by rw[e1]
  have NA:rv xO v=rv ρ v:=fK.agree yg.agree (Er hA.vG AD.vG);have Oi:Cl prog Sc w1 v:=by unfold Cl at fK ⊢;rw[hs1];exact fK
  have WU:w1.ownsRow prog.globals.size 131 7 v xs.length (xs.flatMap λt=>(eH t).toList):=by unfold Λ.ownsRow at hrow ⊢;rw[e1];exact hrow
  rw[←hs1];have hg4:=hg3.put (t:=6) (v:= .pointer (some ⟨xO w1.heap.size,0,none⟩)) (by decide) (by decide) (by decide) (by decide);have k6:(a3.put (some 6) (.pointer (some ⟨xO w1.heap.size,0,none⟩))).eval (.tmp 6)=.pointer (some ⟨xO w1.heap.size,0,none⟩):=bn (by rw[hg3.size];decide);replace k13:(a3.put (some 6) (.pointer (some ⟨xO w1.heap.size,0,none⟩))).eval (.tmp 13)=cg t:=(aN (by decide)).trans k13;replace k5:(a3.put (some 6) (.pointer (some ⟨xO w1.heap.size,0,none⟩))).eval (.tmp 5)=rv xO v:=((aN (by decide)).trans k5).trans NA.symm;generalize a3.put (some 6) (.pointer (some ⟨xO w1.heap.size,0,none⟩))=a4 at *;have adf:prog.globals.size≤w1.heap.size:=by omega
  refine af.storeT mm (ops:=g8 f43) (i:=2) (rest:=[]) rfl rfl (by decide) (dd:=none) rfl (s:=6) (t:=13) (by decide) rfl (c:=eH ⟨0,0,0,[],0,0,0⟩) (c':=eH t) (yf _) rfl (Pg _) AD k6 (by rw[k13];exact(fc _ _).symm) (fc _ _) adf ?_;intro w2 Hr W3 ac6 e2 hA2 WQ;rw[xI];have hs2:w2.heap.size=w1.heap.size:=by rw[e2]
  have hr2:Hr w2.heap.size=xO w1.heap.size:=by rw[hs2];exact WQ.agree _ (by rw[bV];omega)
  have hv2:rv Hr v=rv xO v:=Oi.agree (λr hr=>WQ.agree r (by rw[bV];omega)) (Er AD.vG hA2.vG);have Oj:Cl prog Sc w2 v:=by unfold Cl at Oi ⊢;rw[hs2];exact Oi
  have hrow2:w2.ownsRow prog.globals.size 131 7 v xs.length (xs.flatMap λt=>(eH t).toList):=by unfold Λ.ownsRow at WU ⊢;rw[e2];exact WU
  rw[←hr2]at k6;rw[←hv2]at k5;have adg:prog.globals.size≤w2.heap.size:=by omega
  refine af.silent rfl (λ_=>zaX) ?_;refine af.silent rfl (λ_=>zaW) ?_;refine af.mv (ops:=g9 f43) (i:=0) (rest:=[1,2,3,4]) rfl rfl (by decide) (dd:=some 14) rfl (.inl rfl) k5 ?_;have hg5:=hg4.put (t:=14) (v:=rv Hr v) (by decide) (by decide) (by decide) (by decide);have Yl:(a4.put (some 14) (rv Hr v)).eval (.tmp 14)=rv Hr v:=bn (by rw[hg4.size];decide);replace k6:(a4.put (some 14) (rv Hr v)).eval (.tmp 6)=.pointer (some ⟨Hr w2.heap.size,0,none⟩):=(aN (by decide)).trans k6;generalize a4.put (some 14) (rv Hr v)=a5 at *;refine af.loadT mm (ops:=g9 f43) (i:=1) (rest:=[2,3,4]) rfl rfl (by decide) (dd:=some 15) rfl (s:=6) rfl underlying131 rfl (yf _) hA2 k6 adg ?_;intro w3 Pj W4 ac7 e3 TZ hO3;have hs3:w3.heap.size=w2.heap.size:=by rw[e3]
  have hv3:rv Pj v=rv Hr v:=Oj.agree (λr hr=>hO3.agree r (by rw[bV];omega)) (Er hA2.vG TZ.vG);have Ym:Cl prog Sc w3 v:=by unfold Cl at Oj ⊢;rw[hs3];exact Oj
  have hrow3:w3.ownsRow prog.globals.size 131 7 v xs.length (xs.flatMap λt=>(eH t).toList):=by unfold Λ.ownsRow at hrow2 ⊢;rw[e3];exact hrow2
  rw[←hv3]at Yl;have afp:prog.globals.size≤w3.heap.size:=by omega
  rw[show rv Pj (.agg (eH t))=cg t from fc _ _];have hg6:=hg5.put (t:=15) (v:=cg t) (by decide) (by decide) (by decide) (by decide);have k15:(a5.put (some 15) (cg t)).eval (.tmp 15)=cg t:=bn (by rw[hg5.size];decide);replace Yl:(a5.put (some 15) (cg t)).eval (.tmp 14)=rv Pj v:=(aN (by decide)).trans Yl;generalize a5.put (some 15) (cg t)=a6 at *;have hrow4:(w3.alloc (.cells (eH t) 131)).ownsRow prog.globals.size 131 7 v xs.length (xs.flatMap λt=>(eH t).toList):=hrow3.alloc _;have Yn:Cl prog Sc (w3.alloc (.cells (eH t) 131)) v:=Ym.mono (by rw[bV];omega);have adh:prog.globals.size≤(w3.alloc (.cells (eH t) 131)).heap.size:=by rw[bV];omega
  generalize w3.alloc (.cells (eH t) 131)=w4 at TZ hrow4 Yn adh;refine af.Ow mm (ops:=g9 f43) (i:=2) (rest:=[3,4]) (by rw[show(g9 f43)[2].op=.buildSlice 85 1 #[(0,.tmp 15)] from rfl];simp[fo,gD]) rfl rfl (by decide) (T:=λ_=>cg t) (λ_=>fc _ _) TZ ?_ (v:=λw₀=> .slice (some ⟨w₀.heap.size,0,none⟩) 1 1) (o':=λw₀=>w₀.alloc (.cells (eH t) 131)) ?_ ?_
  ·have hop:(g9 f43)[2].op=.buildSlice 85 1 #[(0,.tmp 15)]:=rfl;unfold Φ;rw[hop];simp only[zbR,zaB,zbt,fL,k15,fc t Pj]
  ·intro τ d;have hop:(g9 f43)[2].op=.buildSlice 85 1 #[(0,.tmp 15)]:=rfl;unfold Φ;simp only[hop,zbR,zaB,zbt,fL,zba,T3,zbb,zbd]
  intro w5 Kc W5 ac9 e5 T2 hO5 aaM;have hs5:w5.heap.size=w4.heap.size:=by rw[e5]
  have hv5:rv Kc v=rv Pj v:=Yn.agree hO5.agree (Er TZ.vG T2.vG);have WV:(w5.alloc (.cells (eH t) 131)).ownsRow prog.globals.size 131 7 v xs.length (xs.flatMap λt=>(eH t).toList):=by
   refine zcI ?_ _;unfold Λ.ownsRow at hrow4 ⊢;rw[e5];exact hrow4
  have aaN:Cl prog Sc (w5.alloc (.cells (eH t) 131)) v:=Yn.mono (by rw[bV];omega);rw[←hv5]at Yl;change af _ _ _ _ _ (G ((base 43).at (a6.put (some 16) (rv Kc (.slice (some ⟨w5.heap.size,0,none⟩) 1 1))) _) _) _;have hg7:=hg6.put (t:=16) (v:=rv Kc (.slice (some ⟨w5.heap.size,0,none⟩) 1 1)) (by decide) (by decide) (by decide) (by decide);have k16:(a6.put (some 16) (rv Kc (.slice (some ⟨w5.heap.size,0,none⟩) 1 1))).eval (.tmp 16)=rv Kc (.slice (some ⟨w5.heap.size,0,none⟩) 1 1):=bn (by rw[hg6.size];decide);replace Yl:(a6.put (some 16) (rv Kc (.slice (some ⟨w5.heap.size,0,none⟩) 1 1))).eval (.tmp 14)=rv Kc v:=(aN (by decide)).trans Yl;generalize a6.put (some 16) (rv Kc (.slice (some ⟨w5.heap.size,0,none⟩) 1 1))=a7 at *;have oF:(w5.alloc (.cells (eH t) 131)).heap[w5.heap.size]?=some (.cells (eH t) 131):=by
   show(w5.heap.push _)[w5.heap.size]?=_;simp
  have aaO:prog.globals.size≤(w5.alloc (.cells (eH t) 131)).heap.size:=by rw[bV];omega
  generalize Ai:w5.heap.size=r0 at *;generalize w5.alloc (.cells (eH t) 131)=w6 at T2 WV aaN oF aaM aaO;have afe:xs.length+(ts.length+1)≤1000000:=by simpa using hlen
  refine af.JU mm (ops:=g9 f43) (i:=3) (rest:=[4]) (by rw[show(g9 f43)[3].op=.call { callee:= .builtin .append,args:=#[.tmp 14,.tmp 16],argTypes:=#[85,85] } from rfl];simp[fo,gD,pC]) rfl rfl (by decide) (T:=λs=>if s=14 then v else .slice (some ⟨r0,0,none⟩) 1 1) (λs=>?_) T2.vG T2.Wz ?_ (Q:=λv' w'=>w'.ownsRow prog.globals.size 131 7 v' (xs.length+1) (xs.flatMap (λt=>(eH t).toList)++(eH t).toList)) (λτ d=>?_) ?_ T2.hold
  ·by_cases h:s=14
   ·simp only[h,if_true];exact aaN
   ·simp only[h,if_false];exact aaM
  ·have hop:(g9 f43)[3].op=.call { callee:= .builtin .append,args:=#[.tmp 14,.tmp 16],argTypes:=#[85,85] }:=rfl;unfold Φ;simp only[hop,resolve,zbR,zaB,zbt,fL,Yl,k16,if_true,show ¬(16=14) by decide,if_false]
  ·exact Pp (x:= .tmp 14) (y:= .tmp 16) rfl (w:=w6.re τ d) WV aaO (by omega) oF rfl rfl
  intro v' w' ρ' W' own' hq TE _ _ hc' Ie _ _ hH';change af _ _ _ _ _ (G ((base 43).at (a7.put (some 17) (rv ρ' v')) _) _) _;have hg8:=hg7.put (t:=17) (v:=rv ρ' v') (by decide) (by decide) (by decide) (by decide);have k17:(a7.put (some 17) (rv ρ' v')).eval (.tmp 17)=rv ρ' v':=bn (by rw[hg7.size];decide);generalize a7.put (some 17) (rv ρ' v')=a8 at *;refine af.mv (ops:=g9 f43) (i:=4) (rest:=[]) rfl rfl (by decide) (dd:=some 5) rfl (.inr rfl) k17 ?_;have hg9:=hg8.put (t:=5) (v:=rv ρ' v') (by decide) (by decide) (by decide) (by decide);have k5':(a8.put (some 5) (rv ρ' v')).eval (.tmp 5)=rv ρ' v':=bn (by rw[hg8.size];decide);generalize a8.put (some 5) (rv ρ' v')=a9 at *;refine af.silent rfl (λ_=>zaX) ?_;refine af.silent rfl (λ_=>stepG_inBlock) ?_;refine af.silent rfl (λ_=>stepG_inLoop) ?_;have hGR:GR ro X Y Wg ch (xs++[t]) own' a9 W':=⟨hg9,ρ',w',v',⟨TE,Ie,hH'⟩,k5',hc',by rw[T5];simpa using hq⟩;have:=ih (xs++[t]) own' a9 W' hGR (by simp;omega) (by simpa using hF);rw[cQ]at this;exact this
end Go.Ren
set_option linter.unusedSectionVars false
namespace Go.Ren
open Go.Proofs.Tryz
open Go Go.Conc Go.ConcX Go.RowKit Go.Conc.Lib Go.ConcX.Gen Go.Proofs Go.Loop
section
variable {P:Program}{main:Bool}{b:ζ}{a:Act}{ops:Array Oper}{i:Nat}{rest:List Nat}{o:Oper}{kk:List Item}{cs:List ζ}
theorem Ig (ho:ops[i]?=some o)(hw:Region.wanted o (yielded ops a.tmps)=true)(hk:b.kind≠.early){dd:Option Tmp}(hdd:o.dst=dd){x:υ}{j:Nat}(hop:o.op=.extract x j){vs:Array Ξ}{v:Ξ}(hx:a.eval x=.tuple vs)(hv:vs[j]?=some v)(w:Λ):π P main (G (b.at a (.inRegion ops (i::rest)::kk)) cs) w=.go (G (b.at (a.put dd v) (.inRegion ops rest::kk)) cs) w #[]:=by
 subst hdd;have hr:(Φ a.eval o).run P w=.ok (.value v) w:=by
  unfold Φ;simp[hop,hx,Instr.extract,hv]
 have he:(Φ a.eval o).events P w #[]=#[]:=by
  unfold Φ;simp[hop,hx,Instr.extract,hv]
 rw[stepG_value ho hw hk hr,listed_none he]
theorem Goes.silent {R:Λ→Λ→Prop}{D:Λ→Λ→Array Event→Prop}{Stop:θ→Λ→Prop}(tr:∀a b c,R a b→R b c→R a c)(hd:∀w,D w w #[]){n:Nat}{g g':θ}{w:Λ}(hs:g.status=.running)(h:∀w₁,π P main g w₁=.go g' w₁ #[])(k:Goes P main R D Stop n g' w):Goes P main R D Stop (n+1) g w:=
 Goes.step hs λw₁ h₁=>by rw[h w₁];exact⟨hd w₁,k.rely tr h₁⟩
end
variable {Wg Low ch X Y:Nat}{x y:uh Wg Low}{ro own:Nat→Prop}{cs:List ζ}
structure Off (Wg X Y:Nat) (w w':Λ):Prop where
 tape:w'.tape=w.tape
 os:w'.os=w.os
 output:w'.output=w.output
 size:w'.heap.size=w.heap.size
 block:∀k,k≠X→k≠Y→k≠Wg→w'.heap[k]?=w.heap[k]?
def Bx (f:Func)(a:Act)(cs:List ζ):θ:=G ((base 43).at (a.put (some 18) (.tuple #[])) (.inRegion (g10 f) []::.code (D11 f)::[])) cs
def CW (f:Func)(a:Act):ζ:=(base 43).at a (.inRegion (g10 f) [0]::.code (D11 f)::[])
theorem Bz {pl:Payload}{ty:ξ}{C:Nat} [Shy Wg C] {vals:List Ξ}(a b c:Λ)(h:RPa ty Wg C vals a b)(k:RPa ty Wg C vals b c):RPa ty Wg C vals a c:=
 RPa.trans h k
theorem Ih (Wg:Nat):ζ.enter prog 72 #[.pointer (some ⟨Wg,0,none⟩)] .normal=(base cI.wait).at ⟨#[.pointer (some ⟨Wg,0,none⟩),Θ,Θ,Θ,Θ,Θ,Θ,Θ,Θ,Θ,Θ,Θ,Θ,Θ,Θ,Θ,Θ,Θ,Θ,Θ,Θ,Θ,Θ,Θ,Θ,Θ,Θ,Θ,Θ,Θ,Θ,Θ,Θ,Θ,Θ,Θ,Θ,Θ,Θ,Θ,Θ,Θ,Θ,Θ,Θ,Θ,Θ,Θ,Θ,Θ,Θ,Θ,Θ,Θ,Θ,Θ,Θ,Θ,Θ,Θ,Θ,Θ,Θ,Θ,Θ,Θ,Θ,Θ,Θ,Θ,Θ,Θ,Θ,Θ,Θ,Θ,Θ,Θ,Θ,Θ,Θ,Θ,Θ,Θ],[]⟩ [.code (body_wait cI)]:=by
 rw[enter_at (P:=prog) (f:=72) (c:=body_wait cI) #[.pointer (some ⟨Wg,0,none⟩)] J9 (by kernel_rfl)];have:(#[Ξ.pointer (some ⟨Wg,0,none⟩)]++Array.replicate ((waitFn cI).ntmps - (#[Ξ.pointer (some ⟨Wg,0,none⟩)]:Array Ξ).size) Θ)=#[.pointer (some ⟨Wg,0,none⟩),Θ,Θ,Θ,Θ,Θ,Θ,Θ,Θ,Θ,Θ,Θ,Θ,Θ,Θ,Θ,Θ,Θ,Θ,Θ,Θ,Θ,Θ,Θ,Θ,Θ,Θ,Θ,Θ,Θ,Θ,Θ,Θ,Θ,Θ,Θ,Θ,Θ,Θ,Θ,Θ,Θ,Θ,Θ,Θ,Θ,Θ,Θ,Θ,Θ,Θ,Θ,Θ,Θ,Θ,Θ,Θ,Θ,Θ,Θ,Θ,Θ,Θ,Θ,Θ,Θ,Θ,Θ,Θ,Θ,Θ,Θ,Θ,Θ,Θ,Θ,Θ,Θ,Θ,Θ,Θ,Θ,Θ,Θ]:=by kernel_rfl
 rw[this]
theorem Pq (k:uh Wg Low){X Y:Nat}(hk:k.C=X∨k.C=Y)(a:Act)(h4:a.eval (.tmp 4)=.pointer (some ⟨Wg,0,none⟩))(W:Λ)(hK:k.kpa cI.tWg W):∃A,k.wait prog cI.tWg (λg w=>g=Bx f43 a cs∧Off Wg X Y W w) A (G (CW f43 a) cs) W:=by
 letI:=k.pl
 letI:=ml Wg k.C Low (λg w=>g=Bx f43 a cs∧Off Wg X Y W w) k.hW k.hC
 let F:Λ→Prop:=λw=>(∀b,b≠k.C→b≠Wg→w.heap[b]?=W.heap[b]?)∧w.heap.size=W.heap.size∧w.tape=W.tape∧w.os=W.os∧w.output=W.output;have hF2:∀w w',Aside2 k.C Wg w w'→F w→F w':=λw w' h f=>⟨λb h1 h2=>(h.block b h1 h2).trans (f.1 b h1 h2),h.size.trans f.2.1,h.tape.trans f.2.2.1,h.os.trans f.2.2.2.1,h.output.trans f.2.2.2.2⟩;refine⟨AnchW7 cI F Wg k.C k.vals (CW f43 a) cs,⟨k.hC,k.hCW,?_,?_,λ_ h=>h⟩,4,?_⟩
 ·rintro g w ⟨T,rfl,_⟩;rfl
 ·intro g w h;exact waitRound (L:=cI) (Low:=Low) (Mine:=kQ) (Post:=λ_ _=>True) (mT:=0) (b₀:=base 43) (a₀:=a) (ops₀:=g10 f43) (i₀:=0) (rest₀:=[]) (k₀:=[.code (D11 f43)]) wgz k.hCW hF2 (λw f _ _=>Goes.stop λw₁ h₁=>by
   obtain⟨d,rfl⟩:=h₁;refine⟨rfl,rfl,f.2.2.1,f.2.2.2.1,f.2.2.2.2,f.2.1,λb h1 h2 h3=>f.1 b ?_ h3⟩;rcases hk with e|e<;>rw[e]<;>assumption) g w h
 ·refine Goes.silent (g':=G (ζ.enter prog 72 #[.pointer (some ⟨Wg,0,none⟩)] .normal) (CW f43 a::cs)) (λa b c=>Bz a b c) (λw=>⟨λ_ _=>rfl,by simp⟩) rfl (λw₁=>jI (ops:=g10 f43) (i:=0) (rest:=[]) (f:=72) rfl rfl (by decide) rfl (by simp[h4])) ?_;rw[Ih];exact waitStart (L:=cI) (Low:=Low) (F:=F) (Mine:=kQ) (b₀:=base 43) (a₀:=a) (ops₀:=g10 f43) (i₀:=0) (rest₀:=[]) (k₀:=[.code (D11 f43)]) (cs:=cs) wgz hF2 W ⟨⟨λ_ _ _=>rfl,rfl,rfl,rfl,rfl⟩,hK⟩
theorem jv {k:uh Wg Low}{St A:θ→Λ→Prop}{g g':θ}{W:Λ}(hs:g.status=.running)(h:∀w₁,π prog true g w₁=.go g' w₁ #[])(hw:k.wait prog cI.tWg St A g' W):k.wait prog cI.tWg St A g W:=by
 letI:=k.pl
 letI:=ml Wg k.C Low St k.hW k.hC
 obtain⟨h1,m,h2⟩:=hw;exact⟨h1,m+1,Goes.silent (λa b c=>Bz a b c) (λw=>⟨λ_ _=>rfl,by simp⟩) hs h h2⟩
def CX (ro:Nat→Prop)(X Y Wg ch:Nat)(ts:List Tok)(cs:List ζ)(own:Nat→Prop)(w':Λ)(g:θ)(w:Λ):Prop:=
 ∃a,GR ro X Y Wg ch ts own a w'∧g=Bx f43 a cs∧Off Wg X Y w' w
theorem Ii {ts:List Tok}{a:Act}{W:Λ}(h:GR ro x.C y.C Wg ch ts own a W):OZ prog cI.tWg x y (CX ro x.C y.C Wg ch ts cs) own (G ((base 43).at (a.put (some 11) (.tuple #[cg um,.bool false])) (.inRegion (g7 f43) [1]::.code (bM (Lg f43))::kG f43)) cs) W:=by
 intro hx hy;obtain⟨hg,ρ,w,v,hA,h5,fK,hrow⟩:=h;have hg1:=hg.put (t:=11) (v:= .tuple #[cg um,.bool false]) (by decide) (by decide) (by decide) (by decide);have Nz:(a.put (some 11) (.tuple #[cg um,.bool false])).eval (.tmp 11)=.tuple #[cg um,.bool false]:=bn (by rw[hg.size];decide);have k5:(a.put (some 11) (.tuple #[cg um,.bool false])).eval (.tmp 5)=rv ρ v:=(aN (by decide)).trans h5;generalize a.put (some 11) (.tuple #[cg um,.bool false])=a1 at *;have hg2:=hg1.put (t:=12) (v:= .bool false) (by decide) (by decide) (by decide) (by decide);have k12:(a1.put (some 12) (.bool false)).eval (.tmp 12)=.bool false:=bn (by rw[hg1.size];decide);have k5':(a1.put (some 12) (.bool false)).eval (.tmp 5)=rv ρ v:=(aN (by decide)).trans k5;have step:∀(k:uh Wg Low),(k.C=x.C∨k.C=y.C)→k.kpa cI.tWg W→∃A,k.wait prog cI.tWg (λg w=>g=Bx f43 (a1.put (some 12) (.bool false)) cs∧Off Wg x.C y.C W w) A (G ((base 43).at a1 (.inRegion (g7 f43) [1]::.code (bM (Lg f43))::kG f43)) cs) W:=λk hk hK=>by
  obtain⟨A,hw⟩:=Pq (cs:=cs) k hk (a1.put (some 12) (.bool false)) hg2.s4 W hK;refine⟨A,?_⟩;refine jv rfl (λw₁=>Ig (ops:=g7 f43) (i:=1) (rest:=[]) rfl rfl (by decide) (dd:=some 12) rfl rfl Nz (v:= .bool false) rfl w₁) ?_;generalize a1.put (some 12) (.bool false)=a2 at *;refine jv rfl (λ_=>zaX) ?_;refine jv rfl (λ_=>zaV (x:= .cond (.tmp 12) .skip (.exit 0)) (y:= .block 1 (Mg f43))) ?_;refine jv rfl (λ_=>stepG_cond k12) ?_;refine jv rfl (λ_=>stepG_exit (id:=0) (k':=[.code (D10 f43)]) rfl) ?_;refine jv rfl (λ_=>zaV (x:= .region 10 (g10 f43) false) (y:=D11 f43)) ?_;refine jv rfl (λ_=>zaW) ?_;exact hw
 obtain⟨Ax,hwx⟩:=step x (.inl rfl) hx;obtain⟨Ay,hwy⟩:=step y (.inr rfl) hy;exact⟨_,Ax,Ay,hwx,hwy,λa' w' hst=>⟨Nat.le_of_eq hst.2.size.symm,_,⟨hg2,ρ,w,v,hA,k5',fK,hrow⟩,hst.1,hst.2⟩⟩
end Go.Ren
