import Derived.Conc.FxGenDone
import Derived.Conc.FxGenWait
import Derived.Conc.FxGenLone
import Derived.Conc.BesideWords
import Derived.Deep.DeepAppendWide
import Derived.OneCell
import Derived.Laws.ResultCell
import Derived.Test.YtlhimdjkkiflhaaGreatDoorMade04
import Derived.Test.YtlhimdjkkiflhaaGreatDoorMade10
set_option maxHeartbeats 8000000
set_option maxRecDepth 100000
open Go.Value renaming int→Γ
open Go.IntKind renaming i64→Δ
open Go renaming undef→Θ,World→Λ,Value→Ξ,Frame→Φ,execOp→Ω,Goroutine→ζ,FuncId→υ,TypeId→φ,typeInfo→χ,Program→ψ,stepG→ϊ,zeroValue→ϋ,Operand→ό,Calls→ώ,yielded→ϑ,Trace→ϕ,Event→ϖ
open Option renaming getD→η
open Array renaming replicate→θ
open Go.Instr renaming loadAt→ι,sureAddr→ξ
open Go.Act renaming eval→π,put→ύ
open Go.Region renaming wanted→ω
open Go.Deferred renaming ofValue→ϐ
namespace Go.Ren
open Go.Proofs.Tryz
open Go Go.Proofs Go.Conc.Lib
variable {f:υ}
abbrev cI:WgLink:={ add:=68,done:=70,wait:=72,relMerge:=107,disable:=108,enable:=109,inBubble:=110,associate:=111,fatal:=112,uOr:=113,uAdd:=114,raceRead:=115,uLoad:=116,uStore:=117,disassociate:=118,semrelease:=119,acquire:=122,isAssociated:=123,uCas:=124,raceWrite:=125,semacquire:=126,orU64:=164,addU64:=165,loadU64:=166,storeU64:=167,casU64:=173,tWgP:=194,tUP:=196,tAssoc:=197,tWg:=142,tAU:=139,tU64:=137,tUint:=200,tU32:=140,tPU32:=201,tPAU:=240,tPU64:=242,tNoCopy:=134,tANoCopy:=135,tAlign64:=136 }
theorem O0:prog.funcs[68]?=some (addFn cI):=by kernel_rfl
theorem J8:prog.funcs[70]?=some (doneFn cI):=by kernel_rfl
theorem J9:prog.funcs[72]?=some (waitFn cI):=by kernel_rfl
theorem wgz:WgLib prog cI:=by
 refine⟨O0,J8,J9,?_,?_,?_,?_,?_,?_,?_,?_,?_,?_,?_,?_,?_,?_,?_,?_,?_,?_,?_,?_,?_,?_,?_,
  ?_,?_,?_,?_,?_,?_,?_,?_,?_,?_,?_,?_,?_,?_,?_,?_,?_,?_,?_,?_,?_,?_,?_,?_,?_,?_,?_,?_,?_,?_,?_,?_,?_,?_,?_,?_,?_,?_,?_,?_,?_,?_,?_,?_,?_,?_,?_,?_,?_,?_,?_,?_,?_,?_,?_,?_,?_,?_,?_,?_,?_,?_,?_,?_,?_,?_,?_,?_,?_,?_,?_,?_,?_,?_,?_,?_,?_,?_,?_,?_,?_,?_,?_,?_,?_,?_,?_⟩
 all_goals first
  |kernel_rfl
  |(intro w;kernel_rfl)
open Go Go.Proofs
theorem O8:prog.globals.size=4:=by kernel_rfl
def Lc:List Nat:=[44,63,73,74,75,76,120,121,127,128,147,148,149,150,151,152,168,169,170,171,172,174,186,187,188,189,191,197,198,199,200,201,202,214,215,223,224,225,226,227,243,247,248,249,250,251]
def Fc:υ→Bool:=λf=>Lc.any (·==f)
def Sc:Sd:=⟨λf=>f==149||f==187||f==186,4,4⟩
def Lz:List Nat:=[17,19,21,22,24,26,27,28,29,30,38,39,40,41,42,44,45,46,47,48,60,61,62,63,64,65,66,67,73,74,75,76,77,78,79,80,81,82,83,95,96,97,98,99,100,101,102,103,104,105,106,127,128,129,130,147,148,149,150,151,152,153,154,155,156,157,158,159,160,161,162,163,174,175,176,177,178,179,180,186,187,188,189,190,191,192,193,194,195,196,202,203,204,205,214,215,216,217,218,219,220,221,222,228,229,230,231,232,238,239,240,241,242,244,245,246]
def Fz:υ→Bool:=λf=>Lz.any (·==f)
def Sz:Sd:=⟨λf=>f==149||f==187||f==186,0,4⟩
instance afd:Shut prog Sc:=⟨O8.symm,by rw[O8];exact zac _⟩
theorem TV:Two prog Sz Sc:=⟨O8.symm,by rw[O8];decide,λ_ h=>h⟩
def Qz (F:υ→Bool)(S:Sd)(f:υ):Prop:=JI prog S f∧∀fn c,prog.funcs[f]?=some fn→fn.body=some c→bB prog F S c=true
def qB (P:ψ)(F:υ→Bool)(S:Sd):Option Func→Bool
 |some g=>!(g.name== "runtime.NumGoroutine")&&(match g.body with|some c=>bB P F S c|none=>false)
 |none=>false
theorem WH {F:υ→Bool}{S:Sd}(h:qB prog F S prog.funcs[f]?=true):Qz F S f:=by
 cases hg:prog.funcs[f]? with
 |none=>rw[hg]at h;cases h
 |some g=>
  rw[hg]at h;simp only[qB,zae,Bool.not_eq_true']at h;obtain⟨hn,hc⟩:=h;cases hb:g.body with
  |none=>rw[hb]at hc;cases hc
  |some c0=>
   rw[hb]at hc;refine⟨⟨g,hg,hn,.inl (by rw[hb];rfl)⟩,λfn c h1 h2=>?_⟩;rw[hg]at h1;cases h1;rw[hb]at h2;cases h2;exact hc
theorem xZ {F:υ→Bool}{S:Sd}{g:Func}{e:Array Ξ→Sem Ξ}(h:prog.funcs[f]?=some g)(hn:(g.name== "runtime.NumGoroutine")=false)(hb:g.body.isNone=true)(hx:Extern.findNext g=none)(hf:Extern.find g=some e)(he:∀(ρ:Rn) (args:Array Ξ),rV S ρ→ae prog ρ (VV ρ) (e args) (e (args.map (rv ρ)))):Qz F S f:=by
 refine⟨⟨g,h,hn,.inr ⟨hb,hx,e,hf,λρ args _ hfx=>he ρ args hfx⟩⟩,λfn c h1 h2=>?_⟩;rw[h]at h1;cases h1;rw[h2]at hb;cases hb
theorem aaC:Qz Fc Sc 202:=xZ (g:=f202) (e:=Extern.BytealgIndexByte.indexByte) (by kernel_rfl) (by kernel_rfl) (by kernel_rfl) (by kernel_rfl) (by kernel_rfl) λ_ args hx=>uW args
theorem aaD:Qz Fc Sc 215:=xZ (g:=f215) (e:=Extern.AbiNoEscape.same) (by kernel_rfl) (by kernel_rfl) (by kernel_rfl) (by kernel_rfl) (by kernel_rfl) λ_ args hx=>O4 args
theorem aaE:Qz Fc Sc 248:=xZ (g:=f248) (e:=Extern.BytealgIndex.index) (by kernel_rfl) (by kernel_rfl) (by kernel_rfl) (by kernel_rfl) (by kernel_rfl) λ_ args hx=>O6 (λg hg=>hx.l g (by rw[O8]at hg;exact hg)) args
theorem aaF:Qz Fz Sz 202:=xZ (g:=f202) (e:=Extern.BytealgIndexByte.indexByte) (by kernel_rfl) (by kernel_rfl) (by kernel_rfl) (by kernel_rfl) (by kernel_rfl) λ_ args hx=>uW args
theorem aaG:Qz Fz Sz 215:=xZ (g:=f215) (e:=Extern.AbiNoEscape.same) (by kernel_rfl) (by kernel_rfl) (by kernel_rfl) (by kernel_rfl) (by kernel_rfl) λ_ args hx=>O4 args
theorem WI:prog.types.toList.all tyB=true:=by kernel_rfl
theorem acY:(Lc.all λf=>f==202||f==215||f==248||qB prog Fc Sc prog.funcs[f]?)=true:=by kernel_rfl
theorem WJ (f:Nat)(hf:f∈Lc):Qz Fc Sc f:=by
 have h:=zaC.1 acY f hf;by_cases O9:f=202
 ·subst O9;exact aaC
 by_cases Pa:f=215
 ·subst Pa;exact aaD
 by_cases aaH:f=248
 ·subst aaH;exact aaE
 simp only[beq_eq_false_iff_ne.2 O9,beq_eq_false_iff_ne.2 Pa,beq_eq_false_iff_ne.2 aaH,Bool.false_or]at h;exact WH h
theorem WK (h:Fc f=true):f∈Lc:=by
 unfold Fc at h;rw[List.any_eq_true]at h;obtain⟨x,hx,e⟩:=h;rw[←(beq_iff_eq.1 e)];exact hx
theorem mm:lp prog Fc Sc:=by
 refine⟨λg hg=>?_,λf hf=>(WJ f (WK hf)).1,λf fn c hf h1 h2=>(WJ f (WK hf)).2 fn c h1 h2,Kb WI⟩;have tK:(g==149||g==187||g==186)=true:=hg;simp only[Bool.or_eq_true,zaJ]at tK;rcases tK with(rfl|rfl)|rfl<;>rfl
theorem acZ:(Lz.all λf=>f==202||f==215||qB prog Fz Sz prog.funcs[f]?)=true:=by kernel_rfl
theorem WM (f:Nat)(hf:f∈Lz):Qz Fz Sz f:=by
 have h:=zaC.1 acZ f hf;by_cases O9:f=202
 ·subst O9;exact aaF
 by_cases Pa:f=215
 ·subst Pa;exact aaG
 simp only[beq_eq_false_iff_ne.2 O9,beq_eq_false_iff_ne.2 Pa,Bool.false_or]at h;exact WH h
theorem WN (h:Fz f=true):f∈Lz:=by
 unfold Fz at h;rw[List.any_eq_true]at h;obtain⟨x,hx,e⟩:=h;rw[←(beq_iff_eq.1 e)];exact hx
theorem dS:lp prog Fz Sz:=by
 refine⟨λg hg=>?_,λf hf=>(WM f (WN hf)).1,λf fn c hf h1 h2=>(WM f (WN hf)).2 fn c h1 h2,Kb WI⟩;have tK:(g==149||g==187||g==186)=true:=hg;simp only[Bool.or_eq_true,zaJ]at tK;rcases tK with(rfl|rfl)|rfl<;>rfl
end Go.Ren
set_option linter.unusedSectionVars false
namespace Go.Ren
open Go.Proofs.Tryz
open Go Go.Conc Go.ConcX Go.RowKit Go.Conc.Lib Go.ConcX.Gen Go.Proofs
theorem aaI:prog.funcs[71]?=some f71:=by kernel_rfl
def Pb:Φ:=baseD 69
def sD (n:Nat):Φ:={ (default:Φ)with fn:=n,defers:=[],mode:= .panicking [goexitEntry] }
theorem H8 (T:Array Ξ):QuitsD prog 2 0 (G { Pb.at ⟨T,[]⟩ []with mode:= .returning } [(sD prog.funcs.size)]):=by
 refine QuitsD.ctl (g':=G (sD prog.funcs.size) []) rfl (λw=>?_) ?_
 ·simp[G,ϊ,unwind,doReturn,results,Φ.at,Pb,baseD,sD,f69,seen,GStep.after,goexitEntry]
 refine QuitsD.ctl (g':={ G (sD prog.funcs.size) []with status:= .finished }) rfl (λw=>?_) ⟨rfl,rfl⟩;simp[G,ϊ,unwind,sD,goexitEntry,Φ.catches];rfl
def yc (f:Func):Array Oper:=match f.body with|some (.seq _ (.region _ ops _))=>ops|_=>#[]
theorem EO [Payload] {Wg C Low:Nat} [Shy Wg C] {vals:List Ξ}(hW:Wg<Low)(hC:C<Low)(hCW:C≠Wg)(T T':Array Ξ)(todo:List Item)(w:Λ)(hF:KCa cI.tWg Wg w∧Full C vals w):Goes prog false (RCa cI.tWg Wg Low) (DCs kQ Wg C) (AtR0 prog cI.tWg Wg C Low vals) (4+23)
  (G { (base 71).at ⟨T',[]⟩ todo with mode:= .returning } [Pb.at ⟨T,[dcall 70 #[.pointer (some ⟨Wg,0,none⟩)]]⟩ [.inRegion (yc f69) [2]],(sD prog.funcs.size)]) w:=by
 u_leave0 aaI (ka_rely hC hCW) hF
 u_c zaX (ka_rely hC hCW) hF
 u_c stepG_end (ka_rely hC hCW) hF
 u_in (ka_rely hC hCW) hF
 rw[stepG_unwind_enter rfl J8 (nm_done cI) rfl];simp only[goes_go];refine⟨by u_nil,?_⟩;have hA:=@doneD _ cI prog wgz kQ Wg C Low _ vals hW hC hCW;exact hA rfl (H8 _) _ hF
theorem Pc:(prog.funcs[71]?).any (·.norace)=false:=by kernel_rfl
theorem Av {Wg Low ch:Nat}{x y:uh Wg Low}{own:Nat→Prop}(TW:x.C≠ch)(LQ:y.C≠ch)(T T':Array Ξ)(todo:List Item)(ty rt:φ)(bs:Array Bool)(w:Λ)
 (hx:w.heap[x.C]?=some (.cells x.vals.toArray x.pl.ety))(hy:w.heap[y.C]?=some (.cells y.vals.toArray y.pl.ety)):
 xP prog ch (LO prog cI.tWg x y) own (G { (base 71).at ⟨T',[fW (.chan (some ch)) ty rt bs]⟩ todo with mode:= .returning } [Pb.at ⟨T,[dcall 70 #[.pointer (some ⟨Wg,0,none⟩)]]⟩ [.inRegion (yc f69) [2]],(sD prog.funcs.size)]) w:=by
 refine⟨rfl,rfl,G { (base 71).at ⟨T',[]⟩ todo with mode:= .returning } [Pb.at ⟨T,[dcall 70 #[.pointer (some ⟨Wg,0,none⟩)]]⟩ [.inRegion (yc f69) [2]],(sD prog.funcs.size)],rfl,λs r tm hc=>⟨rb rfl hc Pc,λHm=>⟨?_,?_⟩⟩⟩
 ·exact⟨_,@EO x.pl Wg x.C Low (ml Wg x.C Low nV x.hW x.hC) x.vals x.hW x.hC x.hCW T T' todo _ ⟨.inl Hm,λ_=>(kP TW).trans hx⟩⟩
 ·exact⟨_,@EO y.pl Wg y.C Low (ml Wg y.C Low nV y.hW y.hC) y.vals y.hW y.hC y.hCW T T' todo _ ⟨.inl Hm,λ_=>(kP LQ).trans hy⟩⟩
theorem Pd {Wg Low ch:Nat}{x y:uh Wg Low}{ro own:Nat→Prop}(TW:x.C≠ch)(LQ:y.C≠ch)(Aw:ro x.C)(EP:ro y.C)(T T':Array Ξ)(k:List Item)(ty rt:φ)(bs:Array Bool)(w:Λ)
 (hx:w.heap[x.C]?=some (.cells x.vals.toArray x.pl.ety))(hy:w.heap[y.C]?=some (.cells y.vals.toArray y.pl.ety)):
 jU prog ro ch (LO prog cI.tWg x y) [] own (G ((base 71).at ⟨T',[fW (.chan (some ch)) ty rt bs]⟩ (.code .ret::k)) [Pb.at ⟨T,[dcall 70 #[.pointer (some ⟨Wg,0,none⟩)]]⟩ [.inRegion (yc f69) [2]],(sD prog.funcs.size)]) w:=
 af.silent rfl (λ_=>stepG_ret') (.stop λw₁ hr=>Av TW LQ T T' _ ty rt bs w₁ ((hr.block _ (.inr Aw)).trans hx) ((hr.block _ (.inr EP)).trans hy))
end Go.Ren
set_option linter.unusedSectionVars false
namespace Go.Ren
open Go.Proofs.Tryz
open Go Go.Conc Go.ConcX Go.RowKit Go.Conc.Lib Go.ConcX.Gen Go.Proofs Go.Loop
def eH (t:Tok):Array Ξ:=#[Γ Δ t.kind,Γ Δ t.from_,Γ Δ t.gw,.string ⟨⟨t.text⟩⟩,Γ Δ t.n,Γ Δ t.d,Γ Δ t.fault]
def cg (t:Tok):Ξ:= .agg (eH t)
theorem fc (t:Tok):gq (cg t):=oD λx hx=>by
 simp only[eH,zca,zal,zcb,or_false]at hx;rcases hx with rfl|rfl|rfl|rfl|rfl|rfl|rfl<;>intro ρ<;>simp[rv]
theorem Pf (s:ByteArray):gq (.string s):=λρ=>by simp[rv]
theorem EY (k:IntKind)(n:Int):gq (.int k n):=λρ=>by simp[rv]
theorem LV (t:Bool):gq (.bool t):=λρ=>by simp[rv]
theorem rh:(prog.info? 131).map (λi=>(i.size,i.zero))=some (7,some (cg ⟨0,0,0,[],0,0,0⟩)):=by kernel_rfl
theorem yf (t:Tok):(prog.info? 131).map (·.size)=some (eH t).size:=by
 obtain⟨i,hi,he⟩:=zas.1 rh;simp only[zaf]at he;rw[hi];simp[he.1,eH]
theorem Pg (t:Tok):(eH t).all (·.oneCell')=true:=by simp[eH,Ξ.oneCell']
theorem TX (w:Λ)(r:Nat):(Instr.fieldAt 131 (.pointer (some ⟨r,0,none⟩)) 2).run prog w=.ok (.pointer (some ⟨r,2,none⟩)) w:=by
 simp[go_sem,Instr.fieldAt,ξ,fieldPlace,Addr.add]
theorem aaJ (w:Λ)(a:Addr){v:Ξ}(h:w.cell? a=some v):(ι 3 (.pointer (some a))).run prog w=.ok v w:=by
 simp[go_sem,ι,ξ,loadVar,isAgg,h]
theorem ac0:Fc 120=true:=by kernel_rfl
theorem ac1:Fc 121=true:=by kernel_rfl
def bM:Code→Code|.seq _ c=>c|_=> .skip
def cj:Code→Code|.seq c _=>c|_=> .skip
def TY:Code→Code|.block _ c=>c|_=> .skip
def aaK:Code→Code|.loop c=>c|_=> .skip
def bz:Code→Array Oper|.region _ o _=>o|_=>#[]
def EZ (f:Func):Code:=aaK (TY (bM (bM (f.body.getD .skip))))
def inS (f:Func):Code:=TY (EZ f)
def r2 (f:Func):Array Oper:=bz (cj (inS f))
def in3 (f:Func):Code:=bM (inS f)
def r3 (f:Func):Array Oper:=bz (cj (in3 f))
def Yi (f:Func):Code:=bM (in3 f)
def r4 (f:Func):Array Oper:=bz (cj (cj (Yi f)))
def c4 (f:Func):Code:=bM (cj (Yi f))
def r5 (f:Func):Array Oper:=bz (bM (Yi f))
def kS (f:Func):List Item:=[.inBlock 1,.inLoop (EZ f),.inBlock 0]
variable {Wg Low ch:Nat}{x y:uh Wg Low}{ro own:Nat→Prop}
def csF (n:Nat)(f:Func)(Wg:Nat)(T:Array Ξ):List Φ:=[Pb.at ⟨T,[dcall 70 #[.pointer (some ⟨Wg,0,none⟩)]]⟩ [.inRegion (yc f) [2]],sD n]
structure SA (a:Act) (ch:Nat) (s:List UInt8) (n:Nat) (ty rt:φ) (bs:Array Bool):Prop where
 size:a.tmps.size=16
 txt:a.eval (.tmp 0)=.string ⟨⟨s⟩⟩
 chan:a.eval (.tmp 1)=.chan (some ch)
 here:a.eval (.tmp 4)=Γ Δ n
 defers:a.defers=[fW (.chan (some ch)) ty rt bs]
theorem SA.put {a:Act}{s:List UInt8}{n:Nat}{ty rt:φ}{bs:Array Bool}(h:SA a ch s n ty rt bs){t:Tmp}{v:Ξ}(h0:t≠0)(h1:t≠1)(h4:t≠4):SA (a.put (some t) v) ch s n ty rt bs:=
 ⟨by rw[size_put];exact h.size,by rw[aN h0];exact h.txt,by rw[aN h1];exact h.chan,by rw[aN h4];exact h.here,by rw[cP];exact h.defers⟩
def Hx (x y:uh Wg Low)(W:Λ):Prop:=W.heap[x.C]?=some (.cells x.vals.toArray x.pl.ety)∧W.heap[y.C]?=some (.cells y.vals.toArray y.pl.ety)
theorem Hx.on {W W':Λ}(h:Hx x y W)(hx:ro x.C)(hy:ro y.C)(h':∀b,ro b→W'.heap[b]?=W.heap[b]?):Hx x y W':=⟨(h' _ hx).trans h.1,(h' _ hy).trans h.2⟩
section
variable (TW:x.C≠ch)(LQ:y.C≠ch)(Aw:ro x.C)(EP:ro y.C){s:List UInt8}{T:Array Ξ}{ty rt:φ}{bs:Array Bool}
 (hN:∀(n:Nat) (w:Λ),n≤s.length→ώ prog 120 #[.string ⟨⟨s⟩⟩,Γ Δ n] w λe _=>∃v,e=.returned v∧v=cg (aR s n))
 (hL:∀(t:Tok) (w:Λ),ώ prog 121 #[cg t] w λe _=>∃v,e=.returned v∧v=.bool t.lastB)
theorem jI {main:Bool}{b:Φ}{a:Act}{ops:Array Oper}{i:Nat}{rest:List Nat}{o:Oper}{kk:List Item}{cs:List Φ}{w:Λ}(ho:ops[i]?=some o)(hw:ω o (ϑ ops a.tmps)=true)(hk:b.kind≠.early){f:υ}{xs:Array ό}{ats:Array φ}{args:Array Ξ}(hop:o.op=.call { callee:= .value (.func f),args:=xs,argTypes:=ats })(ha:xs.map a.eval=args)(vL:((prog.funcs[f]?).any λfn=>fn.body.isSome)=true:=by kernel_rfl)(OG:((prog.funcs[f]?).any λfn=>fn.name== "runtime.NumGoroutine")=false:=by kernel_rfl):ϊ prog main (G (b.at a (.inRegion ops (i::rest)::kk)) cs) w=.go (G (Φ.enter prog f args .normal) (b.at a (.inRegion ops (i::rest)::kk)::cs)) w #[]:=by
 subst ha;cases hf:prog.funcs[f]? with
 |none=>rw[hf]at vL;simp at vL
 |some fn=>
  rw[hf]at vL OG;simp only[Option.any_some]at vL OG;obtain⟨cc,hcc⟩:=zcc.1 vL;have hne:¬fn.name= "runtime.NumGoroutine" :=by simpa using OG
  have hr:(Ω a.eval o).run prog w=.ok (.enter f (xs.map a.eval)) w:=by
   unfold Ω;simp[hop,resolve,invoke,callFunc,hf,hcc,hne,π,ϐ,go_sem]
  have he:(Ω a.eval o).events prog w #[]=#[]:=by
   unfold Ω;simp[hop,resolve,invoke,callFunc,hf,hcc,hne,π,ϐ,go_sem]
  rw[stepG_enter ho hw hk hr,listed_none he]
theorem ac2 (w:Λ):prog.globals.size≤(Hl prog w).heap.size:=by rw[oy];exact zac _
include TW LQ Aw EP hN hL in
theorem LW (m:Nat):∀(n:Nat) (a:Act) (W:Λ) (own:Nat→Prop),n≤s.length→s.length-n<m→SA a ch s n ty rt bs→qc ro own W→prog.globals.size≤W.heap.size→Hx x y W→jU prog ro ch (LO prog cI.tWg x y) ((aw m s n).map cg) own (G ((base 71).at a [.code (EZ f71),.inLoop (EZ f71),.inBlock 0]) (csF prog.funcs.size f69 Wg T)) W:=by
 induction m with
 |zero=>intro n a W own _ h;omega
 |succ m ih=>
  intro n a W own hn hm hS hH hb hP;obtain⟨rest,hgp,Bw⟩:∃rest,(aw (m+1) s n).map cg=cg (aR s n)::rest∧rest=if(aR s n).lastB then[]else(aw m s (aR s n).gw).map cg:=by
   refine⟨_,?_,rfl⟩;rw[aw];split<;>simp
  rw[hgp,dR];refine af.silent rfl (λ_=>stepG_block (id:=1) (c:=inS f71)) ?_;refine af.silent rfl (λ_=>zaV (x:= .region 2 (r2 f71) false) (y:=in3 f71)) ?_;refine af.silent rfl (λ_=>zaW) ?_;refine af.mv (ops:=r2 f71) (i:=0) (rest:=[1,2,3,4]) rfl rfl (by decide) (dd:=some 7) rfl (.inl rfl) hS.txt ?_;have hS1:=hS.put (t:=7) (v:= .string ⟨⟨s⟩⟩) (by decide) (by decide) (by decide);have h7:(a.put (some 7) (.string ⟨⟨s⟩⟩)).eval (.tmp 7)=.string ⟨⟨s⟩⟩:=bn (by rw[hS.size];decide);generalize a.put (some 7) (.string ⟨⟨s⟩⟩)=a1 at *;refine af.mv (ops:=r2 f71) (i:=1) (rest:=[2,3,4]) rfl rfl (by decide) (dd:=some 8) rfl (.inl rfl) hS1.here ?_;have Oq:=hS1.put (t:=8) (v:= Γ Δ n) (by decide) (by decide) (by decide);have h8:(a1.put (some 8) (Γ Δ n)).eval (.tmp 8)=Γ Δ n:=bn (by rw[hS1.size];decide);have h7':(a1.put (some 8) (Γ Δ n)).eval (.tmp 7)=.string ⟨⟨s⟩⟩:=(aN (by decide)).trans h7;generalize a1.put (some 8) (Γ Δ n)=a2 at *;refine af.call' mm (cs:=csF prog.funcs.size f69 Wg T) (f:=120) (args:=#[.string ⟨⟨s⟩⟩,Γ Δ n]) ac0 (λv hv=>?_) (Qv:=λv=>v=cg (aR s n)) (λv hv=>hv▸fc _) (c:=(base 71).at a2 (.inRegion (r2 f71) [2,3,4]::.code (in3 f71)::kS f71)) rfl (λw₁=>?_) hb hH (λw' _=>hN n w' hn) ?_
  ·simp only[zca,zal,zcb,or_false]at hv;rcases hv with rfl|rfl
   ·exact Pf _
   ·exact EY _ _
  ·exact jI (ops:=r2 f71) (i:=2) rfl rfl (by decide) rfl (by simp[h7',h8])
  rintro _ W1 afm rfl WO hH1 ac3 ac4;rw[zcj];change af _ _ _ _ _ (G ((base 71).at (a2.put (some 9) (cg (aR s n))) _) _) _;have hS3:=Oq.put (t:=9) (v:=cg (aR s n)) (by decide) (by decide) (by decide);have h9:(a2.put (some 9) (cg (aR s n))).eval (.tmp 9)=cg (aR s n):=bn (by rw[Oq.size];decide);generalize a2.put (some 9) (cg (aR s n))=a3 at *;have hb1:prog.globals.size≤W1.heap.size:=zag hb ac4;have hP1:Hx x y W1:=hP.on Aw EP λb hb=>ac3 b (.inr hb);have hA0:=At.empty (S:=Sc) hH1 hb1;obtain⟨i76,Yj,Ph⟩:=zas.1 rh;simp only[zaf]at Ph;have hg0:=ac2 W1;generalize ek jR prog.globals.size W1.heap.size=ρ0 at hA0;generalize Hl prog W1=w0 at hA0 hg0;refine af.Ox mm (ops:=r2 f71) (i:=3) (rest:=[4]) rfl rfl (by decide) (dd:=some 5) rfl rfl Yj Ph.2 hA0 ?_;intro w1 xO W2 ac5 e1 AD yg;have hs1:w1.heap.size=w0.heap.size:=by rw[e1]
  rw[←hs1];have hS4:=hS3.put (t:=5) (v:= .pointer (some ⟨xO w1.heap.size,0,none⟩)) (by decide) (by decide) (by decide);have h5:(a3.put (some 5) (.pointer (some ⟨xO w1.heap.size,0,none⟩))).eval (.tmp 5)=.pointer (some ⟨xO w1.heap.size,0,none⟩):=bn (by rw[hS3.size];decide);have h9':(a3.put (some 5) (.pointer (some ⟨xO w1.heap.size,0,none⟩))).eval (.tmp 9)=cg (aR s n):=(aN (by decide)).trans h9;generalize a3.put (some 5) (.pointer (some ⟨xO w1.heap.size,0,none⟩))=a4 at *;have hg1:prog.globals.size≤w1.heap.size:=by omega
  refine af.storeT mm (ops:=r2 f71) (i:=4) (rest:=[]) rfl rfl (by decide) (dd:=none) rfl (s:=5) (t:=9) (by decide) rfl (c:=eH ⟨0,0,0,[],0,0,0⟩) (c':=eH (aR s n)) (yf _) rfl (Pg _) AD h5 (by rw[h9'];exact(fc _ _).symm) (fc _ _) hg1 ?_;intro w2 Hr W3 ac6 e2 hA2 WQ;rw[xI];have hs2:w2.heap.size=w1.heap.size:=by rw[e2]
  have hr2:Hr w2.heap.size=xO w1.heap.size:=by rw[hs2];exact WQ.agree _ (by rw[bV];omega)
  rw[←hr2]at h5;have hP3:Hx x y W3:=(hP1.on Aw EP yg.ro).on Aw EP WQ.ro;have hg2:prog.globals.size≤w2.heap.size:=by omega
  refine af.silent rfl (λ_=>zaX) ?_;refine af.silent rfl (λ_=>zaV (x:= .region 3 (r3 f71) false) (y:=Yi f71)) ?_;refine af.silent rfl (λ_=>zaW) ?_;refine af.mv (ops:=r3 f71) (i:=0) (rest:=[1,2]) rfl rfl (by decide) (dd:=some 10) rfl (.inl rfl) hS4.chan ?_;have hS5:=hS4.put (t:=10) (v:= .chan (some ch)) (by decide) (by decide) (by decide);have h10:(a4.put (some 10) (.chan (some ch))).eval (.tmp 10)=.chan (some ch):=bn (by rw[hS4.size];decide);have h5':(a4.put (some 10) (.chan (some ch))).eval (.tmp 5)=.pointer (some ⟨Hr w2.heap.size,0,none⟩):=(aN (by decide)).trans h5;generalize a4.put (some 10) (.chan (some ch))=a5 at *;refine af.loadT mm (ops:=r3 f71) (i:=1) (rest:=[2]) rfl rfl (by decide) (dd:=some 11) rfl (s:=5) rfl underlying131 rfl (yf _) hA2 h5' hg2 ?_;intro w3 Pj W4 ac7 e3 TZ hO3;have hs3:w3.heap.size=w2.heap.size:=by rw[e3]
  have hr3:Pj w3.heap.size=Hr w2.heap.size:=by rw[hs3];exact hO3.agree _ (by rw[bV];omega)
  rw[←hr3]at h5';have Pk:Hx x y W4:=hP3.on Aw EP hO3.ro;have hg3:prog.globals.size≤w3.heap.size:=by omega
  rw[show rv Pj (.agg (eH (aR s n)))=cg (aR s n) from fc _ _];have hS6:=hS5.put (t:=11) (v:=cg (aR s n)) (by decide) (by decide) (by decide);have h11:(a5.put (some 11) (cg (aR s n))).eval (.tmp 11)=cg (aR s n):=bn (by rw[hS5.size];decide);have ac8:(a5.put (some 11) (cg (aR s n))).eval (.tmp 10)=.chan (some ch):=(aN (by decide)).trans h10;have T1:(a5.put (some 11) (cg (aR s n))).eval (.tmp 5)=.pointer (some ⟨Pj w3.heap.size,0,none⟩):=(aN (by decide)).trans h5';generalize a5.put (some 11) (cg (aR s n))=a6 at *;refine .stop λaS hr=>?_;refine⟨rfl,.tuple #[],?_,?_⟩
  ·have hrr:(Ω a6.eval (r3 f71)[2]).run prog aS=.ok (.comm #[scase ch (cg (aR s n)) (.tuple #[])] true .send) aS:=by
    show(pure (.comm #[{ chan:=a6.eval (.tmp 10),send:=some (a6.eval (.tmp 11)),zero:= .tuple #[] }] true .send):Sem Next).run prog aS=_;rw[ac8,h11];rfl
   rw[stepG_comm (ops:=r3 f71) (i:=2) rfl rfl (by decide) hrr,listed_none rfl];rfl
  show jU _ _ _ _ _ _ (G (((base 71).at a6 (.inRegion (r3 f71) [2]::.code (Yi f71)::kS f71)).finish Θ) (csF prog.funcs.size f69 Wg T)) aS;rw[zcj];change jU _ _ _ _ _ _ (G ((base 71).at a6 (.inRegion (r3 f71) []::.code (Yi f71)::kS f71)) (csF prog.funcs.size f69 Wg T)) aS;obtain⟨hA4,hO4⟩:=TZ.rely hr;generalize ek Pj (w3.alloc (Obj.cells (eH (aR s n)) 131)).heap.size aS.heap.size=ρ4 at hA4 hO4;have hr4:ρ4 w3.heap.size=Pj w3.heap.size:=hO4.agree _ (by rw[bV];omega);rw[←hr4]at T1;have hP5:Hx x y aS:=Pk.on Aw EP hO4.ro;have j8:prog.globals.size≤aS.heap.size:=hA4.vG.qb;clear hA0 AD hA2 TZ yg WQ hO3 hO4 hP hP1 hP3 Pk;rw[dR];refine af.silent rfl (λ_=>zaX) ?_;refine af.silent rfl (λ_=>zaV (x:=cj (Yi f71)) (y:= .region 5 (r5 f71) false)) ?_;refine af.silent rfl (λ_=>zaV (x:= .region 4 (r4 f71) false) (y:=c4 f71)) ?_;refine af.silent rfl (λ_=>zaW) ?_;refine af.loadT mm (ops:=r4 f71) (i:=0) (rest:=[1]) rfl rfl (by decide) (dd:=some 12) rfl (s:=5) rfl underlying131 rfl (yf _) hA4 T1 hg3 ?_;intro w5 Kc W5 ac9 e5 T2 hO5;have hs5:w5.heap.size=w3.heap.size:=by rw[e5]
  have SN:Kc w5.heap.size=ρ4 w3.heap.size:=by rw[hs5];exact hO5.agree _ (by rw[bV];omega)
  rw[←SN]at T1;have hP6:Hx x y W5:=hP5.on Aw EP hO5.ro;have hg5:prog.globals.size≤w5.heap.size:=by omega
  rw[show rv Kc (.agg (eH (aR s n)))=cg (aR s n) from fc _ _];have hS7:=hS6.put (t:=12) (v:=cg (aR s n)) (by decide) (by decide) (by decide);have DR:(a6.put (some 12) (cg (aR s n))).eval (.tmp 12)=cg (aR s n):=bn (by rw[hS6.size];decide);have h5c:(a6.put (some 12) (cg (aR s n))).eval (.tmp 5)=.pointer (some ⟨Kc w5.heap.size,0,none⟩):=(aN (by decide)).trans T1;generalize a6.put (some 12) (cg (aR s n))=a7 at *;refine af.call' mm (cs:=csF prog.funcs.size f69 Wg T) (f:=121) (args:=#[cg (aR s n)]) ac1 (λv hv=>?_) (Qv:=λv=>v=.bool (aR s n).lastB) (λv hv=>hv▸LV _) (c:=(base 71).at a7 (.inRegion (r4 f71) [1]::.code (c4 f71)::.code (.region 5 (r5 f71) false)::kS f71)) rfl (λw₁=>?_) T2.vG.qb T2.hold (λw' _=>hL _ w') ?_
  ·simp only[zca,zal,zcb,or_false]at hv;subst hv;exact fc _
  ·exact jI (ops:=r4 f71) (i:=1) rfl rfl (by decide) rfl (by simp[DR])
  rintro _ W6 afn rfl ho6 hH6 ada aaL;rw[zcj];change af _ _ _ _ _ (G ((base 71).at (a7.put (some 13) (.bool (aR s n).lastB)) _) _) _;obtain⟨hA6,hO6⟩:=T2.call ada aaL ho6 hH6;generalize ek Kc (w5.alloc (Obj.cells (eH (aR s n)) 131)).heap.size W6.heap.size=ρ6 at hA6 hO6;have AE:ρ6 w5.heap.size=Kc w5.heap.size:=hO6.agree _ (by rw[bV];omega);rw[←AE]at h5c;have hP7:Hx x y W6:=hP6.on Aw EP hO6.ro;have hS8:=hS7.put (t:=13) (v:= .bool (aR s n).lastB) (by decide) (by decide) (by decide);have h13:(a7.put (some 13) (.bool (aR s n).lastB)).eval (.tmp 13)=.bool (aR s n).lastB:=bn (by rw[hS7.size];decide);have h5d:(a7.put (some 13) (.bool (aR s n).lastB)).eval (.tmp 5)=.pointer (some ⟨ρ6 w5.heap.size,0,none⟩):=(aN (by decide)).trans h5c;generalize a7.put (some 13) (.bool (aR s n).lastB)=a8 at *;refine af.silent rfl (λ_=>zaX) ?_;refine af.silent rfl (λ_=>stepG_cond (c:= .tmp 13) (x:= .ret) (y:= .skip) h13) ?_;by_cases oF:(aR s n).lastB=true
  ·rw[zab oF]at Bw;rw[Bw,oF,←dR];obtain⟨T8,D8⟩:=a8;have hD:D8=[fW (.chan (some ch)) ty rt bs]:=hS8.defers;subst hD;exact Pd TW LQ Aw EP T T8 _ ty rt bs W6 hP7.1 hP7.2
  have Pm:(aR s n).lastB=false:=by simpa using oF
  rw[zaa oF]at Bw;rw[Bw,Pm];refine af.silent rfl (λ_=>stepG_skip) ?_;refine af.silent rfl (λ_=>zaW) ?_;refine af.X2 mm (ops:=r5 f71) (i:=0) (rest:=[1,2]) rfl rfl (by decide) (dd:=some 14) rfl (s:=5) (j:=2) (off:=2) rfl TX hA6 h5d hg5 ?_;intro w7 ρ7 W7 afo e7 hA7 hO7;have hs7:w7.heap.size=w5.heap.size:=by rw[e7]
  rw[←hs7];have hS9:=hS8.put (t:=14) (v:= .pointer (some ⟨ρ7 w7.heap.size,2,none⟩)) (by decide) (by decide) (by decide);have rG:(a8.put (some 14) (.pointer (some ⟨ρ7 w7.heap.size,2,none⟩))).eval (.tmp 14)=.pointer (some ⟨ρ7 w7.heap.size,2,none⟩):=bn (by rw[hS8.size];decide);generalize a8.put (some 14) (.pointer (some ⟨ρ7 w7.heap.size,2,none⟩))=a9 at *;have hP8:Hx x y W7:=hP7.on Aw EP hO7.ro;refine af.aal mm (ops:=r5 f71) (i:=1) (rest:=[2]) rfl rfl (by decide) (dd:=some 15) rfl (s:=14) (off:=2) rfl (v:= Γ Δ (aR s n).gw) (λw a h=>aaJ w a h) rfl hA7 rG (by omega) ?_;intro w8 ρ8 W8 adb e8 hA8 hO8;have hP9:Hx x y W8:=hP8.on Aw EP hO8.ro;rw[EY];have Pn:=hS9.put (t:=15) (v:= Γ Δ (aR s n).gw) (by decide) (by decide) (by decide);have h15:(a9.put (some 15) (Γ Δ (aR s n).gw)).eval (.tmp 15)=Γ Δ (aR s n).gw:=bn (by rw[hS9.size];decide);generalize a9.put (some 15) (Γ Δ (aR s n).gw)=a10 at *;refine af.mv (ops:=r5 f71) (i:=2) (rest:=[]) rfl rfl (by decide) (dd:=some 4) rfl (.inr rfl) h15 ?_;have ade:SA (a10.put (some 4) (Γ Δ (aR s n).gw)) ch s (aR s n).gw ty rt bs:=⟨by rw[size_put];exact Pn.size,by rw[aN (by decide)];exact Pn.txt,by rw[aN (by decide)];exact Pn.chan,bn (by rw[Pn.size];decide),by rw[cP];exact Pn.defers⟩;generalize a10.put (some 4) (Γ Δ (aR s n).gw)=a11 at *;refine af.silent rfl (λ_=>zaX) ?_;refine af.silent rfl (λ_=>stepG_inBlock) ?_;refine af.silent rfl (λ_=>stepG_inLoop) ?_;obtain⟨f1,f2,f3⟩:=ju hn;have f4:=f3 Pm;have:=ih (aR s n).gw a11 W8 adb f2 (by omega) ade hA8.hold hA8.vG.qb hP9;rw[dR]at this;exact this
end
end Go.Ren
set_option linter.unusedSectionVars false
namespace Go.Ren
open Go.Proofs.Tryz
open Go Go.Conc Go.ConcX Go.RowKit Go.Conc.Lib Go.ConcX.Gen Go.Proofs Go.Loop
theorem Po {e:φ}(he:e=9∨e=132)(w:Λ)(ad:Addr){v:Ξ}(h:w.cell? ad=some v):(ι e (.pointer (some ad))).run prog w=.ok v w∧∀ev∈(ι e (.pointer (some ad))).events prog w #[],ev.loc=.cell ad∧ev.write=false:=by
 rcases he with rfl|rfl
 ·refine⟨by simp[go_sem,ι,ξ,loadVar,isAgg,h],λev he=>?_⟩;have:(ι 9 (.pointer (some ad))).events prog w #[]=(load ad).events prog w #[]:=by simp[go_sem,ι,ξ,loadVar,isAgg]
  rw[this]at he;exact(events_load_at w ad _ #[] h ev he).resolve_left (by simp)
 ·refine⟨by simp[go_sem,ι,ξ,loadVar,isAgg,h],λev he=>?_⟩;have:(ι 132 (.pointer (some ad))).events prog w #[]=(load ad).events prog w #[]:=by simp[go_sem,ι,ξ,loadVar,isAgg]
  rw[this]at he;exact(events_load_at w ad _ #[] h ev he).resolve_left (by simp)
def uk (Wg X Y:Nat):Deferred:={ target:= .fn (.func 69) #[.pointer (some ⟨Wg,0,none⟩),.pointer (some ⟨X,0,none⟩),.pointer (some ⟨Y,0,none⟩)],args:=#[] }
def WT (Wg X Y:Nat):Array Ξ:=#[.pointer (some ⟨Wg,0,none⟩),.pointer (some ⟨X,0,none⟩),.pointer (some ⟨Y,0,none⟩),Θ,Θ,Θ]
def AG (f:Func):Code:=f.body.getD .skip
theorem LX (Wg X Y:Nat)(w:Λ):ϊ prog false (born prog (uk Wg X Y)) w=.go (G (Pb.at ⟨WT Wg X Y,[]⟩ [.code (AG f69)]) [(sD prog.funcs.size)]) w #[]:=by
 simp[born,ϊ,unwind,callDeferred,uk,invoke,callFunc,f69,GStep.after,G,Φ.enter,Pb,baseD,Φ.at,WT,AG,sD,seen]
def r24 (f:Func):Array Oper:=bz (cj (AG f))
def a26 (s:List UInt8)(ch:Nat):Act:=⟨#[.string ⟨⟨s⟩⟩,.chan (some ch)]++θ 14 Θ,[]⟩
variable {Wg Low ch:Nat}{x y:uh Wg Low}{ro:Nat→Prop}
section
variable (TW:x.C≠ch)(LQ:y.C≠ch)(Aw:ro x.C)(EP:ro y.C){s:List UInt8}
 (hN:∀(n:Nat) (w:Λ),n≤s.length→ώ prog 120 #[.string ⟨⟨s⟩⟩,Γ Δ n] w λe _=>∃v,e=.returned v∧v=cg (aR s n))
 (hL:∀(t:Tok) (w:Λ),ώ prog 121 #[cg t] w λe _=>∃v,e=.returned v∧v=.bool t.lastB)
include TW LQ Aw EP hN hL in
theorem Ic (W:Λ)(hH:qc ro (λ_=>False) W)(hb:prog.globals.size≤W.heap.size)(hP:Hx x y W)(hx:W.cell? ⟨x.C,0,none⟩=some (.string ⟨⟨s⟩⟩))(hy:W.cell? ⟨y.C,0,none⟩=some (.chan (some ch))):jU prog ro ch (LO prog cI.tWg x y) ((aw (s.length+1) s 0).map cg) (λ_=>False) (born prog (uk Wg x.C y.C)) W:=by
 rw[dR];refine af.silent rfl (λ_=>LX _ _ _ _) ?_;refine af.silent rfl (λ_=>zaV (x:= .region 0 (r24 f69) false) (y:= .region 1 (yc f69) false)) ?_;refine af.silent rfl (λ_=>zaW) ?_;refine af.silent rfl (λ_=>stepG_defer (ops:=r24 f69) (i:=0) (rest:=[]) rfl rfl (by decide) rfl) ?_;refine af.silent rfl (λ_=>zaX) ?_;refine af.silent rfl (λ_=>zaW) ?_;have hm:Array.map (⟨WT Wg x.C y.C,[]⟩:Act).eval #[ό.tmp 0]=#[.pointer (some ⟨Wg,0,none⟩)]:=by simp[π,WT]
 rw[hm];change af _ _ _ _ _ (G (Pb.at ⟨WT Wg x.C y.C,[dcall 70 #[.pointer (some ⟨Wg,0,none⟩)]]⟩ [.inRegion (yc f69) [0,1,2]]) [(sD prog.funcs.size)]) W;refine af.Ib (ops:=(yc f69)) (i:=0) (rest:=[1,2]) rfl rfl (by decide) (dd:=some 3) rfl (e:=9) (x:= .tmp 1) rfl (ad:=⟨x.C,0,none⟩) rfl Aw hx (λw h=>Po (.inl rfl) w _ h) ?_;refine af.Ib (ops:=(yc f69)) (i:=1) (rest:=[2]) rfl rfl (by decide) (dd:=some 4) rfl (e:=132) (x:= .tmp 2) rfl (ad:=⟨y.C,0,none⟩) rfl EP hy (λw h=>Po (.inr rfl) w _ h) ?_;refine af.silent rfl (λ_=>jI (ops:=(yc f69)) (i:=2) (rest:=[]) (f:=71) (args:=#[.string ⟨⟨s⟩⟩,.chan (some ch)]) rfl rfl (by decide) rfl (by simp[π,ύ,WT])) ?_;have he:=enter_at (P:=prog) (f:=71) (c:=AG f71) #[.string ⟨⟨s⟩⟩,.chan (some ch)] aaI rfl;rw[he];obtain⟨T,hT⟩:∃T:Array Ξ,T=(ύ (ύ ⟨WT Wg x.C y.C,[dcall 70 #[.pointer (some ⟨Wg,0,none⟩)]]⟩ (some 3) (.string ⟨⟨s⟩⟩)) (some 4) (.chan (some ch))).tmps:=⟨_,rfl⟩;change af _ _ _ _ _ (G ((base 71).at (a26 s ch) [.code (AG f71)]) [Pb.at ⟨(ύ (ύ ⟨WT Wg x.C y.C,[dcall 70 #[.pointer (some ⟨Wg,0,none⟩)]]⟩ (some 3) (.string ⟨⟨s⟩⟩)) (some 4) (.chan (some ch))).tmps,[dcall 70 #[.pointer (some ⟨Wg,0,none⟩)]]⟩ [.inRegion (yc f69) [2]],(sD prog.funcs.size)]) W;rw[←hT];change af _ _ _ _ _ (G ((base 71).at (a26 s ch) [.code (AG f71)]) (csF prog.funcs.size f69 Wg T)) W;refine af.silent rfl (λ_=>zaV (x:= .region 0 (r24 f71) false) (y:=bM (AG f71))) ?_;refine af.silent rfl (λ_=>zaW) ?_;have q0:(a26 s ch).eval (.tmp 0)=.string ⟨⟨s⟩⟩:=by simp[a26,π]
 have q1:(a26 s ch).eval (.tmp 1)=.chan (some ch):=by simp[a26,π]
 have qs:(a26 s ch).tmps.size=16:=by simp[a26]
 have qd:(a26 s ch).defers=[]:=rfl;generalize a26 s ch=a at *;refine af.mv (ops:=r24 f71) (i:=0) (rest:=[1]) rfl rfl (by decide) (dd:=some 6) rfl (.inl rfl) q1 ?_;have q6:(a.put (some 6) (.chan (some ch))).eval (.tmp 6)=.chan (some ch):=bn (by rw[qs];decide);have q0':(a.put (some 6) (.chan (some ch))).eval (.tmp 0)=.string ⟨⟨s⟩⟩:=(aN (by decide)).trans q0;have q1':(a.put (some 6) (.chan (some ch))).eval (.tmp 1)=.chan (some ch):=(aN (by decide)).trans q1;have qs':(a.put (some 6) (.chan (some ch))).tmps.size=16:=size_put.trans qs;have qd':(a.put (some 6) (.chan (some ch))).defers=[]:=cP.trans qd;generalize a.put (some 6) (.chan (some ch))=a1 at *;refine af.silent rfl (λ_=>sx (ops:=r24 f71) (i:=1) (rest:=[]) (x:=6) (ty:=206) rfl rfl (by decide) rfl) ?_;rw[q6,qd'];change af _ _ _ _ _ (G ((base 71).at ⟨a1.tmps,[fW (.chan (some ch)) 206 0 #[false]]⟩ _) _) _;have p0:(⟨a1.tmps,[fW (.chan (some ch)) 206 0 #[false]]⟩:Act).eval (.tmp 0)=.string ⟨⟨s⟩⟩:=q0';have p1:(⟨a1.tmps,[fW (.chan (some ch)) 206 0 #[false]]⟩:Act).eval (.tmp 1)=.chan (some ch):=q1';have ps:(⟨a1.tmps,[fW (.chan (some ch)) 206 0 #[false]]⟩:Act).tmps.size=16:=qs';have pd:(⟨a1.tmps,[fW (.chan (some ch)) 206 0 #[false]]⟩:Act).defers=[fW (.chan (some ch)) 206 0 #[false]]:=rfl;generalize (⟨a1.tmps,[fW (.chan (some ch)) 206 0 #[false]]⟩:Act)=a2 at *;refine af.silent rfl (λ_=>zaX) ?_;refine af.silent rfl (λ_=>zaV (x:= .region 1 (bz (cj (bM (AG f71)))) false) (y:=bM (bM (AG f71)))) ?_;refine af.silent rfl (λ_=>zaW) ?_;refine af.mv (ops:=bz (cj (bM (AG f71)))) (i:=0) (rest:=[]) rfl rfl (by decide) (dd:=some 4) rfl (.inr rfl) (v:= Γ Δ 0) rfl ?_;have hSA:SA (a2.put (some 4) (Γ Δ 0)) ch s 0 206 0 #[false]:=⟨size_put.trans ps,(aN (by decide)).trans p0,(aN (by decide)).trans p1,bn (by rw[ps];decide),cP.trans pd⟩;generalize a2.put (some 4) (Γ Δ 0)=a3 at *;refine af.silent rfl (λ_=>zaX) ?_;refine af.silent rfl (λ_=>stepG_block (id:=0) (c:= .loop (EZ f71))) ?_;refine af.silent rfl (λ_=>stepG_loop) ?_;have:=LW TW LQ Aw EP (T:=T) hN hL (s.length+1) 0 a3 W (λ_=>False) (zaq _) (by omega) hSA hH hb hP;rw[dR]at this;exact this
end
end Go.Ren
set_option linter.unusedSectionVars false
namespace Go.Ren
open Go.Proofs.Tryz
open Go Go.Conc Go.ConcX Go.RowKit Go.Conc.Lib Go.ConcX.Gen Go.Proofs Go.Loop
theorem Yk (t:Tok):Instr.fill (λi=>some (i*7,7)) (Array.map (λx=>(cg ⟨0,0,0,[],0,0,0⟩).cells[x%(cg ⟨0,0,0,[],0,0,0⟩).cells.size]!) (Array.range 7)) [(0,cg t)]=some (eH t):=by kernel_rfl
theorem T3 (t:Tok)(w:Λ):(Instr.buildSlice 85 1 #[(0,cg t)]).run prog w=.ok (.slice (some ⟨w.heap.size,0,none⟩) 1 1) (w.alloc (.cells (eH t) 131)):=by
 obtain⟨i,hi,he⟩:=zas.1 rh;simp only[zaf]at he;have hu:prog.underlying 85=some (.slice 131):=by kernel_rfl
 simp[Instr.buildSlice,run_underlying hu,sizeOf,χ,hi,he.1,he.2,ϋ,newRow,Yk]
theorem T4:(prog.info? 131).map (λi=>i.bytes)=some 64:=by kernel_rfl
theorem Pp {o:Oper}{x y:ό}(hop:o.op=.call { callee:= .builtin .append,args:=#[x,y],argTypes:=#[85,85] }){ev:ό→Ξ}{w:Λ}{v:Ξ}{n:Nat}{xs:List Ξ}(hown:w.ownsRow prog.globals.size 131 7 v n xs)(hb:prog.globals.size≤w.heap.size)(hn:n+1≤1000000)
 {t:Tok}{r:Nat}(hr:w.heap[r]?=some (.cells (eH t) 131))(hx:ev x=v)(hy:ev y=.slice (some ⟨r,0,none⟩) 1 1):
 ∃v' w',(Ω ev o).run prog w=.ok (.value v') w'∧w'.ownsRow prog.globals.size 131 7 v' (n+1) (xs++(eH t).toList):=by
 obtain⟨i,hi,he⟩:=zas.1 rh;simp only[zaf]at he;have hu:prog.underlying 85=some (.slice 131):=by kernel_rfl
 have hby:i.bytes=64:=by have:=T4;rw[hi]at this;simpa using this
 obtain⟨v',w',h1,h2,_⟩:=run_append_own_wide (P:=prog) (w:=w) prog.globals.size 85 o.type 131 i _ 7 64 hu hi he.2 he.1 hby rfl (by decide) v n xs hown ⟨r,0,none⟩ 1 1 (eH t).toList rfl (λj u hj=>by
  rw[Addr.add_mid];simp only[Λ.cell?,hr];simpa using hj) (λu hu=>by
   have:=Pg t;rw[zcd]at this;exact this u (by simpa using hu)) (by simp only[maxLen];omega) (by omega) hb
 refine⟨v',w',?_,h2⟩;unfold Ω;simp only[hop,resolve,invoke,builtin,zba,zbd,zbb,zbR,zaB,zbt,hx,hy,h1]
def dC:Nat→Code→Code
 |0,c=>c
 |n+1,c=>dC n (bM c)
def D5 (f:Func):Code:=dC 5 (AG f)
def D6 (f:Func):Code:=dC 6 (AG f)
def D10 (f:Func):Code:=dC 7 (AG f)
def D11 (f:Func):Code:=dC 8 (AG f)
def g5 (f:Func):Array Oper:=bz (cj (D5 f))
def g6 (f:Func):Array Oper:=bz (cj (cj (D6 f)))
def Lg (f:Func):Code:=aaK (TY (bM (cj (D6 f))))
def g7 (f:Func):Array Oper:=bz (cj (Lg f))
def Mg (f:Func):Code:=TY (bM (bM (Lg f)))
def g8 (f:Func):Array Oper:=bz (cj (Mg f))
def g9 (f:Func):Array Oper:=bz (bM (Mg f))
def g10 (f:Func):Array Oper:=bz (cj (D10 f))
def g11 (f:Func):Array Oper:=bz (cj (D11 f))
def kG (f:Func):List Item:=[.inLoop (Lg f),.inBlock 0,.code (D10 f)]
def um:Tok:=⟨0,0,0,[],0,0,0⟩
structure GtA (a:Act) (X Y Wg ch:Nat):Prop where
 size:a.tmps.size=20
 s1:a.eval (.tmp 1)=.pointer (some ⟨X,0,none⟩)
 s3:a.eval (.tmp 3)=.pointer (some ⟨Y,0,none⟩)
 s4:a.eval (.tmp 4)=.pointer (some ⟨Wg,0,none⟩)
 s10:a.eval (.tmp 10)=.chan (some ch)
 defers:a.defers=[]
variable {Wg Low ch X Y:Nat}{x y:uh Wg Low}{ro own:Nat→Prop}{cs:List Φ}
theorem GtA.put {a:Act}(h:GtA a X Y Wg ch){t:Tmp}{v:Ξ}(h1:t≠1)(h3:t≠3)(h4:t≠4)(h10:t≠10):GtA (a.put (some t) v) X Y Wg ch:=
 ⟨size_put.trans h.size,(aN h1).trans h.s1,(aN h3).trans h.s3,(aN h4).trans h.s4,(aN h10).trans h.s10,cP.trans h.defers⟩
structure GR (ro:Nat→Prop) (X Y Wg ch:Nat) (xs:List Tok) (own:Nat→Prop) (a:Act) (W:Λ):Prop where
 ga:GtA a X Y Wg ch
 row:∃ρ w v,At prog Sc ro ρ w W own∧a.eval (.tmp 5)=rv ρ v∧Cl prog Sc w v∧w.ownsRow prog.globals.size 131 7 v xs.length (xs.flatMap λt=>(eH t).toList)
theorem T5 (xs:List Tok)(t:Tok):(xs++[t]).flatMap (λt=>(eH t).toList)=xs.flatMap (λt=>(eH t).toList)++(eH t).toList:=by simp
theorem T6 (a:Act)(W:Λ)(h:a.eval (.tmp 10)=.chan (some ch)):(Ω a.eval (g7 f43)[0]).run prog W=.ok (.comm #[rcase ch (cg um)] true (.recv true)) W∧(Ω a.eval (g7 f43)[0]).events prog W #[]=#[]:=by
 obtain⟨i,hi,he⟩:=zas.1 rh;simp only[zaf]at he;obtain⟨dir,hu⟩:∃dir,prog.underlying 132=some (.chan dir 131):=⟨_,underlying132⟩;have hop:(g7 f43)[0].op=.recv 132 (.tmp 10) true:=rfl;constructor
 ·unfold Ω;simp[hop,run_underlying hu,ϋ,χ,hi,he.2,h,rcase,um]
 ·unfold Ω;simp[hop,run_underlying hu,ϋ,χ,hi,he.2]
theorem Kd (a:Act)(W:Λ)(h:a.eval (.tmp 10)=.chan (some ch)):ϊ prog true (G ((base 43).at a (.inRegion (g7 f43) [0,1]::.code (bM (Lg f43))::kG f43)) cs) W=.comm (core (G ((base 43).at a (.inRegion (g7 f43) [0,1]::.code (bM (Lg f43))::kG f43)) cs)) #[rcase ch (cg um)] true (.recv true) W #[]:=by
 obtain⟨h1,h2⟩:=T6 a W h;rw[stepG_comm (ops:=g7 f43) (i:=0) (rest:=[1]) rfl rfl (by decide) h1,listed_none h2];rfl
theorem GR.rely {W aS:Λ}{xs:List Tok}{a:Act}(h:GR ro X Y Wg ch xs own a W)(hr:cq ro own W aS):GR ro X Y Wg ch xs own a aS:=by
 obtain⟨ρ,w,v,hA,h5,fK,hrow⟩:=h.row;obtain⟨AD,yg⟩:=hA.rely hr;exact⟨h.ga,_,w,v,AD,by rw[h5];exact(fK.agree yg.agree (Er hA.vG AD.vG)).symm,fK,hrow⟩
theorem LY {Fin:(Nat→Prop)→ζ→Λ→Prop}(ts:List Tok)
 :∀(xs:List Tok) (own:Nat→Prop) (a:Act) (W:Λ),GR ro X Y Wg ch xs own a W→xs.length+ts.length≤1000000→
  (∀own a W,GR ro X Y Wg ch (xs++ts) own a W→Fin own (G ((base 43).at (a.put (some 11) (.tuple #[cg um,.bool false])) (.inRegion (g7 f43) [1]::.code (bM (Lg f43))::kG f43)) cs) W)→
  lR prog ro ch (cg um) Fin (ts.map cg) own (G ((base 43).at a (.code (Lg f43)::kG f43)) cs) W:=by
 induction ts with
 |nil=>
  intro xs own a W h _ hF;rw[cQ];refine af.silent rfl (λ_=>zaV (x:= .region 7 (g7 f43) false) (y:=bM (Lg f43))) ?_;refine af.silent rfl (λ_=>zaW) ?_;refine .stop λaS hr=>?_;have h1:=h.rely hr;refine⟨rfl,Kd a aS h.ga.s10,?_⟩;show Fin own (G (((base 43).at a (.inRegion (g7 f43) [0,1]::.code (bM (Lg f43))::kG f43)).finish _) cs) aS;rw[zcj];exact hF own a aS (by simpa using h1)
 |cons t ts ih=>
  intro xs own a W h hlen hF;rw[cQ];refine af.silent rfl (λ_=>zaV (x:= .region 7 (g7 f43) false) (y:=bM (Lg f43))) ?_;refine af.silent rfl (λ_=>zaW) ?_;refine .stop λaS hr=>?_;have h1:=h.rely hr;refine⟨rfl,Kd a aS h.ga.s10,?_⟩;show lR _ _ _ _ _ _ own (G (((base 43).at a (.inRegion (g7 f43) [0,1]::.code (bM (Lg f43))::kG f43)).finish _) cs) aS;rw[zcj,cQ];change af _ _ _ _ _ (G ((base 43).at (a.put (some 11) (.tuple #[cg t,.bool true])) (.inRegion (g7 f43) [1]::.code (bM (Lg f43))::kG f43)) cs) aS;clear h hr;obtain⟨hg,ρ,w,v,hA,h5,fK,hrow⟩:=h1;have hg1:=hg.put (t:=11) (v:= .tuple #[cg t,.bool true]) (by decide) (by decide) (by decide) (by decide);have Nz:(a.put (some 11) (.tuple #[cg t,.bool true])).eval (.tmp 11)=.tuple #[cg t,.bool true]:=bn (by rw[hg.size];decide);have k5:(a.put (some 11) (.tuple #[cg t,.bool true])).eval (.tmp 5)=rv ρ v:=(aN (by decide)).trans h5;generalize a.put (some 11) (.tuple #[cg t,.bool true])=a1 at *;refine af.aak (ops:=g7 f43) (i:=1) (rest:=[]) rfl rfl (by decide) (dd:=some 12) rfl rfl Nz (v:= .bool true) rfl ?_;have hg2:=hg1.put (t:=12) (v:= .bool true) (by decide) (by decide) (by decide) (by decide);have k12:(a1.put (some 12) (.bool true)).eval (.tmp 12)=.bool true:=bn (by rw[hg1.size];decide);replace Nz:(a1.put (some 12) (.bool true)).eval (.tmp 11)=.tuple #[cg t,.bool true]:=(aN (by decide)).trans Nz;replace k5:(a1.put (some 12) (.bool true)).eval (.tmp 5)=rv ρ v:=(aN (by decide)).trans k5;generalize a1.put (some 12) (.bool true)=a2 at *;refine af.silent rfl (λ_=>zaX) ?_;refine af.silent rfl (λ_=>zaV (x:= .cond (.tmp 12) .skip (.exit 0)) (y:= .block 1 (Mg f43))) ?_;refine af.silent rfl (λ_=>stepG_cond k12) ?_;refine af.silent rfl (λ_=>stepG_skip) ?_;refine af.silent rfl (λ_=>stepG_block) ?_;refine af.silent rfl (λ_=>zaV (x:= .region 8 (g8 f43) false) (y:= .region 9 (g9 f43) false)) ?_;refine af.silent rfl (λ_=>zaW) ?_;refine af.aak (ops:=g8 f43) (i:=0) (rest:=[1,2]) rfl rfl (by decide) (dd:=some 13) rfl rfl Nz (v:=cg t) rfl ?_;have hg3:=hg2.put (t:=13) (v:=cg t) (by decide) (by decide) (by decide) (by decide);have k13:(a2.put (some 13) (cg t)).eval (.tmp 13)=cg t:=bn (by rw[hg2.size];decide);replace k5:(a2.put (some 13) (cg t)).eval (.tmp 5)=rv ρ v:=(aN (by decide)).trans k5;generalize a2.put (some 13) (cg t)=a3 at *;obtain⟨i76,Yj,Ph⟩:=zas.1 rh;simp only[zaf]at Ph;have hgw:prog.globals.size≤w.heap.size:=hA.vG.wr.big.p;refine af.Ox mm (ops:=g8 f43) (i:=1) (rest:=[2]) rfl rfl (by decide) (dd:=some 6) rfl rfl Yj Ph.2 hA ?_;intro w1 xO W2 ac5 e1 AD yg;have hs1:w1.heap.size=w.heap.size:=by rw[e1]
  have NA:rv xO v=rv ρ v:=fK.agree yg.agree (Er hA.vG AD.vG);have Oi:Cl prog Sc w1 v:=by unfold Cl at fK ⊢;rw[hs1];exact fK
  have WU:w1.ownsRow prog.globals.size 131 7 v xs.length (xs.flatMap λt=>(eH t).toList):=by unfold Λ.ownsRow at hrow ⊢;rw[e1];exact hrow
  rw[←hs1];have hg4:=hg3.put (t:=6) (v:= .pointer (some ⟨xO w1.heap.size,0,none⟩)) (by decide) (by decide) (by decide) (by decide);have k6:(a3.put (some 6) (.pointer (some ⟨xO w1.heap.size,0,none⟩))).eval (.tmp 6)=.pointer (some ⟨xO w1.heap.size,0,none⟩):=bn (by rw[hg3.size];decide);replace k13:(a3.put (some 6) (.pointer (some ⟨xO w1.heap.size,0,none⟩))).eval (.tmp 13)=cg t:=(aN (by decide)).trans k13;replace k5:(a3.put (some 6) (.pointer (some ⟨xO w1.heap.size,0,none⟩))).eval (.tmp 5)=rv xO v:=((aN (by decide)).trans k5).trans NA.symm;generalize a3.put (some 6) (.pointer (some ⟨xO w1.heap.size,0,none⟩))=a4 at *;have adf:prog.globals.size≤w1.heap.size:=by omega
  refine af.storeT mm (ops:=g8 f43) (i:=2) (rest:=[]) rfl rfl (by decide) (dd:=none) rfl (s:=6) (t:=13) (by decide) rfl (c:=eH ⟨0,0,0,[],0,0,0⟩) (c':=eH t) (yf _) rfl (Pg _) AD k6 (by rw[k13];exact(fc _ _).symm) (fc _ _) adf ?_;intro w2 Hr W3 ac6 e2 hA2 WQ;rw[xI];have hs2:w2.heap.size=w1.heap.size:=by rw[e2]
  have hr2:Hr w2.heap.size=xO w1.heap.size:=by rw[hs2];exact WQ.agree _ (by rw[bV];omega)
  have hv2:rv Hr v=rv xO v:=Oi.agree (λr hr=>WQ.agree r (by rw[bV];omega)) (Er AD.vG hA2.vG);have Oj:Cl prog Sc w2 v:=by unfold Cl at Oi ⊢;rw[hs2];exact Oi
  have hrow2:w2.ownsRow prog.globals.size 131 7 v xs.length (xs.flatMap λt=>(eH t).toList):=by unfold Λ.ownsRow at WU ⊢;rw[e2];exact WU
  rw[←hr2]at k6;rw[←hv2]at k5;have adg:prog.globals.size≤w2.heap.size:=by omega
  refine af.silent rfl (λ_=>zaX) ?_;refine af.silent rfl (λ_=>zaW) ?_;refine af.mv (ops:=g9 f43) (i:=0) (rest:=[1,2,3,4]) rfl rfl (by decide) (dd:=some 14) rfl (.inl rfl) k5 ?_;have hg5:=hg4.put (t:=14) (v:=rv Hr v) (by decide) (by decide) (by decide) (by decide);have Yl:(a4.put (some 14) (rv Hr v)).eval (.tmp 14)=rv Hr v:=bn (by rw[hg4.size];decide);replace k6:(a4.put (some 14) (rv Hr v)).eval (.tmp 6)=.pointer (some ⟨Hr w2.heap.size,0,none⟩):=(aN (by decide)).trans k6;generalize a4.put (some 14) (rv Hr v)=a5 at *;refine af.loadT mm (ops:=g9 f43) (i:=1) (rest:=[2,3,4]) rfl rfl (by decide) (dd:=some 15) rfl (s:=6) rfl underlying131 rfl (yf _) hA2 k6 adg ?_;intro w3 Pj W4 ac7 e3 TZ hO3;have hs3:w3.heap.size=w2.heap.size:=by rw[e3]
  have hv3:rv Pj v=rv Hr v:=Oj.agree (λr hr=>hO3.agree r (by rw[bV];omega)) (Er hA2.vG TZ.vG);have Ym:Cl prog Sc w3 v:=by unfold Cl at Oj ⊢;rw[hs3];exact Oj
  have hrow3:w3.ownsRow prog.globals.size 131 7 v xs.length (xs.flatMap λt=>(eH t).toList):=by unfold Λ.ownsRow at hrow2 ⊢;rw[e3];exact hrow2
  rw[←hv3]at Yl;have afp:prog.globals.size≤w3.heap.size:=by omega
  rw[show rv Pj (.agg (eH t))=cg t from fc _ _];have hg6:=hg5.put (t:=15) (v:=cg t) (by decide) (by decide) (by decide) (by decide);have k15:(a5.put (some 15) (cg t)).eval (.tmp 15)=cg t:=bn (by rw[hg5.size];decide);replace Yl:(a5.put (some 15) (cg t)).eval (.tmp 14)=rv Pj v:=(aN (by decide)).trans Yl;generalize a5.put (some 15) (cg t)=a6 at *;have hrow4:(w3.alloc (.cells (eH t) 131)).ownsRow prog.globals.size 131 7 v xs.length (xs.flatMap λt=>(eH t).toList):=hrow3.alloc _;have Yn:Cl prog Sc (w3.alloc (.cells (eH t) 131)) v:=Ym.mono (by rw[bV];omega);have adh:prog.globals.size≤(w3.alloc (.cells (eH t) 131)).heap.size:=by rw[bV];omega
  generalize w3.alloc (.cells (eH t) 131)=w4 at TZ hrow4 Yn adh;refine af.Ow mm (ops:=g9 f43) (i:=2) (rest:=[3,4]) (by rw[show(g9 f43)[2].op=.buildSlice 85 1 #[(0,.tmp 15)] from rfl];simp[fo,gD]) rfl rfl (by decide) (T:=λ_=>cg t) (λ_=>fc _ _) TZ ?_ (v:=λw₀=> .slice (some ⟨w₀.heap.size,0,none⟩) 1 1) (o':=λw₀=>w₀.alloc (.cells (eH t) 131)) ?_ ?_
  ·have hop:(g9 f43)[2].op=.buildSlice 85 1 #[(0,.tmp 15)]:=rfl;unfold Ω;rw[hop];simp only[zbR,zaB,zbt,fL,k15,fc t Pj]
  ·intro τ d;have hop:(g9 f43)[2].op=.buildSlice 85 1 #[(0,.tmp 15)]:=rfl;unfold Ω;simp only[hop,zbR,zaB,zbt,fL,zba,T3,zbb,zbd]
  intro w5 Kc W5 ac9 e5 T2 hO5 aaM;have hs5:w5.heap.size=w4.heap.size:=by rw[e5]
  have hv5:rv Kc v=rv Pj v:=Yn.agree hO5.agree (Er TZ.vG T2.vG);have WV:(w5.alloc (.cells (eH t) 131)).ownsRow prog.globals.size 131 7 v xs.length (xs.flatMap λt=>(eH t).toList):=by
   refine zcI ?_ _;unfold Λ.ownsRow at hrow4 ⊢;rw[e5];exact hrow4
  have aaN:Cl prog Sc (w5.alloc (.cells (eH t) 131)) v:=Yn.mono (by rw[bV];omega);rw[←hv5]at Yl;change af _ _ _ _ _ (G ((base 43).at (a6.put (some 16) (rv Kc (.slice (some ⟨w5.heap.size,0,none⟩) 1 1))) _) _) _;have hg7:=hg6.put (t:=16) (v:=rv Kc (.slice (some ⟨w5.heap.size,0,none⟩) 1 1)) (by decide) (by decide) (by decide) (by decide);have k16:(a6.put (some 16) (rv Kc (.slice (some ⟨w5.heap.size,0,none⟩) 1 1))).eval (.tmp 16)=rv Kc (.slice (some ⟨w5.heap.size,0,none⟩) 1 1):=bn (by rw[hg6.size];decide);replace Yl:(a6.put (some 16) (rv Kc (.slice (some ⟨w5.heap.size,0,none⟩) 1 1))).eval (.tmp 14)=rv Kc v:=(aN (by decide)).trans Yl;generalize a6.put (some 16) (rv Kc (.slice (some ⟨w5.heap.size,0,none⟩) 1 1))=a7 at *;have oF:(w5.alloc (.cells (eH t) 131)).heap[w5.heap.size]?=some (.cells (eH t) 131):=by
   show(w5.heap.push _)[w5.heap.size]?=_;simp
  have aaO:prog.globals.size≤(w5.alloc (.cells (eH t) 131)).heap.size:=by rw[bV];omega
  generalize Ai:w5.heap.size=r0 at *;generalize w5.alloc (.cells (eH t) 131)=w6 at T2 WV aaN oF aaM aaO;have afe:xs.length+(ts.length+1)≤1000000:=by simpa using hlen
  refine af.JU mm (ops:=g9 f43) (i:=3) (rest:=[4]) (by rw[show(g9 f43)[3].op=.call { callee:= .builtin .append,args:=#[.tmp 14,.tmp 16],argTypes:=#[85,85] } from rfl];simp[fo,gD,pC]) rfl rfl (by decide) (T:=λs=>if s=14 then v else .slice (some ⟨r0,0,none⟩) 1 1) (λs=>?_) T2.vG T2.Wz ?_ (Q:=λv' w'=>w'.ownsRow prog.globals.size 131 7 v' (xs.length+1) (xs.flatMap (λt=>(eH t).toList)++(eH t).toList)) (λτ d=>?_) ?_ T2.hold
  ·by_cases h:s=14
   ·simp only[h,if_true];exact aaN
   ·simp only[h,if_false];exact aaM
  ·have hop:(g9 f43)[3].op=.call { callee:= .builtin .append,args:=#[.tmp 14,.tmp 16],argTypes:=#[85,85] }:=rfl;unfold Ω;simp only[hop,resolve,zbR,zaB,zbt,fL,Yl,k16,if_true,show ¬(16=14) by decide,if_false]
  ·exact Pp (x:= .tmp 14) (y:= .tmp 16) rfl (w:=w6.re τ d) WV aaO (by omega) oF rfl rfl
  intro v' w' ρ' W' own' hq TE _ _ hc' Ie _ _ hH';change af _ _ _ _ _ (G ((base 43).at (a7.put (some 17) (rv ρ' v')) _) _) _;have hg8:=hg7.put (t:=17) (v:=rv ρ' v') (by decide) (by decide) (by decide) (by decide);have k17:(a7.put (some 17) (rv ρ' v')).eval (.tmp 17)=rv ρ' v':=bn (by rw[hg7.size];decide);generalize a7.put (some 17) (rv ρ' v')=a8 at *;refine af.mv (ops:=g9 f43) (i:=4) (rest:=[]) rfl rfl (by decide) (dd:=some 5) rfl (.inr rfl) k17 ?_;have hg9:=hg8.put (t:=5) (v:=rv ρ' v') (by decide) (by decide) (by decide) (by decide);have k5':(a8.put (some 5) (rv ρ' v')).eval (.tmp 5)=rv ρ' v':=bn (by rw[hg8.size];decide);generalize a8.put (some 5) (rv ρ' v')=a9 at *;refine af.silent rfl (λ_=>zaX) ?_;refine af.silent rfl (λ_=>stepG_inBlock) ?_;refine af.silent rfl (λ_=>stepG_inLoop) ?_;have hGR:GR ro X Y Wg ch (xs++[t]) own' a9 W':=⟨hg9,ρ',w',v',⟨TE,Ie,hH'⟩,k5',hc',by rw[T5];simpa using hq⟩;have:=ih (xs++[t]) own' a9 W' hGR (by simp;omega) (by simpa using hF);rw[cQ]at this;exact this
end Go.Ren
set_option linter.unusedSectionVars false
namespace Go.Ren
open Go.Proofs.Tryz
open Go Go.Conc Go.ConcX Go.RowKit Go.Conc.Lib Go.ConcX.Gen Go.Proofs Go.Loop
section
variable {P:ψ}{main:Bool}{b:Φ}{a:Act}{ops:Array Oper}{i:Nat}{rest:List Nat}{o:Oper}{kk:List Item}{cs:List Φ}
theorem Ig (ho:ops[i]?=some o)(hw:ω o (ϑ ops a.tmps)=true)(hk:b.kind≠.early){dd:Option Tmp}(hdd:o.dst=dd){x:ό}{j:Nat}(hop:o.op=.extract x j){vs:Array Ξ}{v:Ξ}(hx:a.eval x=.tuple vs)(hv:vs[j]?=some v)(w:Λ):ϊ P main (G (b.at a (.inRegion ops (i::rest)::kk)) cs) w=.go (G (b.at (a.put dd v) (.inRegion ops rest::kk)) cs) w #[]:=by
 subst hdd;have hr:(Ω a.eval o).run P w=.ok (.value v) w:=by
  unfold Ω;simp[hop,hx,Instr.extract,hv]
 have he:(Ω a.eval o).events P w #[]=#[]:=by
  unfold Ω;simp[hop,hx,Instr.extract,hv]
 rw[stepG_value ho hw hk hr,listed_none he]
theorem Goes.silent {R:Λ→Λ→Prop}{D:Λ→Λ→Array ϖ→Prop}{Stop:ζ→Λ→Prop}(tr:∀a b c,R a b→R b c→R a c)(hd:∀w,D w w #[]){n:Nat}{g g':ζ}{w:Λ}(hs:g.status=.running)(h:∀w₁,ϊ P main g w₁=.go g' w₁ #[])(k:Goes P main R D Stop n g' w):Goes P main R D Stop (n+1) g w:=
 Goes.step hs λw₁ h₁=>by rw[h w₁];exact⟨hd w₁,k.rely tr h₁⟩
end
variable {Wg Low ch X Y:Nat}{x y:uh Wg Low}{ro own:Nat→Prop}{cs:List Φ}
structure Off (Wg X Y:Nat) (w w':Λ):Prop where
 tape:w'.tape=w.tape
 os:w'.os=w.os
 output:w'.output=w.output
 size:w'.heap.size=w.heap.size
 block:∀k,k≠X→k≠Y→k≠Wg→w'.heap[k]?=w.heap[k]?
def Bx (f:Func)(a:Act)(cs:List Φ):ζ:=G ((base 43).at (a.put (some 18) (.tuple #[])) (.inRegion (g10 f) []::.code (D11 f)::[])) cs
def CW (f:Func)(a:Act):Φ:=(base 43).at a (.inRegion (g10 f) [0]::.code (D11 f)::[])
theorem Bz {pl:Payload}{ty:φ}{C:Nat} [Shy Wg C] {vals:List Ξ}(a b c:Λ)(h:RPa ty Wg C vals a b)(k:RPa ty Wg C vals b c):RPa ty Wg C vals a c:=
 RPa.trans h k
theorem Ih (Wg:Nat):Φ.enter prog 72 #[.pointer (some ⟨Wg,0,none⟩)] .normal=(base cI.wait).at ⟨#[.pointer (some ⟨Wg,0,none⟩),Θ,Θ,Θ,Θ,Θ,Θ,Θ,Θ,Θ,Θ,Θ,Θ,Θ,Θ,Θ,Θ,Θ,Θ,Θ,Θ,Θ,Θ,Θ,Θ,Θ,Θ,Θ,Θ,Θ,Θ,Θ,Θ,Θ,Θ,Θ,Θ,Θ,Θ,Θ,Θ,Θ,Θ,Θ,Θ,Θ,Θ,Θ,Θ,Θ,Θ,Θ,Θ,Θ,Θ,Θ,Θ,Θ,Θ,Θ,Θ,Θ,Θ,Θ,Θ,Θ,Θ,Θ,Θ,Θ,Θ,Θ,Θ,Θ,Θ,Θ,Θ,Θ,Θ,Θ,Θ,Θ,Θ,Θ],[]⟩ [.code (body_wait cI)]:=by
 rw[enter_at (P:=prog) (f:=72) (c:=body_wait cI) #[.pointer (some ⟨Wg,0,none⟩)] J9 (by kernel_rfl)];have:(#[Ξ.pointer (some ⟨Wg,0,none⟩)]++θ ((waitFn cI).ntmps - (#[Ξ.pointer (some ⟨Wg,0,none⟩)]:Array Ξ).size) Θ)=#[.pointer (some ⟨Wg,0,none⟩),Θ,Θ,Θ,Θ,Θ,Θ,Θ,Θ,Θ,Θ,Θ,Θ,Θ,Θ,Θ,Θ,Θ,Θ,Θ,Θ,Θ,Θ,Θ,Θ,Θ,Θ,Θ,Θ,Θ,Θ,Θ,Θ,Θ,Θ,Θ,Θ,Θ,Θ,Θ,Θ,Θ,Θ,Θ,Θ,Θ,Θ,Θ,Θ,Θ,Θ,Θ,Θ,Θ,Θ,Θ,Θ,Θ,Θ,Θ,Θ,Θ,Θ,Θ,Θ,Θ,Θ,Θ,Θ,Θ,Θ,Θ,Θ,Θ,Θ,Θ,Θ,Θ,Θ,Θ,Θ,Θ,Θ,Θ]:=by kernel_rfl
 rw[this]
theorem Pq (k:uh Wg Low){X Y:Nat}(hk:k.C=X∨k.C=Y)(a:Act)(h4:a.eval (.tmp 4)=.pointer (some ⟨Wg,0,none⟩))(W:Λ)(hK:k.kpa cI.tWg W):∃A,k.wait prog cI.tWg (λg w=>g=Bx f43 a cs∧Off Wg X Y W w) A (G (CW f43 a) cs) W:=by
 letI:=k.pl
 letI:=ml Wg k.C Low (λg w=>g=Bx f43 a cs∧Off Wg X Y W w) k.hW k.hC
 let F:Λ→Prop:=λw=>(∀b,b≠k.C→b≠Wg→w.heap[b]?=W.heap[b]?)∧w.heap.size=W.heap.size∧w.tape=W.tape∧w.os=W.os∧w.output=W.output;have hF2:∀w w',Aside2 k.C Wg w w'→F w→F w':=λw w' h f=>⟨λb h1 h2=>(h.block b h1 h2).trans (f.1 b h1 h2),h.size.trans f.2.1,h.tape.trans f.2.2.1,h.os.trans f.2.2.2.1,h.output.trans f.2.2.2.2⟩;refine⟨AnchW7 cI F Wg k.C k.vals (CW f43 a) cs,⟨k.hC,k.hCW,?_,?_,λ_ h=>h⟩,4,?_⟩
 ·rintro g w ⟨T,rfl,_⟩;rfl
 ·intro g w h;exact waitRound (L:=cI) (Low:=Low) (Mine:=kQ) (Post:=λ_ _=>True) (mT:=0) (b₀:=base 43) (a₀:=a) (ops₀:=g10 f43) (i₀:=0) (rest₀:=[]) (k₀:=[.code (D11 f43)]) wgz k.hCW hF2 (λw f _ _=>Goes.stop λw₁ h₁=>by
   obtain⟨d,rfl⟩:=h₁;refine⟨rfl,rfl,f.2.2.1,f.2.2.2.1,f.2.2.2.2,f.2.1,λb h1 h2 h3=>f.1 b ?_ h3⟩;rcases hk with e|e<;>rw[e]<;>assumption) g w h
 ·refine Goes.silent (g':=G (Φ.enter prog 72 #[.pointer (some ⟨Wg,0,none⟩)] .normal) (CW f43 a::cs)) (λa b c=>Bz a b c) (λw=>⟨λ_ _=>rfl,by simp⟩) rfl (λw₁=>jI (ops:=g10 f43) (i:=0) (rest:=[]) (f:=72) rfl rfl (by decide) rfl (by simp[h4])) ?_;rw[Ih];exact waitStart (L:=cI) (Low:=Low) (F:=F) (Mine:=kQ) (b₀:=base 43) (a₀:=a) (ops₀:=g10 f43) (i₀:=0) (rest₀:=[]) (k₀:=[.code (D11 f43)]) (cs:=cs) wgz hF2 W ⟨⟨λ_ _ _=>rfl,rfl,rfl,rfl,rfl⟩,hK⟩
theorem jv {k:uh Wg Low}{St A:ζ→Λ→Prop}{g g':ζ}{W:Λ}(hs:g.status=.running)(h:∀w₁,ϊ prog true g w₁=.go g' w₁ #[])(hw:k.wait prog cI.tWg St A g' W):k.wait prog cI.tWg St A g W:=by
 letI:=k.pl
 letI:=ml Wg k.C Low St k.hW k.hC
 obtain⟨h1,m,h2⟩:=hw;exact⟨h1,m+1,Goes.silent (λa b c=>Bz a b c) (λw=>⟨λ_ _=>rfl,by simp⟩) hs h h2⟩
def CX (ro:Nat→Prop)(X Y Wg ch:Nat)(ts:List Tok)(cs:List Φ)(own:Nat→Prop)(w':Λ)(g:ζ)(w:Λ):Prop:=
 ∃a,GR ro X Y Wg ch ts own a w'∧g=Bx f43 a cs∧Off Wg X Y w' w
theorem Ii {ts:List Tok}{a:Act}{W:Λ}(h:GR ro x.C y.C Wg ch ts own a W):OZ prog cI.tWg x y (CX ro x.C y.C Wg ch ts cs) own (G ((base 43).at (a.put (some 11) (.tuple #[cg um,.bool false])) (.inRegion (g7 f43) [1]::.code (bM (Lg f43))::kG f43)) cs) W:=by
 intro hx hy;obtain⟨hg,ρ,w,v,hA,h5,fK,hrow⟩:=h;have hg1:=hg.put (t:=11) (v:= .tuple #[cg um,.bool false]) (by decide) (by decide) (by decide) (by decide);have Nz:(a.put (some 11) (.tuple #[cg um,.bool false])).eval (.tmp 11)=.tuple #[cg um,.bool false]:=bn (by rw[hg.size];decide);have k5:(a.put (some 11) (.tuple #[cg um,.bool false])).eval (.tmp 5)=rv ρ v:=(aN (by decide)).trans h5;generalize a.put (some 11) (.tuple #[cg um,.bool false])=a1 at *;have hg2:=hg1.put (t:=12) (v:= .bool false) (by decide) (by decide) (by decide) (by decide);have k12:(a1.put (some 12) (.bool false)).eval (.tmp 12)=.bool false:=bn (by rw[hg1.size];decide);have k5':(a1.put (some 12) (.bool false)).eval (.tmp 5)=rv ρ v:=(aN (by decide)).trans k5;have step:∀(k:uh Wg Low),(k.C=x.C∨k.C=y.C)→k.kpa cI.tWg W→∃A,k.wait prog cI.tWg (λg w=>g=Bx f43 (a1.put (some 12) (.bool false)) cs∧Off Wg x.C y.C W w) A (G ((base 43).at a1 (.inRegion (g7 f43) [1]::.code (bM (Lg f43))::kG f43)) cs) W:=λk hk hK=>by
  obtain⟨A,hw⟩:=Pq (cs:=cs) k hk (a1.put (some 12) (.bool false)) hg2.s4 W hK;refine⟨A,?_⟩;refine jv rfl (λw₁=>Ig (ops:=g7 f43) (i:=1) (rest:=[]) rfl rfl (by decide) (dd:=some 12) rfl rfl Nz (v:= .bool false) rfl w₁) ?_;generalize a1.put (some 12) (.bool false)=a2 at *;refine jv rfl (λ_=>zaX) ?_;refine jv rfl (λ_=>zaV (x:= .cond (.tmp 12) .skip (.exit 0)) (y:= .block 1 (Mg f43))) ?_;refine jv rfl (λ_=>stepG_cond k12) ?_;refine jv rfl (λ_=>stepG_exit (id:=0) (k':=[.code (D10 f43)]) rfl) ?_;refine jv rfl (λ_=>zaV (x:= .region 10 (g10 f43) false) (y:=D11 f43)) ?_;refine jv rfl (λ_=>zaW) ?_;exact hw
 obtain⟨Ax,hwx⟩:=step x (.inl rfl) hx;obtain⟨Ay,hwy⟩:=step y (.inr rfl) hy;exact⟨_,Ax,Ay,hwx,hwy,λa' w' hst=>⟨Nat.le_of_eq hst.2.size.symm,_,⟨hg2,ρ,w,v,hA,k5',fK,hrow⟩,hst.1,hst.2⟩⟩
end Go.Ren
set_option linter.unusedSectionVars false
namespace Go.Ren
open Go.Proofs.Tryz
open Go Go.Conc Go.ConcX Go.RowKit Go.Conc.Lib Go.ConcX.Gen Go.Proofs Go.Loop
theorem Pr:(prog.info? 132).map (λi=>(i.size,i.zero))=some (1,some (.chan none)):=by kernel_rfl
theorem Yo:(prog.info? 142).map (λi=>i.zero.map λz=>Obj.cells z.cells 142)=some (some (wgBlock cI.tWg 0 0)):=by kernel_rfl
theorem bx (s:ByteArray)(w:Λ):(Instr.box 9 (.string s)).run prog w=.ok (.pointer (some ⟨w.heap.size,0,none⟩)) (w.alloc (.cells #[.string s] 9))∧(Instr.box 9 (.string s)).events prog w #[]=#[]:=by
 constructor
 ·simp[Instr.box,newVar,newRow,go_sem,Ξ.cells]
 ·simp[Instr.box,newVar,newRow,go_sem,Ξ.cells]
theorem mkc (w:Λ):(Instr.makeChan 132 (Γ Δ 0)).run prog w=.ok (.chan (some w.heap.size)) (w.alloc (.chan 0 #[] false 0 0 false))∧(Instr.makeChan 132 (Γ Δ 0)).events prog w #[]=#[]:=by
 obtain⟨i,hi,he⟩:=zas.1 rh;obtain⟨dir,hu⟩:∃dir,prog.underlying 132=some (.chan dir 131):=⟨_,underlying132⟩;have h1:¬(IntKind.i64.max<0):=by decide
 constructor
 ·simp[Instr.makeChan,run_underlying hu,asInt,asIntOf,χ,hi]
 ·simp[Instr.makeChan,run_underlying hu,asInt,asIntOf,χ,hi]
theorem alz {e:φ}{i:TypeInfo}{z:Ξ}(hi:prog.info? e=some i)(hz:i.zero=some z)(w:Λ):(Instr.alloc e true (.tuple #[])).run prog w=.ok (.pointer (some ⟨w.heap.size,0,none⟩)) (w.alloc (.cells z.cells e))∧(Instr.alloc e true (.tuple #[])).events prog w #[]=#[]:=by
 constructor
 ·simp[Instr.alloc,ϋ,χ,hi,hz,newVar,newRow]
 ·simp[Instr.alloc,ϋ,χ,hi,hz,newVar,newRow]
theorem stz {w:Λ}{r c:Nat}(h:w.heap[r]?=some (.cells #[.chan none] 132)):(Instr.storeAt 132 (.pointer (some ⟨r,0,none⟩)) (.chan (some c))).run prog w=.ok () (w.setCell ⟨r,0,none⟩ (.chan (some c)))∧(Instr.storeAt 132 (.pointer (some ⟨r,0,none⟩)) (.chan (some c))).events prog w #[]=#[⟨.cell ⟨r,0,none⟩,true,false⟩]:=by
 obtain⟨i,hi,he⟩:=zas.1 Pr;simp only[zaf]at he;have hc:w.cell? ⟨r,0,none⟩=some (.chan none):=by simp[Λ.cell?,h]
 have hf:w.frozen? ⟨r,0,none⟩=false:=by simp[Λ.frozen?,h]
 constructor
 ·simp[Instr.storeAt,ξ,storeVar,sizeOf,χ,hi,he.1,Ξ.cells,storeCells,go_sem,hc,hf,Addr.add]
 ·simp[Instr.storeAt,ξ,storeVar,sizeOf,χ,hi,he.1,Ξ.cells,storeCells,go_sem,hc,hf,Addr.add]
section
variable {P:ψ}{Stop:ζ→Λ→Prop}{Z:Loc→Prop}{B n:Nat}{w:Λ}{b:Φ}{a:Act}{ops:Array Oper}{i:Nat}{rest:List Nat}{o:Oper}{kk:List Item}{cs:List Φ}
def DZ (Z:Loc→Prop)(B:Nat)(_ _:Λ)(es:Array ϖ):Prop:=∀e∈es,EvL Z B e
theorem Goes.ctl {g g':ζ}(hs:g.status=.running)(h:∀w₁,ϊ P true g w₁=.go g' w₁ #[])(k:Goes P true AtRel (DZ Z B) Stop n g' w):Goes P true AtRel (DZ Z B) Stop (n+1) g w:=
 Goes.silent atRel_trans (λ_=>by intro e he;simp at he) hs h k
theorem Goes.JU (ho:ops[i]?=some o)(hw:ω o (ϑ ops a.tmps)=true)(hk:b.kind≠.early){dd:Option Tmp}(hdd:o.dst=dd){v:Ξ}{nw:Λ→Λ}(hr:∀d,(Ω a.eval o).run P (w.at d)=.ok (.value v) (nw (w.at d)))(he:∀d,(Ω a.eval o).events P (w.at d) #[]=#[])
 (k:∀d,Goes P true AtRel (DZ Z B) Stop n (G (b.at (a.put dd v) (.inRegion ops rest::kk)) cs) (nw (w.at d))):Goes P true AtRel (DZ Z B) Stop (n+1) (G (b.at a (.inRegion ops (i::rest)::kk)) cs) w:=by
 subst hdd;refine Goes.step rfl λw₁ h₁=>?_;obtain⟨d,rfl⟩:=h₁;rw[stepG_value ho hw hk (hr d),listed_none (he d)];exact⟨λe he=>by simp at he,k d⟩
theorem Goes.opn (ho:ops[i]?=some o)(hw:ω o (ϑ ops a.tmps)=true)(hk:b.kind≠.early){dd:Option Tmp}(hdd:o.dst=dd){nw:Λ→Λ}{es:Array ϖ}(hr:∀d,(Ω a.eval o).run P (w.at d)=.ok .skip (nw (w.at d)))(he:∀d,(Ω a.eval o).events P (w.at d) #[]=es)(hes:∀e∈es,EvL Z B e)
 (k:∀d,Goes P true AtRel (DZ Z B) Stop n (G (b.at (a.put dd Θ) (.inRegion ops rest::kk)) cs) (nw (w.at d))):Goes P true AtRel (DZ Z B) Stop (n+1) (G (b.at a (.inRegion ops (i::rest)::kk)) cs) w:=by
 subst hdd;refine Goes.step rfl λw₁ h₁=>?_;obtain⟨d,rfl⟩:=h₁;rw[stepG_none ho hw hk (hr d)];refine⟨λe hm=>hes e ?_,k d⟩;unfold listed at hm;rw[he d]at hm;exact mem_seen hm
end
structure Laid (s:List UInt8) (w0 w:Λ):Prop where
 size:w.heap.size=w0.heap.size+4
 old:∀b,b<w0.heap.size→w.heap[b]?=w0.heap[b]?
 txt:w.heap[w0.heap.size]?=some (.cells #[.string ⟨⟨s⟩⟩] 9)
 chan:w.heap[w0.heap.size+1]?=some (.chan 0 #[] false 0 0 false)
 box:w.heap[w0.heap.size+2]?=some (.cells #[.chan (some (w0.heap.size+1))] 132)
 tape:w.tape=w0.tape
 os:w.os=w0.os
 output:w.output=w0.output
structure GB (a:Act) (N:Nat):Prop where
 size:a.tmps.size=20
 s1:a.eval (.tmp 1)=.pointer (some ⟨N,0,none⟩)
 s3:a.eval (.tmp 3)=.pointer (some ⟨N+2,0,none⟩)
 s4:a.eval (.tmp 4)=.pointer (some ⟨N+3,0,none⟩)
 defers:a.defers=[]
def D1 (f:Func):Code:=dC 1 (AG f)
def D2 (f:Func):Code:=dC 2 (AG f)
def D3 (f:Func):Code:=dC 3 (AG f)
def D4 (f:Func):Code:=dC 4 (AG f)
def g0 (f:Func):Array Oper:=bz (cj (AG f))
def g1 (f:Func):Array Oper:=bz (cj (D1 f))
def g2 (f:Func):Array Oper:=bz (cj (D2 f))
def g3 (f:Func):Array Oper:=bz (cj (D3 f))
def g4 (f:Func):Array Oper:=bz (cj (D4 f))
def Yp (f:Func)(a:Act):Φ:=(base 43).at a (.inRegion (g3 f) [0]::.code (D4 f)::[])
def WW (s:List UInt8)(w0:Λ)(cs:List Φ)(g:ζ)(w:Λ):Prop:=
 ∃a,GB a w0.heap.size∧g=G (Φ.enter prog 68 #[.pointer (some ⟨w0.heap.size+3,0,none⟩),Γ Δ 1] .normal) (Yp f43 a::cs)∧Laid s w0 w∧WgAt cI.tWg (w0.heap.size+3) w 0 0
theorem aaP:prog.funcs[43]?=some f43:=by kernel_rfl
def Yq (s:List UInt8):Act:=⟨#[.string ⟨⟨s⟩⟩]++θ 19 Θ,[]⟩
theorem gL {H:Array Obj}{o:Obj}{b:Nat}(h:b<H.size):(H.push o)[b]?=H[b]?:=by rw[zbY,zaa (by omega)]
theorem sI {H:Array Obj}{o:Obj}{b:Nat}(h:b=H.size):(H.push o)[b]?=some o:=by subst h;simp
variable {cs:List Φ}
theorem Ij {Z:Loc→Prop}{B:Nat}(s:List UInt8)(w0:Λ)(hZ:¬Z (.cell ⟨w0.heap.size+2,0,none⟩))(hB:w0.heap.size+2<B):Goes prog true AtRel (DZ Z B) (WW s w0 cs) 19 (G (Φ.enter prog 43 #[.string ⟨⟨s⟩⟩] .normal) cs) w0:=by
 rw[enter_at (P:=prog) (f:=43) (c:=AG f43) #[.string ⟨⟨s⟩⟩] aaP rfl];change Goes _ _ _ _ _ _ (G ((base 43).at (Yq s) [.code (AG f43)]) cs) _;have q0:(Yq s).eval (.tmp 0)=.string ⟨⟨s⟩⟩:=by simp[Yq,π]
 have qs:(Yq s).tmps.size=20:=by simp[Yq]
 have qd:(Yq s).defers=[]:=rfl;generalize Yq s=a at *;refine Goes.ctl rfl (λ_=>zaV (x:= .region 0 (g0 f43) false) (y:=D1 f43)) ?_;refine Goes.ctl rfl (λ_=>zaW) ?_;refine Goes.JU (ops:=g0 f43) (i:=0) (rest:=[1]) rfl rfl (by decide) (dd:=some 1) rfl (v:= .pointer (some ⟨w0.heap.size,0,none⟩)) (nw:=λw=>w.alloc (.cells #[.string ⟨⟨s⟩⟩] 9)) (λd=>?_) (λd=>?_) (λd=>?_)
 ·have hop:(g0 f43)[0].op=.box 9 (.tmp 0):=rfl;unfold Ω;simp only[hop,q0,zba,(bx _ _).1,zbb,zbd];rfl
 ·have hop:(g0 f43)[0].op=.box 9 (.tmp 0):=rfl;unfold Ω;simp only[hop,q0,Sem.events_bind,(bx _ _).1,(bx _ _).2,Result.evThen_ok,Sem.events_pure]
 have hs1:((w0.at d).alloc (.cells #[.string ⟨⟨s⟩⟩] 9)).heap.size=w0.heap.size+1:=bV _ _;have WO:∀b,b<w0.heap.size→((w0.at d).alloc (.cells #[.string ⟨⟨s⟩⟩] 9)).heap[b]?=w0.heap[b]?:=λb h=>gL (H:=w0.heap) h;have hx1:((w0.at d).alloc (.cells #[.string ⟨⟨s⟩⟩] 9)).heap[w0.heap.size]?=some (.cells #[.string ⟨⟨s⟩⟩] 9):=sI (H:=w0.heap) rfl;have rH:((w0.at d).alloc (.cells #[.string ⟨⟨s⟩⟩] 9)).tape=w0.tape∧((w0.at d).alloc (.cells #[.string ⟨⟨s⟩⟩] 9)).os=w0.os∧((w0.at d).alloc (.cells #[.string ⟨⟨s⟩⟩] 9)).output=w0.output:=⟨rfl,rfl,rfl⟩;generalize (w0.at d).alloc (.cells #[.string ⟨⟨s⟩⟩] 9)=w1 at *;have p1:(a.put (some 1) (.pointer (some ⟨w0.heap.size,0,none⟩))).eval (.tmp 1)=.pointer (some ⟨w0.heap.size,0,none⟩):=bn (by rw[qs];decide);have qs1:(a.put (some 1) (.pointer (some ⟨w0.heap.size,0,none⟩))).tmps.size=20:=size_put.trans qs;have qd1:(a.put (some 1) (.pointer (some ⟨w0.heap.size,0,none⟩))).defers=[]:=cP.trans qd;generalize a.put (some 1) (.pointer (some ⟨w0.heap.size,0,none⟩))=a1 at *;refine Goes.JU (ops:=g0 f43) (i:=1) (rest:=[]) rfl rfl (by decide) (dd:=some 2) rfl (v:= .slice none 0 0) (nw:=λw=>w) (λd=>rfl) (λd=>rfl) (λd1=>?_);have p1':(a1.put (some 2) (.slice none 0 0)).eval (.tmp 1)=.pointer (some ⟨w0.heap.size,0,none⟩):=(aN (by decide)).trans p1;have qs2:(a1.put (some 2) (.slice none 0 0)).tmps.size=20:=size_put.trans qs1;have qd2:(a1.put (some 2) (.slice none 0 0)).defers=[]:=cP.trans qd1;generalize a1.put (some 2) (.slice none 0 0)=a2 at *;replace hs1:(w1.at d1).heap.size=w0.heap.size+1:=hs1;replace WO:∀b,b<w0.heap.size→(w1.at d1).heap[b]?=w0.heap[b]?:=WO;replace hx1:(w1.at d1).heap[w0.heap.size]?=some (.cells #[.string ⟨⟨s⟩⟩] 9):=hx1;replace rH:(w1.at d1).tape=w0.tape∧(w1.at d1).os=w0.os∧(w1.at d1).output=w0.output:=rH;generalize w1.at d1=w2 at *;refine Goes.ctl rfl (λ_=>zaX) ?_;refine Goes.ctl rfl (λ_=>zaV (x:= .region 1 (g1 f43) false) (y:=D2 f43)) ?_;refine Goes.ctl rfl (λ_=>zaW) ?_;refine Goes.JU (ops:=g1 f43) (i:=0) (rest:=[1,2]) rfl rfl (by decide) (dd:=some 7) rfl (v:= .chan (some w2.heap.size)) (nw:=λw=>w.alloc (.chan 0 #[] false 0 0 false)) (λd=>?_) (λd=>?_) (λd2=>?_)
 ·have hop:(g1 f43)[0].op=.makeChan 132 (.const (Γ Δ 0)):=rfl;unfold Ω;simp only[hop,π,zba,(mkc _).1,zbb,zbd];rfl
 ·have hop:(g1 f43)[0].op=.makeChan 132 (.const (Γ Δ 0)):=rfl;unfold Ω;simp only[hop,π,Sem.events_bind,(mkc _).1,(mkc _).2,Result.evThen_ok,Sem.events_pure]
 rw[hs1];have p7:(a2.put (some 7) (.chan (some (w0.heap.size+1)))).eval (.tmp 7)=.chan (some (w0.heap.size+1)):=bn (by rw[qs2];decide);have p1a:(a2.put (some 7) (.chan (some (w0.heap.size+1)))).eval (.tmp 1)=.pointer (some ⟨w0.heap.size,0,none⟩):=(aN (by decide)).trans p1';have qs3:(a2.put (some 7) (.chan (some (w0.heap.size+1)))).tmps.size=20:=size_put.trans qs2;have qd3:(a2.put (some 7) (.chan (some (w0.heap.size+1)))).defers=[]:=cP.trans qd2;generalize a2.put (some 7) (.chan (some (w0.heap.size+1)))=a3 at *;have hs2:((w2.at d2).alloc (.chan 0 #[] false 0 0 false)).heap.size=w0.heap.size+2:=(bV _ _).trans (zak (· + 1) hs1);have ho2:∀b,b<w0.heap.size→((w2.at d2).alloc (.chan 0 #[] false 0 0 false)).heap[b]?=w0.heap[b]?:=λb h=>(gL (H:=w2.heap) (by omega)).trans (WO b h);have hx2:((w2.at d2).alloc (.chan 0 #[] false 0 0 false)).heap[w0.heap.size]?=some (.cells #[.string ⟨⟨s⟩⟩] 9):=(gL (H:=w2.heap) (by omega)).trans hx1;have hc2:((w2.at d2).alloc (.chan 0 #[] false 0 0 false)).heap[w0.heap.size+1]?=some (.chan 0 #[] false 0 0 false):=sI (H:=w2.heap) hs1.symm;have ht2:((w2.at d2).alloc (.chan 0 #[] false 0 0 false)).tape=w0.tape∧((w2.at d2).alloc (.chan 0 #[] false 0 0 false)).os=w0.os∧((w2.at d2).alloc (.chan 0 #[] false 0 0 false)).output=w0.output:=rH;generalize (w2.at d2).alloc (.chan 0 #[] false 0 0 false)=w3 at *;obtain⟨i77,Yr,T7⟩:=zas.1 Pr;simp only[zaf]at T7;refine Goes.JU (ops:=g1 f43) (i:=1) (rest:=[2]) rfl rfl (by decide) (dd:=some 3) rfl (v:= .pointer (some ⟨w3.heap.size,0,none⟩)) (nw:=λw=>w.alloc (.cells #[.chan none] 132)) (λd=>?_) (λd=>?_) (λd3=>?_)
 ·have hop:(g1 f43)[1].op=.alloc 132:=rfl;unfold Ω;simp only[hop,zba,(alz Yr T7.2 _).1,zbb,zbd];rfl
 ·have hop:(g1 f43)[1].op=.alloc 132:=rfl;unfold Ω;simp only[hop,Sem.events_bind,(alz Yr T7.2 _).1,(alz Yr T7.2 _).2,Result.evThen_ok,Sem.events_pure]
 rw[hs2];have p3:(a3.put (some 3) (.pointer (some ⟨w0.heap.size+2,0,none⟩))).eval (.tmp 3)=.pointer (some ⟨w0.heap.size+2,0,none⟩):=bn (by rw[qs3];decide);have p7b:(a3.put (some 3) (.pointer (some ⟨w0.heap.size+2,0,none⟩))).eval (.tmp 7)=.chan (some (w0.heap.size+1)):=(aN (by decide)).trans p7;have p1b:(a3.put (some 3) (.pointer (some ⟨w0.heap.size+2,0,none⟩))).eval (.tmp 1)=.pointer (some ⟨w0.heap.size,0,none⟩):=(aN (by decide)).trans p1a;have qs4:(a3.put (some 3) (.pointer (some ⟨w0.heap.size+2,0,none⟩))).tmps.size=20:=size_put.trans qs3;have qd4:(a3.put (some 3) (.pointer (some ⟨w0.heap.size+2,0,none⟩))).defers=[]:=cP.trans qd3;generalize a3.put (some 3) (.pointer (some ⟨w0.heap.size+2,0,none⟩))=a4 at *;have hs3:((w3.at d3).alloc (.cells #[.chan none] 132)).heap.size=w0.heap.size+3:=(bV _ _).trans (zak (· + 1) hs2);have ho3:∀b,b<w0.heap.size→((w3.at d3).alloc (.cells #[.chan none] 132)).heap[b]?=w0.heap[b]?:=λb h=>(gL (H:=w3.heap) (by omega)).trans (ho2 b h);have hx3:((w3.at d3).alloc (.cells #[.chan none] 132)).heap[w0.heap.size]?=some (.cells #[.string ⟨⟨s⟩⟩] 9):=(gL (H:=w3.heap) (by omega)).trans hx2;have hc3:((w3.at d3).alloc (.cells #[.chan none] 132)).heap[w0.heap.size+1]?=some (.chan 0 #[] false 0 0 false):=(gL (H:=w3.heap) (by omega)).trans hc2;have hy3:((w3.at d3).alloc (.cells #[.chan none] 132)).heap[w0.heap.size+2]?=some (.cells #[.chan none] 132):=sI (H:=w3.heap) hs2.symm;have ht3:((w3.at d3).alloc (.cells #[.chan none] 132)).tape=w0.tape∧((w3.at d3).alloc (.cells #[.chan none] 132)).os=w0.os∧((w3.at d3).alloc (.cells #[.chan none] 132)).output=w0.output:=ht2;generalize (w3.at d3).alloc (.cells #[.chan none] 132)=w4 at *;refine Goes.opn (ops:=g1 f43) (i:=2) (rest:=[]) rfl rfl (by decide) (dd:=none) rfl (nw:=λw=>w.setCell ⟨w0.heap.size+2,0,none⟩ (.chan (some (w0.heap.size+1)))) (es:=#[⟨.cell ⟨w0.heap.size+2,0,none⟩,true,false⟩]) (λd=>?_) (λd=>?_) (λe he=>?_) (λd4=>?_)
 ·have hop:(g1 f43)[2].op=.store 132 (.tmp 3) (.tmp 7):=rfl;have hq:(w4.at d).heap[w0.heap.size+2]?=some (.cells #[.chan none] 132):=hy3;unfold Ω;simp only[hop,p3,p7b,zba,(stz hq).1,zbb,zbd]
 ·have hop:(g1 f43)[2].op=.store 132 (.tmp 3) (.tmp 7):=rfl;have hq:(w4.at d).heap[w0.heap.size+2]?=some (.cells #[.chan none] 132):=hy3;unfold Ω;simp only[hop,p3,p7b,Sem.events_bind,(stz hq).1,(stz hq).2,Result.evThen_ok,Sem.events_pure]
 ·simp only[zca,zal,zcb,or_false]at he;subst he;refine⟨λx hx hz=>?_,by simp,by simp,?_⟩
  ·simp only[MemAct.ofEvent,MemAct.touch?]at hx;cases hx;exact absurd hz hZ
  ·exact hB
 rw[xI];have NB:((w4.at d4).setCell ⟨w0.heap.size+2,0,none⟩ (.chan (some (w0.heap.size+1)))).heap.size=w0.heap.size+3:=by
  show(Array.modify w4.heap _ _).size=_;rw[Array.size_modify];exact hs3
 have ho4:∀b,b<w0.heap.size→((w4.at d4).setCell ⟨w0.heap.size+2,0,none⟩ (.chan (some (w0.heap.size+1)))).heap[b]?=w0.heap[b]?:=λb h=>(zax _ _ _ b (by show b≠w0.heap.size+2;omega)).trans (ho3 b h);have hx4:((w4.at d4).setCell ⟨w0.heap.size+2,0,none⟩ (.chan (some (w0.heap.size+1)))).heap[w0.heap.size]?=some (.cells #[.string ⟨⟨s⟩⟩] 9):=(zax _ _ _ _ (by show w0.heap.size≠w0.heap.size+2;omega)).trans hx3;have hc4:((w4.at d4).setCell ⟨w0.heap.size+2,0,none⟩ (.chan (some (w0.heap.size+1)))).heap[w0.heap.size+1]?=some (.chan 0 #[] false 0 0 false):=(zax _ _ _ _ (by show w0.heap.size+1≠w0.heap.size+2;omega)).trans hc3;have hy4:((w4.at d4).setCell ⟨w0.heap.size+2,0,none⟩ (.chan (some (w0.heap.size+1)))).heap[w0.heap.size+2]?=some (.cells #[.chan (some (w0.heap.size+1))] 132):=one_setCell (w:=w4.at d4) hy3;have ht4:((w4.at d4).setCell ⟨w0.heap.size+2,0,none⟩ (.chan (some (w0.heap.size+1)))).tape=w0.tape∧((w4.at d4).setCell ⟨w0.heap.size+2,0,none⟩ (.chan (some (w0.heap.size+1)))).os=w0.os∧((w4.at d4).setCell ⟨w0.heap.size+2,0,none⟩ (.chan (some (w0.heap.size+1)))).output=w0.output:=ht3;generalize (w4.at d4).setCell ⟨w0.heap.size+2,0,none⟩ (.chan (some (w0.heap.size+1)))=w5 at *;refine Goes.ctl rfl (λ_=>zaX) ?_;refine Goes.ctl rfl (λ_=>zaV (x:= .region 2 (g2 f43) false) (y:=D3 f43)) ?_;refine Goes.ctl rfl (λ_=>zaW) ?_;obtain⟨i87,Ys,adi⟩:=zas.1 Yo;obtain⟨z87,Yt,aaQ⟩:=zas.1 adi;refine Goes.JU (ops:=g2 f43) (i:=0) (rest:=[]) rfl rfl (by decide) (dd:=some 4) rfl (v:= .pointer (some ⟨w5.heap.size,0,none⟩)) (nw:=λw=>w.alloc (wgBlock cI.tWg 0 0)) (λd=>?_) (λd=>?_) (λd5=>?_)
 ·have hop:(g2 f43)[0].op=.alloc 142:=rfl;unfold Ω;simp only[hop,zba,(alz Ys Yt _).1,zbb,zbd,aaQ];rfl
 ·have hop:(g2 f43)[0].op=.alloc 142:=rfl;unfold Ω;simp only[hop,Sem.events_bind,(alz Ys Yt _).1,(alz Ys Yt _).2,Result.evThen_ok,Sem.events_pure]
 rw[NB];have gb:GB (a4.put (some 4) (.pointer (some ⟨w0.heap.size+3,0,none⟩))) w0.heap.size:=⟨size_put.trans qs4,(aN (by decide)).trans p1b,(aN (by decide)).trans p3,bn (by rw[qs4];decide),cP.trans qd4⟩;generalize a4.put (some 4) (.pointer (some ⟨w0.heap.size+3,0,none⟩))=a5 at *;have hl:Laid s w0 ((w5.at d5).alloc (wgBlock cI.tWg 0 0)):=⟨(bV _ _).trans (zak (· + 1) NB),λb h=>(gL (H:=w5.heap) (by omega)).trans (ho4 b h),(gL (H:=w5.heap) (by omega)).trans hx4,(gL (H:=w5.heap) (by omega)).trans hc4,(gL (H:=w5.heap) (by omega)).trans hy4,ht4.1,ht4.2.1,ht4.2.2⟩;have Hm:WgAt cI.tWg (w0.heap.size+3) ((w5.at d5).alloc (wgBlock cI.tWg 0 0)) 0 0:=sI (H:=w5.heap) NB.symm;generalize (w5.at d5).alloc (wgBlock cI.tWg 0 0)=w6 at *;refine Goes.ctl rfl (λ_=>zaX) ?_;refine Goes.ctl rfl (λ_=>zaV (x:= .region 3 (g3 f43) false) (y:=D4 f43)) ?_;refine Goes.ctl rfl (λ_=>zaW) ?_;refine Goes.ctl rfl (λ_=>jI (ops:=g3 f43) (i:=0) (rest:=[]) (f:=68) (args:=#[.pointer (some ⟨w0.heap.size+3,0,none⟩),Γ Δ 1]) rfl rfl (by decide) rfl (by have h4:=gb.s4;simp only[zbR,zaB,zbt,h4];rfl)) ?_;refine Goes.stop λw₁ h₁=>?_;obtain⟨d6,rfl⟩:=h₁;exact⟨a5,gb,rfl,⟨hl.size,hl.old,hl.txt,hl.chan,hl.box,hl.tape,hl.os,hl.output⟩,Hm⟩
end Go.Ren
set_option linter.unusedSectionVars false
namespace Go.Ren
open Go.Proofs.Tryz
open Go Go.Conc Go.ConcX Go.RowKit Go.Conc.Lib Go.ConcX.Gen Go.Proofs Go.Loop
theorem LZ (Wg:Nat):Φ.enter prog 68 #[.pointer (some ⟨Wg,0,none⟩),Γ Δ 1] .normal=(base cI.add).at ⟨#[.pointer (some ⟨Wg,0,none⟩),Γ Δ 1,Θ,Θ,Θ,Θ,Θ,Θ,Θ,Θ,Θ,Θ,Θ,Θ,Θ,Θ,Θ,Θ,Θ,Θ,Θ,Θ,Θ,Θ,Θ,Θ,Θ,Θ,Θ,Θ,Θ,Θ,Θ,Θ,Θ,Θ,Θ,Θ,Θ,Θ,Θ,Θ,Θ,Θ,Θ,Θ,Θ,Θ,Θ,Θ,Θ,Θ,Θ,Θ,Θ,Θ,Θ,Θ,Θ,Θ,Θ,Θ,Θ,Θ,Θ,Θ,Θ,Θ,Θ,Θ,Θ,Θ,Θ,Θ,Θ,Θ,Θ,Θ,Θ,Θ,Θ,Θ,Θ,Θ,Θ,Θ,Θ,Θ,Θ,Θ,Θ,Θ,Θ,Θ,Θ,Θ,Θ,Θ,Θ,Θ,Θ,Θ,Θ,Θ,Θ,Θ,Θ,Θ,Θ,Θ,Θ,Θ,Θ,Θ,Θ,Θ,Θ],[]⟩ [.code (body_add cI)]:=by
 rw[enter_at (P:=prog) (f:=68) (c:=body_add cI) #[.pointer (some ⟨Wg,0,none⟩),Γ Δ 1] O0 (by kernel_rfl)];have:(#[Ξ.pointer (some ⟨Wg,0,none⟩),Γ Δ 1]++θ ((addFn cI).ntmps - (#[Ξ.pointer (some ⟨Wg,0,none⟩),Γ Δ 1]:Array Ξ).size) Θ)=#[.pointer (some ⟨Wg,0,none⟩),Γ Δ 1,Θ,Θ,Θ,Θ,Θ,Θ,Θ,Θ,Θ,Θ,Θ,Θ,Θ,Θ,Θ,Θ,Θ,Θ,Θ,Θ,Θ,Θ,Θ,Θ,Θ,Θ,Θ,Θ,Θ,Θ,Θ,Θ,Θ,Θ,Θ,Θ,Θ,Θ,Θ,Θ,Θ,Θ,Θ,Θ,Θ,Θ,Θ,Θ,Θ,Θ,Θ,Θ,Θ,Θ,Θ,Θ,Θ,Θ,Θ,Θ,Θ,Θ,Θ,Θ,Θ,Θ,Θ,Θ,Θ,Θ,Θ,Θ,Θ,Θ,Θ,Θ,Θ,Θ,Θ,Θ,Θ,Θ,Θ,Θ,Θ,Θ,Θ,Θ,Θ,Θ,Θ,Θ,Θ,Θ,Θ,Θ,Θ,Θ,Θ,Θ,Θ,Θ,Θ,Θ,Θ,Θ,Θ,Θ,Θ,Θ,Θ,Θ,Θ,Θ,Θ]:=by kernel_rfl
 rw[this]
variable {cs:List Φ}{N:Nat}
def AtGo (s:List UInt8)(w0:Λ)(cs:List Φ)(g:ζ)(w:Λ):Prop:=
 ∃a,GB a w0.heap.size∧a.eval (.tmp 9)=.func (.func 69) #[] #[.pointer (some ⟨w0.heap.size+3,0,none⟩),.pointer (some ⟨w0.heap.size,0,none⟩),.pointer (some ⟨w0.heap.size+2,0,none⟩)]∧
  g=G ((base 43).at a (.inRegion (g4 f43) [1]::.code (D5 f43)::[])) cs∧Laid s w0 w∧WgAt cI.tWg (w0.heap.size+3) w KK 0
theorem CY {Wg C Low:Nat}(hW:Wg<Low)(hC:C<Low){Z:Loc→Prop}(hZ:∀a:Addr,a.block=C→¬Z (.cell a)){w w':Λ}{es:Array ϖ}(h:@DE (@EvS Wg C (ml Wg C Low nV hW hC)) w w' es):∀e∈es,EvL Z Low e:=by
 intro e he;obtain⟨h1,h2,h3,h4,h5,h6⟩:=h e he;have h6':okR Wg C Low (MemAct.ofEvent e):=h6;refine⟨λx hx hz=>?_,?_,?_,h6'.2⟩
 ·obtain⟨a,ha,hb⟩:=h6'.1 x hx;rcases hb with hb|hb
  ·exact(h1 x hx).1 (.inl ⟨a,ha,hb⟩)
  ·rw[ha]at hz;exact absurd hz (hZ a hb)
 ·intro e';exact h4 (by obtain⟨loc,wr,sy⟩:=e;simp only at e';subst e';rfl)
 ·intro e';exact h5 (by obtain⟨loc,wr,sy⟩:=e;simp only at e';subst e';rfl)
theorem Laid.aaS {s:List UInt8}{w0 w:Λ}(h:Laid s w0 w)(v:Ξ):Laid s w0 (w.setCell (stA (w0.heap.size+3)) v):=by
 have hb:∀b,b≠w0.heap.size+3→(w.setCell (stA (w0.heap.size+3)) v).heap[b]?=w.heap[b]?:=λb hb=>zax _ _ _ b hb;refine⟨?_,λb hlt=>(hb b (by omega)).trans (h.old b hlt),(hb _ (by omega)).trans h.txt,(hb _ (by omega)).trans h.chan,(hb _ (by omega)).trans h.box,h.tape,h.os,h.output⟩;show(Array.modify w.heap _ _).size=_;rw[Array.size_modify];exact h.size
theorem Laid.at {s:List UInt8}{w0 w:Λ}(h:Laid s w0 w)(d:Nat):Laid s w0 (w.at d):=⟨h.size,h.old,h.txt,h.chan,h.box,h.tape,h.os,h.output⟩
theorem GB.put {a:Act}{N:Nat}(h:GB a N){t:Tmp}{v:Ξ}(h1:t≠1)(h3:t≠3)(h4:t≠4):GB (a.put (some t) v) N:=
 ⟨size_put.trans h.size,(aN h1).trans h.s1,(aN h3).trans h.s3,(aN h4).trans h.s4,cP.trans h.defers⟩
theorem Pt (s:List UInt8)(w0:Λ)(g:ζ)(w:Λ)(h:WW s w0 cs g w)(hW:w0.heap.size+3<w0.heap.size+4)(hC:w0.heap.size<w0.heap.size+4):letI:=ml (w0.heap.size+3) w0.heap.size (w0.heap.size+4) nV hW hC
 Goes prog true AtRel (DE (EvS (w0.heap.size+3) w0.heap.size)) (AtMkS prog .disable λa w=>∃n,Goes prog true AtRel (DE (EvS (w0.heap.size+3) w0.heap.size)) (AtMkS prog .enable λa w=>∃n,Goes prog true AtRel (DE (EvS (w0.heap.size+3) w0.heap.size)) (AtGo s w0 cs) n a w) n a w) 12 g w:=by
 letI:=ml (w0.heap.size+3) w0.heap.size (w0.heap.size+4) nV hW hC
 obtain⟨a,hg,rfl,hl,Hm⟩:=h;rw[LZ];refine addPos (L:=cI) (b₀:=base 43) (a₀:=a) (ops₀:=g3 f43) (i₀:=0) (rest₀:=[]) (k₀:=[.code (D4 f43)]) (mT:=4) wgz w Hm ?_;have hl':=hl.aaS (.int .u64 KK);have adl:WgAt cI.tWg (w0.heap.size+3) (w.setCell (stA (w0.heap.size+3)) (.int .u64 KK)) KK 0:=Hm.setSt KK;generalize w.setCell (stA (w0.heap.size+3)) (.int .u64 KK)=w1 at *;change Goes _ _ _ _ _ _ (G ((base 43).at (a.put (some 8) (.tuple #[])) (.inRegion (g3 f43) []::.code (D4 f43)::[])) cs) _;have hg1:=hg.put (t:=8) (v:= .tuple #[]) (by decide) (by decide) (by decide);generalize a.put (some 8) (.tuple #[])=a1 at *;refine Goes.silent atRel_trans (λ_=>by intro e he;simp at he) rfl (λ_=>zaX) ?_;refine Goes.silent atRel_trans (λ_=>by intro e he;simp at he) rfl (λ_=>zaV (x:= .region 4 (g4 f43) false) (y:=D5 f43)) ?_;refine Goes.silent atRel_trans (λ_=>by intro e he;simp at he) rfl (λ_=>zaW) ?_;refine Goes.silent (g':=G ((base 43).at (a1.put (some 9) (.func (.func 69) #[] #[.pointer (some ⟨w0.heap.size+3,0,none⟩),.pointer (some ⟨w0.heap.size,0,none⟩),.pointer (some ⟨w0.heap.size+2,0,none⟩)])) (.inRegion (g4 f43) [1]::.code (D5 f43)::[])) cs) atRel_trans (λ_=>by intro e he;simp at he) rfl (λw₁=>?_) ?_
 ·have hop:(g4 f43)[0].op=.makeFunc (.func 69) #[] #[.tmp 4,.tmp 1,.tmp 3]:=rfl;have hr:(Ω a1.eval (g4 f43)[0]).run prog w₁=.ok (.value (.func (.func 69) #[] #[.pointer (some ⟨w0.heap.size+3,0,none⟩),.pointer (some ⟨w0.heap.size,0,none⟩),.pointer (some ⟨w0.heap.size+2,0,none⟩)])) w₁:=by
   unfold Ω;simp[hop,Instr.makeFunc,hg1.s1,hg1.s3,hg1.s4]
  have he:(Ω a1.eval (g4 f43)[0]).events prog w₁ #[]=#[]:=by
   unfold Ω;simp[hop,Instr.makeFunc]
  have hq:=stepG_value (P:=prog) (main:=true) (b:=base 43) (k:=[.code (D5 f43)]) (cs:=cs) (ops:=g4 f43) (i:=0) (rest:=[1]) rfl rfl (by decide) hr;rw[listed_none he]at hq;exact hq
 ·refine Goes.stop λw₁ h₁=>?_;obtain⟨d,rfl⟩:=h₁;exact⟨_,hg1.put (by decide) (by decide) (by decide),bn (by rw[hg1.size];decide),rfl,hl'.at d,adl⟩
def QG (N:Nat)(l:Loc):Prop:=l=.obj (N+1)∨∃a:Addr,l=.cell a∧a.block=N+3
def WX (N:Nat)(b:Nat):Prop:=b=N∨b=N+2
theorem Pu {a:Act}{N:Nat}(h9:a.eval (.tmp 9)=.func (.func 69) #[] #[.pointer (some ⟨N+3,0,none⟩),.pointer (some ⟨N,0,none⟩),.pointer (some ⟨N+2,0,none⟩)])(w:Λ):ϊ prog true (G ((base 43).at a (.inRegion (g4 f43) [1]::.code (D5 f43)::[])) cs) w=.spawn (G ((base 43).at a (.inRegion (g4 f43) []::.code (D5 f43)::[])) cs) (born prog (uk (N+3) N (N+2))) w #[]:=by
 have hop:(g4 f43)[1].op=.go { callee:= .value (.tmp 9),args:=#[],argTypes:=#[] }:=rfl;have hr:(Ω a.eval (g4 f43)[1]).run prog w=.ok (.spawn (uk (N+3) N (N+2))) w:=by
  unfold Ω;simp[hop,resolve,h9,ϐ,uk]
 have he:(Ω a.eval (g4 f43)[1]).events prog w #[]=#[]:=by
  unfold Ω;simp[hop,resolve,h9,ϐ]
 have hq:=stepG_spawn (P:=prog) (main:=true) (b:=base 43) (k:=[.code (D5 f43)]) (cs:=cs) (ops:=g4 f43) (i:=1) (rest:=[]) rfl rfl (by decide) hr rfl;rw[listed_none he]at hq;exact hq
theorem CZ {Low:Nat}{x y:uh (N+3) Low}(hx:x.C=N)(hy:y.C=N+2){a:Act}(hg:GB a N){ts:List Tok}(hts:ts.length≤1000000){W:Λ}(hb:prog.globals.size≤W.heap.size)(hsz:N+4≤W.heap.size)(adm:W.heap[N+2]?=some (.cells #[.chan (some (N+1))] 132)):lR prog (WX N) (N+1) (cg um) (OZ prog cI.tWg x y (CX (WX N) x.C y.C (N+3) (N+1) ts cs)) (ts.map cg) (λ_=>False) (G ((base 43).at a (.inRegion (g4 f43) []::.code (D5 f43)::[])) cs) W:=by
 rw[cQ];refine af.silent rfl (λ_=>zaX) ?_;refine af.silent rfl (λ_=>zaV (x:= .region 5 (g5 f43) false) (y:=D6 f43)) ?_;refine af.silent rfl (λ_=>zaW) ?_;refine af.mv (ops:=g5 f43) (i:=0) (rest:=[]) rfl rfl (by decide) (dd:=some 5) rfl (.inr rfl) (v:= .slice none 0 0) rfl ?_;have hg1:=hg.put (t:=5) (v:= .slice none 0 0) (by decide) (by decide) (by decide);have k5:(a.put (some 5) (.slice none 0 0)).eval (.tmp 5)=.slice none 0 0:=bn (by rw[hg.size];decide);generalize a.put (some 5) (.slice none 0 0)=a1 at *;refine af.silent rfl (λ_=>zaX) ?_;refine af.silent rfl (λ_=>zaV (x:=cj (D6 f43)) (y:=D10 f43)) ?_;refine af.silent rfl (λ_=>zaV (x:= .region 6 (g6 f43) false) (y:= .block 0 (.loop (Lg f43)))) ?_;refine af.silent rfl (λ_=>zaW) ?_;refine af.Ib (ops:=g6 f43) (i:=0) (rest:=[]) rfl rfl (by decide) (dd:=some 10) rfl (e:=132) (x:= .tmp 3) rfl (ad:=⟨N+2,0,none⟩) hg1.s3 (.inr rfl) (v:= .chan (some (N+1))) (cell_of_one adm) (λw h=>Po (.inr rfl) w _ h) ?_;have hga:GtA (a1.put (some 10) (.chan (some (N+1)))) x.C y.C (N+3) (N+1):=⟨size_put.trans hg1.size,by rw[hx];exact(aN (by decide)).trans hg1.s1,by rw[hy];exact(aN (by decide)).trans hg1.s3,(aN (by decide)).trans hg1.s4,bn (by rw[hg1.size];decide),cP.trans hg1.defers⟩;have k5':(a1.put (some 10) (.chan (some (N+1)))).eval (.tmp 5)=.slice none 0 0:=(aN (by decide)).trans k5;generalize a1.put (some 10) (.chan (some (N+1)))=a2 at *;refine af.silent rfl (λ_=>zaX) ?_;refine af.silent rfl (λ_=>stepG_block) ?_;refine af.silent rfl (λ_=>stepG_loop) ?_;have hH:qc (WX N) (λ_=>False) W:=⟨λb hb=>by rcases hb with h|h|h<;>first|exact h.elim|omega,λ_ _ h=>h⟩;have hA:=At.empty (P:=prog) (S:=Sc) hH hb;have hGR:GR (WX N) x.C y.C (N+3) (N+1) [] (λ_=>False) a2 W:=⟨hga,_,_,.slice none 0 0,hA,by rw[k5'];simp[rv],by unfold Cl;simp[rv],zck _ _ _ _⟩;have:=LY (cs:=cs) (Fin:=OZ prog cI.tWg x y (CX (WX N) x.C y.C (N+3) (N+1) ts cs)) ts [] (λ_=>False) a2 W hGR (by simpa using hts) (λown a W h=>Ii (by simpa using h));rw[cQ]at this;exact this
end Go.Ren
set_option linter.unusedSectionVars false
namespace Go.Ren
open Go.Proofs.Tryz
open Go Go.Conc Go.ConcX Go.RowKit Go.Conc.Lib Go.ConcX.Gen Go.Proofs Go.Loop
variable {v y0 y1 y2 nv:Ξ}{Shun:Loc→Prop}{s:List UInt8}{w w':Λ}{dp i lo:Nat}{b:Φ}{e:φ}{P:ψ}{S:Sd}{Ψ:dn}{rest:List Nat}{kk:List Item}{bN:List Ξ}{nodes:List eO}
variable {c:Φ}{cs:List Φ}
theorem L3 {Z:Loc→Prop}{B:Nat}{a:Act}(hd:a.defers=[])(hs:a.tmps.size=20)(h5:a.eval (.tmp 5)=v)(w:Λ):Goes prog true AtRel (DZ Z B) (λg w'=>g=G (c.finish v) cs∧AtRel w w') 8 (Bx f43 a (c::cs)) w:=by
 unfold Bx;have h5':(a.put (some 18) (.tuple #[])).eval (.tmp 5)=v:=(aN (by decide)).trans h5;have hs':(a.put (some 18) (.tuple #[])).tmps.size=20:=size_put.trans hs;have hd':(a.put (some 18) (.tuple #[])).defers=[]:=cP.trans hd;generalize a.put (some 18) (.tuple #[])=a1 at *;refine Goes.ctl rfl (λ_=>zaX) ?_;refine Goes.ctl rfl (λ_=>zaV (x:= .region 11 (g11 f43) false) (y:= .ret)) ?_;refine Goes.ctl rfl (λ_=>zaW) ?_;refine Goes.JU (ops:=g11 f43) (i:=0) (rest:=[1]) rfl rfl (by decide) (dd:=some 19) rfl (v:=v) (nw:=λw=>w) (λd=>?_) (λd=>rfl) (λd=>?_)
 ·show(pure (.value (a1.eval (.tmp 5))):Sem Next).run prog _=_;rw[h5'];rfl
 have h19:(a1.put (some 19) v).eval (.tmp 19)=v:=bn (by rw[hs'];decide);have hs2:(a1.put (some 19) v).tmps.size=20:=size_put.trans hs';have hd2:(a1.put (some 19) v).defers=[]:=cP.trans hd';generalize a1.put (some 19) v=a2 at *;refine Goes.JU (ops:=g11 f43) (i:=1) (rest:=[]) rfl rfl (by decide) (dd:=some 2) rfl (v:=v) (nw:=λw=>w) (λd=>?_) (λd=>rfl) (λd1=>?_)
 ·show(pure (.value (a2.eval (.tmp 19))):Sem Next).run prog _=_;rw[h19];rfl
 have h2:(a2.put (some 2) v).eval (.tmp 2)=v:=bn (by rw[hs2];decide);have hd3:(a2.put (some 2) v).defers=[]:=cP.trans hd2;generalize a2.put (some 2) v=a3 at *;refine Goes.ctl rfl (λ_=>zaX) ?_;refine Goes.ctl rfl (λ_=>stepG_ret') ?_;refine Goes.ctl (g':=G (c.finish v) cs) rfl (λw₁=>?_) ?_
 ·refine stepG_leave (fn:=f43) rfl hd3 aaP ?_ ?_
  ·have jA:a3.tmps.getD 2 Θ=v:=h2;unfold results;rw[show f43.results=#[.tmp 2] from rfl];simp[←jA,go_sem]
  ·unfold results;rw[show f43.results=#[.tmp 2] from rfl];simp[go_sem]
 ·refine Goes.stop λw₁ h₁=>⟨rfl,?_⟩;exact atRel_trans _ _ _ (atRel_trans _ _ _ ⟨d,rfl⟩ ⟨d1,rfl⟩) h₁
def E4 (Shun:Loc→Prop)(ts:List Tok)(c:Φ)(cs:List Φ)(n:Nat)(w0:Λ)(m:Machine)(t:ϕ):Prop:=
 ∃(gs:Array ζ) (W:Λ) (sl:Option (Nat×Nat)) (q:Nat→Nat) (ρ:Rn) (w:Λ) (v:Ξ) (Shun':Loc→Prop),m=crowd gs W sl∧gs.size=n+1∧gs[0]?=some (G (c.finish (rv ρ v)) cs)∧Leavers prog t gs q∧Past Shun' W.heap.size t∧
  (∀l,Shun' l→l.low W.heap.size)∧(∀l,l.low w0.heap.size→Shun' l→Shun l)∧(∀l,jS (Touch Sc.d ρ w) l→¬Shun' l)∧
  ja prog Sc ρ w W∧Cl prog Sc w v∧w.ownsRow prog.globals.size 131 7 v ts.length (ts.flatMap λt=>(eH t).toList)∧(∀b,Touch Sc.d ρ w b→w0.heap.size≤b)∧
  w0.heap.size≤W.heap.size∧(∀b,b<w0.heap.size→W.heap[b]?=w0.heap[b]?)∧W.tape=w0.tape∧W.os=w0.os∧W.output=w0.output
theorem quiet_of {Q:Loc→Prop}{B:Nat}{t:ϕ}(h:Past Shun B t)(hQ:∀l,l.low B→¬Q l):∀i a,touchAt t i=some a→¬Q a.loc:=by
 intro i a ha;unfold touchAt at ha;obtain⟨act,h1,h2⟩:=zaO.1 ha;unfold Trace.act? at h1;obtain⟨op,h3,rfl⟩:=zas.1 h1;exact hQ _ (Be (h.seen op (zbF h3)) h2)
theorem uZ:∀(n:Nat) (s:List UInt8) (a:Nat),(aw n s a).length≤n
 |0,s,a=>zac _
 |n+1,s,a=>by
  have:=uZ n s (aR s a).gw;rw[aw];split
  ·simp
  ·simp;exact this
def Yu (N Low:Nat)(s:List UInt8)(h:N+4≤Low):uh (N+3) Low:=⟨⟨9⟩,N,[.string ⟨⟨s⟩⟩],by omega,by omega,by omega⟩
def Yv (N Low:Nat)(h:N+4≤Low):uh (N+3) Low:=⟨⟨132⟩,N+2,[.chan (some (N+1))],by omega,by omega,by omega⟩
theorem aaT {N n Low:Nat}(hn:n≠0)(adn:Low=N+4)(hS:∀l,Shun l→l.low N):EH (QG N) (λl=>Shun l∨QG N l) n (N+1) (N+3) Low (WX N) (λb=>b=N+1∨b=N+3):=by
 subst adn;refine⟨⟨hn,λb hb=>by rcases hb with h|h<;>omega,by omega,λh=>by rcases h with h|h<;>omega,λl h=> .inr h,λl h=>?_,λl hl h=>?_,.inl rfl⟩,by omega,by omega,λa ha=> .inr ⟨a,rfl,ha⟩,.inr rfl⟩
 ·rcases h with h|rfl|⟨a,rfl,ha⟩
  ·exact Loc.low_mono (by omega) (hS l h)
  ·show N+1<N+4;omega
  ·show a.block<N+4;omega
 ·rcases h with h|rfl|⟨a,rfl,ha⟩
  ·have:=hS l h;cases l with
   |cell a=>have h2:a.block<N:=this;rcases hl with h|h<;>omega
   |obj r=>have h2:r<N:=this;rcases hl with h|h<;>omega
   |_=>exact hl
  ·rcases hl with h|h<;>omega
  ·rcases hl with h|h<;>omega
section
variable {s:List UInt8}
 (hN:∀(n:Nat) (w:Λ),n≤s.length→ώ prog 120 #[.string ⟨⟨s⟩⟩,Γ Δ n] w λe _=>∃v,e=.returned v∧v=cg (aR s n))
 (hL:∀(t:Tok) (w:Λ),ώ prog 121 #[cg t] w λe _=>∃v,e=.returned v∧v=.bool t.lastB)
include hN hL in
theorem C0 {gs:Array ζ}{w0:Λ}{sl:Option (Nat×Nat)}{t:ϕ}{q:Nat→Nat}(hlen:s.length≤1000)(hb:prog.globals.size≤w0.heap.size)(h0:gs[0]?=some (G (Φ.enter prog 43 #[.string ⟨⟨s⟩⟩] .normal) (c::cs)))(hLv:Leavers prog t gs q)(hP:Past Shun w0.heap.size t)(hS:∀l,Shun l→l.low w0.heap.size):Reach prog (crowd gs w0 sl) t (E4 Shun (aw (s.length+1) s 0) c cs gs.size w0):=by
 have Ln:gs.size≠0:=by have:=(zaj.1 h0).1;omega
 have hPQ:fO (QG w0.heap.size) Shun (w0.heap.size+4) 0 t:=fO.Ke (hP.mono (by omega)) (quiet_of hP λl hl hq=>by
  rcases hq with rfl|⟨a,rfl,ha⟩
  ·have:w0.heap.size+1<w0.heap.size:=hl;omega
  ·have:a.block<w0.heap.size:=hl;omega)
 refine(jJ (Q:=QG w0.heap.size) (Shun:=Shun) (B:=w0.heap.size+4) (D:=DZ (λl=>Shun l∨QG w0.heap.size l) (w0.heap.size+4)) (λ_ _ _ h=>h) 19 _ w0 (Ij (cs:=c::cs) s w0 (λhz=>?_) (by omega)) gs sl t q rfl hLv h0 hPQ).bind ?_
 ·rcases hz with hz|hz|⟨a,ha,hab⟩
  ·have:w0.heap.size+2<w0.heap.size:=hS _ hz;omega
  ·cases hz
  ·cases ha;have:w0.heap.size+2=w0.heap.size+3:=hab;omega
 rintro m t1 ⟨gs1,a1,w1,sl1,q1,rfl,Yw,h01,ado,adp,hP1⟩;have hZ:∀a:Addr,a.block=w0.heap.size→¬(Shun (.cell a)∨QG w0.heap.size (.cell a)):=λa ha hz=>by
  rcases hz with hz|hz|⟨a',ha',hab⟩
  ·have:a.block<w0.heap.size:=hS _ hz;omega
  ·cases hz
  ·cases ha';omega
 have Pv:=Pt s w0 a1 w1 (ado w1 (atRel_refl w1)) (by omega) (by omega);refine(jJ (Q:=QG w0.heap.size) (Shun:=Shun) (B:=w0.heap.size+4) (λw w' es h=>CY _ _ hZ h) 12 _ w1 Pv gs1 sl1 t1 q1 Yw adp h01 hP1).bind ?_;rintro m t2 ⟨gs2,a2,w2,sl2,q2,rfl,wJ,h02,adq,adr,hP2⟩;refine(uY (mk:= .disable) (by rfl) trivial wJ adr h02 hP2 adq).bind ?_;rintro m t3 ⟨gs3,a3,w3,sl3,q3,rfl,hn3,h03,⟨n3,hG3⟩,ads,hP3⟩;refine(jJ (Q:=QG w0.heap.size) (Shun:=Shun) (B:=w0.heap.size+4) (λw w' es h=>CY _ _ hZ h) n3 _ w3 hG3 gs3 sl3 t3 q3 hn3 ads h03 hP3).bind ?_;rintro m t4 ⟨gs4,a4,w4,sl4,q4,rfl,hn4,h04,adt,adu,Pk⟩;refine(uY (mk:= .enable) (by rfl) trivial hn4 adu h04 Pk adt).bind ?_;rintro m t5 ⟨gs5,a5,w5,sl5,q5,rfl,hn5,h05,⟨n5,hG5⟩,adv,hP5⟩;refine(jJ (Q:=QG w0.heap.size) (Shun:=Shun) (B:=w0.heap.size+4) (λw w' es h=>CY _ _ hZ h) n5 _ w5 hG5 gs5 sl5 t5 q5 hn5 adv h05 hP5).bind ?_;rintro m t6 ⟨gs6,a6,w6,sl6,q6,rfl,hn6,h06,adw,adx,hP6⟩;have hd0:deafBehind (deafBehind 0 #[Go.ConcX.mk .disable]) #[Go.ConcX.mk .enable]=0:=by rfl
 rw[hd0]at hP6;obtain⟨a,hg,h9,rfl,hl,Hm⟩:=adw w6 (atRel_refl w6);have hsz:w6.heap.size=w0.heap.size+4:=hl.size;rw[←hsz]at hP6;have Ik:w0.heap.size+4≤w6.heap.size:=by omega
 have nX:prog.globals.size≤w6.heap.size:=by omega
 have aaU:=Ua (P:=prog) (ty:=cI.tWg) (Q:=QG w0.heap.size) (Shun:=Shun) (Shun':=λl=>Shun l∨QG w0.heap.size l) (ch:=w0.heap.size+1) (Wg:=w0.heap.size+3) (n:=gs.size) (ro:=WX w0.heap.size) (z:=cg um) (w:=w6) (x:=Yu w0.heap.size w6.heap.size s Ik) (y:=Yv w0.heap.size w6.heap.size Ik)
  (After:=CX (WX w0.heap.size) w0.heap.size (w0.heap.size+2) (w0.heap.size+3) (w0.heap.size+1) (aw (s.length+1) s 0) (c::cs)) (vs:=(aw (s.length+1) s 0).map cg) (sl:=sl6)
  (aaT Ln hsz hS) (λl h=> .inl h) (by show w0.heap.size≠w0.heap.size+2;omega) (λa ha=>hZ a ha) (λa ha hz=>?_) hn6 adx h06 hP6 rfl (λw₁ _=>Pu h9 w₁) ⟨0,0,false,hl.chan⟩ Hm (λw₁ h₁=>?_) (λw₁ h₁=>?_)
 rotate_left
 ·have hab:a.block=w0.heap.size+2:=ha;rcases hz with hz|hz|⟨a',ha',afq⟩
  ·have:a.block<w0.heap.size:=hS _ hz;omega
  ·cases hz
  ·cases ha';omega
 ·obtain⟨d,rfl⟩:=h₁;exact CZ (x:=Yu w0.heap.size w6.heap.size s Ik) (y:=Yv w0.heap.size w6.heap.size Ik) rfl rfl hg (by have:=uZ (s.length+1) s 0;omega) nX Ik hl.box
 ·obtain⟨d,rfl⟩:=h₁;exact Ic (x:=Yu w0.heap.size w6.heap.size s Ik) (y:=Yv w0.heap.size w6.heap.size Ik) (by show w0.heap.size≠w0.heap.size+1;omega) (by show w0.heap.size+2≠w0.heap.size+1;omega) (.inl rfl) (.inr rfl) hN hL (w6.at d) ⟨λb hb=>by
   rcases hb with h|h|h
   ·exact h.elim
   ·show b<w6.heap.size;omega
   ·show b<w6.heap.size;omega,λ_ _ h=>h⟩ nX ⟨hl.txt,hl.box⟩ (cell_of_one (w:=w6.at d) hl.txt) (cell_of_one (w:=w6.at d) hl.box)
 refine aaU.bind ?_;rintro m t7 ⟨w₁,⟨d1,rfl⟩,gs7,w',w7,sl7,q7,a7,own,rfl,hn7,h07,aff,⟨a',⟨hga,ρ,w,v,hA,h5,fK,hrow⟩,rfl,L4⟩,afr,ady,hP7,aaV,afg,Yx,ht7,adz,aaW⟩;refine(jJ (Q:=λ_=>False) (Shun:=λl=>Shun l∨QG w0.heap.size l) (B:=w7.heap.size) (D:=DZ (λl=>(Shun l∨QG w0.heap.size l)∨False) w7.heap.size) (λ_ _ _ h=>h) 8 _ w7 (L3 (c:=c) (cs:=cs) hga.defers hga.size h5 w7) gs7 sl7 t7 q7 hn7 ady h07 (fO.Ke hP7 λ_ _ _ h=>h)).mono ?_;rintro m t8 ⟨gs8,a8,w8,sl8,q8,rfl,hn8,h08,adA,adB,hP8⟩;obtain⟨rfl,d8,e8⟩:=adA w8 (atRel_refl w8);have mh:w8.heap=w7.heap:=by rw[e8];rfl
 have afs:w7.heap.size=w'.heap.size:=L4.size;have C1:∀b,Touch Sc.d ρ w b→w0.heap.size+4≤b:=λb hb=>by have:=aaV b (hA.Wz b hb);omega
 have hblk:∀b,Touch Sc.d ρ w b→w8.heap[b]?=w'.heap[b]?:=λb hb=>by
  have:=C1 b hb;rw[mh];exact L4.block b (by omega) (by omega) (by omega)
 have hS8:=hA.vG.grow (aS:=w8) (by rw[mh];omega) hblk;refine⟨gs8,w8,sl8,q8,_,w,v,λl=>Shun l∨QG w0.heap.size l,rfl,hn8,?_,adB,by rw[mh];exact hP8.past,λl hl'=>?_,λl fV hl'=>?_,λl hl'=>?_,hS8,fK,hrow,λb hb=>?_,by rw[mh];omega,λb hb=>?_,?_,?_,?_⟩
 ·rw[h08];have:rv (ek ρ w.heap.size w8.heap.size) v=rv ρ v:=fK.agree (λr hr=>bg hr) (Er hA.vG hS8);rw[this]
 ·have:=(aaT (Low:=w6.heap.size) Ln hsz hS).sr l hl';exact Loc.low_mono (by rw[mh];omega) this
 ·rcases hl' with h|rfl|⟨a,rfl,ha⟩
  ·exact h
  ·have:w0.heap.size+1<w0.heap.size:=fV;omega
  ·have:a.block<w0.heap.size:=fV;omega
 ·rw[dN]at hl';rintro (h|rfl|⟨a,rfl,ha⟩)
  ·have AJ:=hS l h;cases l with
   |cell a=>have h1:=C1 _ hl';have h2:a.block<w0.heap.size:=AJ;omega
   |obj r=>have h1:=C1 _ hl';have h2:r<w0.heap.size:=AJ;omega
   |_=>exact hl'
  ·have h1:=C1 _ hl';omega
  ·have h1:=C1 _ hl';omega
 ·rw[dN]at hb;have:=C1 b hb;omega
 ·rw[mh,L4.block b (by omega) (by omega) (by omega),Yx b (by omega) (by omega) (by omega)];exact hl.old b hb
 ·rw[e8];exact(L4.tape.trans ht7).trans hl.tape
 ·rw[e8];exact(L4.os.trans adz).trans hl.os
 ·rw[e8];exact(L4.output.trans aaW).trans hl.output
end
open Go Go.Conc Go.ConcX Go.RowKit Go.Proofs Go.Loop
theorem Md (s:List UInt8)(hs:s.length≤1000)(n:Nat)(w:Λ)(hn:n≤s.length):ώ prog 120 #[.string ⟨⟨s⟩⟩,Γ Δ n] w λe _=>∃v,e=.returned v∧v=cg (aR s n):=
 (Go.Proofs.YtlhimdjkkiflhaaGreatDoor.PQ ⟨⟨s⟩⟩ n w (by show s.length≤_;omega) hn).mono λe w' h=>⟨_,h.1,rfl⟩
theorem Me (t:Tok)(w:Λ):ώ prog 121 #[cg t] w λe _=>∃v,e=.returned v∧v=.bool t.lastB:=
 (Go.Proofs.YtlhimdjkkiflhaaGreatDoor.PH t w).mono λ_e _w' h=>⟨_,h,rfl⟩
theorem Iw {c:Φ}{cs:List Φ}{gs:Array ζ}{w0:Λ}{sl:Option (Nat×Nat)}{t:ϕ}{q:Nat→Nat}(hlen:s.length≤1000)(hb:prog.globals.size≤w0.heap.size)(h0:gs[0]?=some (G (Φ.enter prog 43 #[.string ⟨⟨s⟩⟩] .normal) (c::cs)))(hLv:Leavers prog t gs q)(hP:Past Shun w0.heap.size t)(hS:∀l,Shun l→l.low w0.heap.size):Reach prog (crowd gs w0 sl) t (E4 Shun (aw (s.length+1) s 0) c cs gs.size w0):=
 C0 (λn w hn=>Md s hlen n w hn) Me hlen hb h0 hLv hP hS
section
variable {Ψ:dn}{cs:List Φ}{w:Λ}{b:Φ}{a:Act}{ops:Array Oper}{i:Nat}{rest:List Nat}{kk:List Item}
theorem YH {o1 o2 o3:Nat→Prop}(h:∀x,o1 x→o2 x∨o3 x){l:Loc}(hl:jS o1 l):jS o2 l∨jS o3 l:=by
 cases l with
 |cell a=>exact h _ hl
 |obj r=>exact h _ hl
 |_=>exact .inl hl
theorem Fo {o:Nat→Prop}{n:Nat}(h:∀x,o x→x<n){l:Loc}(hl:jS o l):l.low n:=by
 cases l with
 |cell a=>exact h _ hl
 |obj r=>exact h _ hl
 |_=>exact hl.elim
theorem aa.YI (hlen:s.length≤1000)(h:∀v w',Below w.heap.size w w'→w'.ownsRow w.heap.size 131 7 v (aw (s.length+1) s 0).length ((aw (s.length+1) s 0).flatMap λt=>(eH t).toList)→aa prog Sz Ψ (b.at (a.put ((ops[i]?).bind (·.dst)) v) (.inRegion ops rest::kk)) cs w'):aa prog Sz Ψ (Φ.enter prog 43 #[.string ⟨⟨s⟩⟩] .normal) (b.at a (.inRegion ops (i::rest)::kk)::cs) w:=by
 intro ρ W gs sl t q Shun hS hc hcs h0 hL hP hN hO hT YJ Ar;have e0:cv ρ (Φ.enter prog 43 #[.string ⟨⟨s⟩⟩] .normal)=Φ.enter prog 43 #[.string ⟨⟨s⟩⟩] .normal:=by
  rw[←il];simp[rv]
 rw[e0,zaB,zam]at h0;refine(Iw hlen hS.qb h0 hL hP hN.low).bind ?_;rintro m t' ⟨gs',W',sl',q',gB,w₂,v,Shun',rfl,_,Au,hL',hP',aaZ,WY,aa0,PR,fK,hrow,C1,hsz,hblk,aa1,hos,hout⟩;have WZ:=hS.grow hsz λx hx=>hblk x (hN.WC x hx);have rH:Touch Sz.d (ek ρ w.heap.size W'.heap.size) w=Touch Sz.d ρ w:=dN;have adG:∀r,r<w.heap.size→ek ρ w.heap.size W'.heap.size r=ρ r:=λr hr=>bg hr;generalize ek ρ w.heap.size W'.heap.size=cH at *;have PS:=ja.merge TV WZ PR (λx h1 h2=>by
  have k1:=hN.WC x (by rw[←rH];exact h1);have k2:=C1 x h2;omega)
 have kN:=PR.wr.big.p;have afh:=pG (w:=w) kN;have hrv:=aap TV WZ PR fK;have htm:∀x,Touch Sz.d (Bg cH gB prog.globals.size w.heap.size w₂.heap.size W'.heap.size) (Ht prog w w₂) x→Touch Sz.d ρ w x∨Touch Sc.d gB w₂ x:=λx hx=>by
  have:=Ew TV kN hx;rwa[rH]at this
 have Ul:∀r,r<w.heap.size→Bg cH gB prog.globals.size w.heap.size w₂.heap.size W'.heap.size r=ρ r:=λr hr=>by
  rw[←adG r hr];simp only[Bg,zab hr]
 generalize Bg cH gB prog.globals.size w.heap.size w₂.heap.size W'.heap.size=Ki at *;have YK:Below w.heap.size w (Ht prog w w₂):=⟨rfl,rfl,rfl,by omega,λr hr=>Hu hr⟩;have hrow3:=Ya (w:=w) (zac _) hrow (λx hx=>by
  obtain⟨tk,_,hx⟩:=List.mem_flatMap.1 hx;simp[eH]at hx;rcases hx with rfl|rfl|rfl|rfl|rfl|rfl|rfl<;>simp[rv])
 have Ym:=aar TV (w:=w) hS.wr.big.p kN fK;have hf3:∀x,Ki.f x=ρ.f x:=λx=>by rw[PS.f,hS.f]
 refine h _ _ YK hrow3 Ki W' gs' sl' t' q' Shun' PS ?_ (λf hf=>iJ (by omega) (hcs f (zaQ _ hf))) ?_ hL' hP' ⟨λx hx=>?_,λb hb=>zaI (hN.JW b hb) hsz,λl hl C8=>?_,aaZ⟩ ⟨aa1.trans hO.tape,hos.trans hO.os,hout.trans hO.output,zag hO.size hsz,λr hr hm=>(hblk r (zaI hr hO.size)).trans (hO.block r hr hm)⟩ (λx hx=>(htm x hx).elim (hT x) λh2=> .inl (zag hO.size (C1 x h2))) ⟨zag YJ.size (by omega),λr hr=>(Ul r (zaI hr YJ.size)).trans (YJ.same r hr)⟩ ⟨zag Ar.size (by omega),λr hr=>(Ul r (zaI hr Ar.size)).trans (Ar.same r hr)⟩
 ·have h1:OE prog Sz w.heap.size a:=hcs _ zaD;exact OE.put (P:=prog) (λx hx=>eY (dY (by omega)).1 (dY (by omega)).2 x (h1 x hx)) _ Ym
 ·rw[Au];have e1:cv ρ (b.at a (.inRegion ops (i::rest)::kk))=cv Ki (b.at a (.inRegion ops (i::rest)::kk)):=eZ (hcs _ zaD) (λr hr=>(Ul r hr).symm) (λx=>(hf3 x).symm);have e2:cs.map (cv ρ)=cs.map (cv Ki):=fw (λr hr=>(Ul r hr).symm) (λx=>(hf3 x).symm) λf hf=>hcs f (zaQ _ hf);rw[e1,e2,mP,mP,zcj,←hrv,Hs]
 ·obtain⟨r,h1,h2,rfl⟩:=hx;exact PS.low h2
 ·rcases hl with hl|hl
  ·rcases YH htm hl with h1|h1
   ·exact hN.sr l (.inl h1) (WY l (Fo hN.WC h1) C8)
   ·exact aa0 l h1 C8
  ·exact hN.sr l (.inr hl) (WY l (Fo hN.JW hl) C8)
end
open Go Go.Conc Go.ConcX Go.RowKit Go.Proofs Go.Loop Go.Proofs.YtlhimdjkkiflhaaGreatDoor
def c8 (f:Func):Code:=f.body.getD .skip
def c8a (f:Func):Code:=Ren.cj (c8 f)
def c8b (f:Func):Code:=Ren.cj (Ren.bM (c8 f))
def c8c (f:Func):Code:=Ren.bM (Ren.bM (c8 f))
def o8 (f:Func):Array Oper:=Ren.bz (Ren.cj (c8c f))
def UG (f:Func):Code:=Ren.bM (c8c f)
theorem Qf:prog.funcs[25]?=some f25:=by kernel_rfl
theorem abd:f25.body=some (.seq (c8a f25) (.seq (c8b f25) (.seq (.region 3 (o8 f25) false) (UG f25)))):=by kernel_rfl
theorem nt8:f25.ntmps=40:=by kernel_rfl
theorem t40 (x y:Ξ):(#[x,y]++θ (40-#[x,y].size) Θ:Array Ξ)=#[x,y,Θ,Θ,Θ,Θ,Θ,Θ,Θ,Θ,Θ,Θ,Θ,Θ,Θ,Θ,Θ,Θ,Θ,Θ,Θ,Θ,Θ,Θ,Θ,Θ,Θ,Θ,Θ,Θ,Θ,Θ,Θ,Θ,Θ,Θ,Θ,Θ,Θ,Θ]:=by
 generalize Θ=u;simp[θ,List.replicate]
theorem Y0 (x y:Ξ):Φ.enter prog 25 #[x,y] .normal=(base 25).at ⟨#[x,y,Θ,Θ,Θ,Θ,Θ,Θ,Θ,Θ,Θ,Θ,Θ,Θ,Θ,Θ,Θ,Θ,Θ,Θ,Θ,Θ,Θ,Θ,Θ,Θ,Θ,Θ,Θ,Θ,Θ,Θ,Θ,Θ,Θ,Θ,Θ,Θ,Θ,Θ],[]⟩ [.code (.seq (c8a f25) (.seq (c8b f25) (.seq (.region 3 (o8 f25) false) (UG f25))))]:=by
 rw[enter_at _ Qf abd,nt8,t40]
theorem adN:bB prog Fz Sz (c8a f25)=true:=by kernel_rfl
theorem abe:bB prog Fz Sz (c8b f25)=true:=by kernel_rfl
theorem abf:bB prog Fz Sz (UG f25)=true:=by kernel_rfl
def aq (w w':Λ):Prop:=w.heap.size≤w'.heap.size∧∀r,r<w.heap.size→w'.heap[r]?=w.heap[r]?
theorem aq.trans {a b c:Λ}(h:aq a b)(k:aq b c):aq a c:=⟨zag h.1 k.1,λr hr=>(k.2 r (zaI hr h.1)).trans (h.2 r hr)⟩
theorem aq.of (h:Below w.heap.size w w'):aq w w':=⟨h.size,h.block⟩
def Y1 (s:List UInt8)(dp:Nat)(w:Λ)(v:Ξ):Prop:=∃lo K L E d s',ay (aw (s.length+1) s 0) dp 2000 ⟨0,false,[]⟩ ⟨0,0,[]⟩=.ok d s'∧ct lo K L w E d v∧(∀i j,i<K→j<K→E.α i=E.α j→i=j)∧bH d d=true
def FT (s:List UInt8)(dp:Nat)(w:Λ)(v:Ξ)(w':Λ):Prop:=
 aq w w'∧((∃b e at_,v=.tuple #[.agg #[.nilIface,.slice none 0 0,Γ Δ 0],aC b]∧dQ w' b e at_∧cS s dp=some ([],at_,e))∨
  ∃ty y nv bN nodes gw,v=.tuple #[.agg #[.iface ty y,nv,Γ Δ (gw:Nat)],.pointer none]∧b9 w' 0 nv bN nodes∧cS s dp=some (nodes,gw,0)∧Y1 s dp w' (.iface ty y))
def VQ (T:List Tok)(dp:Nat):Prop:=((∃t∈T,t.kind=5)→∀g cap R M,Fx R M g cap T dp)∧((∃t∈T,t.kind=4)→∀g cap R M,Fy R M g cap T dp)
theorem Y2 (T:List Tok)(dp:Nat):VQ T dp:=⟨λ_ _ _ _ _=>aa5,λ_ _ _ _ _=>aa7⟩
theorem UH {T:List Tok}(h:∀t∈T,t.kind≠5∧t.kind≠4):VQ T dp:=⟨λ⟨t,ht,e⟩=>absurd e (h t ht).1,λ⟨t,ht,e⟩=>absurd e (h t ht).2⟩
def mA (s:List UInt8)(dp:Nat):Prop:=(∀d s',ay (aw (s.length+1) s 0) dp 2000 ⟨0,false,[]⟩ ⟨0,0,[]⟩=.ok d s'→bH d d=true∧∃k g,ie d 100000 d ⟨[],[]⟩=some (k,g)∧g.nodes.length≤999999)∧VQ (aw (s.length+1) s 0) dp
abbrev Kw:Obj:= .cells #[.nilIface,.slice none 0 0,Γ Δ 0] 60
theorem len8:(o8 f25).size=11:=by kernel_rfl
theorem Dk {w1:Λ}{b:Nat}{x0 x1 x2:Ξ}(h:w1.heap[b]?=some (.cells #[x0,x1,x2] e)):(w1.frozen? ⟨b,0,none⟩=false∧w1.frozen? ⟨b,1,none⟩=false∧w1.frozen? ⟨b,2,none⟩=false):=by
 refine⟨?_,?_,?_⟩<;>simp[Λ.frozen?,h]
theorem aa.lY {a:Act}{cs:List Φ}{ops:Array Oper}{o:Oper}(ho:ops[i]?=some o)(hw:o.guard=none)(hk:b.kind≠.early){f:υ}{xs:Array ό}{ats:Array φ}(hop:o.op=.call { callee:= .value (.func f),args:=xs,argTypes:=ats })
 (vL:(P.funcs[f]?).any (λfn=>fn.body.isSome)=true)(OG:(P.funcs[f]?).any (λfn=>fn.name != "runtime.NumGoroutine")=true)(hx:xs.all (gD S)=true){args:Array Ξ}(abg:xs.map a.eval=args)
 (h:aa P S Ψ (Φ.enter P f args .normal) (b.at a (.inRegion ops (i::rest)::kk)::cs) w):aa P S Ψ (b.at a (.inRegion ops (i::rest)::kk)) cs w:=by
 subst abg;exact aa.enter ho (by simp[ω,hw]) hk hop vL OG hx h
theorem aa.move' {F:υ→Bool}{a:Act}{cs:List Φ}{ops:Array Oper}{o:Oper}(hC:lp P F S)(ho:ops[i]?=some o)(hw:o.guard=none)(hk:b.kind≠.early){t d:Tmp}(hop:o.op=.move (.tmp t))(hd:o.dst=some d){a':Act}(ha:a.put (some d) (a.eval (.tmp t))=a')
 (h:aa P S Ψ (b.at a' (.inRegion ops rest::kk)) cs w):aa P S Ψ (b.at a (.inRegion ops (i::rest)::kk)) cs w:=by
 subst ha;refine aa.JU hC (by rw[hop];rfl) ho (by simp[ω,hw]) hk λτ dd=>⟨a.eval (.tmp t),w.re τ dd,?_,?_⟩
 ·simp[Ω,hop]
 ·rw[hd];exact h.re rfl
theorem aa.UI {cs:List Φ}{a:Act}{ops:Array Oper}(hlen:s.length≤1000){d:Tmp}(hd:(ops[i]?).bind (·.dst)=some d){a':Ξ→Act}(ha:∀v,a.put (some d) v=a' v)(h:∀v w',Below w.heap.size w w'→w'.ownsRow w.heap.size 131 7 v (aw (s.length+1) s 0).length ((aw (s.length+1) s 0).flatMap iR)→aa prog Sz Ψ (b.at (a' v) (.inRegion ops rest::kk)) cs w'):aa prog Sz Ψ (Φ.enter prog 43 #[.string ⟨⟨s⟩⟩] .normal) (b.at a (.inRegion ops (i::rest)::kk)::cs) w:=
 aa.YI hlen λv w' h1 h2=>by rw[hd,ha];exact h v w' h1 h2
theorem Dm {b:Nat}(h:w.heap[b]?=some (.cells #[y0,y1,y2] e))(x0 x1 x2:Ξ):(((w.setCell ⟨b,0,none⟩ x0).setCell ⟨b,1,none⟩ x1).setCell ⟨b,2,none⟩ x2).heap[b]?=some (.cells #[x0,x1,x2] e):=by
 have h1:=eE h 0 x0;have h2:=eE h1 1 x1;have h3:=eE h2 2 x2;simpa using h3
theorem wR {b c:Nat}(h:c≠b)(x0 x1 x2:Ξ):(((w.setCell ⟨b,0,none⟩ x0).setCell ⟨b,1,none⟩ x1).setCell ⟨b,2,none⟩ x2).heap[c]?=w.heap[c]?:=
 (zax _ _ _ _ h).trans ((zax _ _ _ _ h).trans (zax _ _ _ _ h))
theorem BM (w:Λ)(b:Nat)(x0 x1 x2:Ξ):(((w.setCell ⟨b,0,none⟩ x0).setCell ⟨b,1,none⟩ x1).setCell ⟨b,2,none⟩ x2).heap.size=w.heap.size:=by simp
theorem Qg {w3:Λ}(hb:aq w w3)(_h:w3.heap[w.heap.size]?=some (.cells #[y0,y1,y2] e))(x0 x1 x2:Ξ):aq w (((w3.setCell ⟨w.heap.size,0,none⟩ x0).setCell ⟨w.heap.size,1,none⟩ x1).setCell ⟨w.heap.size,2,none⟩ x2):=
 ⟨by rw[BM];exact hb.1,λr hr=>(wR (by omega) _ _ _).trans (hb.2 r hr)⟩
theorem Qh {w3:Λ}(hb:aq w w3)(h:w3.heap[w.heap.size]?=some (.cells #[y0,y1,y2] e))(x0 x1 x2:Ξ)(o:Obj):aq w ((((w3.setCell ⟨w.heap.size,0,none⟩ x0).setCell ⟨w.heap.size,1,none⟩ x1).setCell ⟨w.heap.size,2,none⟩ x2).alloc o)∧((((w3.setCell ⟨w.heap.size,0,none⟩ x0).setCell ⟨w.heap.size,1,none⟩ x1).setCell ⟨w.heap.size,2,none⟩ x2).alloc o).heap[w.heap.size]?=some (.cells #[x0,x1,x2] e)∧((((w3.setCell ⟨w.heap.size,0,none⟩ x0).setCell ⟨w.heap.size,1,none⟩ x1).setCell ⟨w.heap.size,2,none⟩ x2).alloc o).heap[w3.heap.size]?=some o:=by
 have h1:=Qg hb h x0 x1 x2;have h2:=Dm h x0 x1 x2;have h3:=BM w3 w.heap.size x0 x1 x2;generalize ((w3.setCell ⟨w.heap.size,0,none⟩ x0).setCell ⟨w.heap.size,1,none⟩ x1).setCell ⟨w.heap.size,2,none⟩ x2=w5 at *;refine⟨h1.trans (aq.of ((zad _ _).alloc (zac _) _)),(zaT _ _ _ (zaj.1 h2).1).trans h2,?_⟩;rw[←h3];exact zav w5 o
theorem b9.keep {Fp:Nat}(h:b9 w lo nv bN nodes)(hl:Fp≤lo)(hw:∀(b:Nat) c,w.heap[b]?=some (.cells c 45)∨w.heap[b]?=some (.cells c 3)→w'.heap[b]?=w.heap[b]?):b9 w' Fp nv bN nodes:=by
 refine⟨⟨h.1.1,h.1.2.imp id ?_⟩,h.2.1,λj x sv hx rM=>?_⟩
 ·rintro ⟨b,cp,cur,q1,q2,q3,q4⟩;exact⟨b,cp,cur,q1,by omega,(hw b _ (.inl q3)).trans q3,q4⟩
 ·rcases h.2.2 j x sv hx rM with q|⟨b,q1,q2,q3⟩
  ·exact .inl q
  ·exact .inr ⟨b,q1,by omega,(hw b _ (.inr q3)).trans q3⟩
theorem b9.adO (h:b9 w lo nv bN nodes){b:Nat}(hb:w.heap[b]?=some (.cells #[y0,y1,y2] 60))(x0 x1 x2:Ξ):b9 (((w.setCell ⟨b,0,none⟩ x0).setCell ⟨b,1,none⟩ x1).setCell ⟨b,2,none⟩ x2) 0 nv bN nodes:=
 Ren.b9.keep h (zaq _) λc cc hc=>wR (λe=>by
  rw[e,hb]at hc;rcases hc with hc|hc<;>simp at hc) _ _ _
theorem IW (qz:dp≤30)(h:400<s.length):cS s dp=some ([],0,2):=by
 unfold cS;rw[zaa (by omega),zab h]
theorem vp (qz:dp≤30)(h:¬400<s.length):cS s dp=match ay (aw (s.length+1) s 0) dp 2000 ⟨0,false,[]⟩ ⟨0,0,[]⟩with
 |.out=>none
 |.fail e a=>some ([],a,e)
 |.ok d s'=>(ie d 100000 d ⟨[],[]⟩).map λg=>if 150<g.2.nodes.length then([],0,2)else(g.2.nodes,(((aw (s.length+1) s 0)[s'.k-1]?).map (·.gw)).getD 0,0):=by
 unfold cS;rw[zaa (by omega),zaa h,zbn];cases ay (aw (s.length+1) s 0) dp 2000 ⟨0,false,[]⟩ ⟨0,0,[]⟩<;>rfl
def Y3 (f:Func)(i:Nat):Oper:=(o8 f)[i]!
theorem abh:(o8 f25)[0]?=some (Y3 f25 0):=by kernel_rfl
theorem abi:(o8 f25)[1]?=some (Y3 f25 1):=by kernel_rfl
theorem abj:(Y3 f25 0).op=.move (.tmp 0):=by kernel_rfl
theorem abk:(Y3 f25 1).op=.call { callee:= .value (.func 43),args:=#[.tmp 17],argTypes:=#[9] }:=by kernel_rfl
theorem abl:(Y3 f25 0).guard=none:=by kernel_rfl
theorem abm:(Y3 f25 1).guard=none:=by kernel_rfl
theorem abn:(Y3 f25 0).dst=some 17:=by kernel_rfl
theorem abo:((o8 f25)[1]?).bind (·.dst)=some 18:=by kernel_rfl
theorem adP:([2,3,4,5,6,7,8,9,10].all λi=>((o8 f25)[i]?).all λo=>fo prog Fz Sz o.op)=true:=by kernel_rfl
theorem adQ:(prog.funcs[43]?).any (λfn=>fn.body.isSome)=true:=by kernel_rfl
theorem adR:(prog.funcs[43]?).any (λfn=>fn.name != "runtime.NumGoroutine")=true:=by kernel_rfl
theorem adS:f25.results=#[.cell 4 60,.tmp 5]:=by kernel_rfl
theorem sU {W:Λ}{R:Nat}{x0 x1 x2 fv:Ξ}{tmps:Array Ξ}(h4:tmps.getD 4 Θ=.pointer (some ⟨R,0,none⟩))(h5:tmps.getD 5 Θ=fv)(h:W.heap[R]?=some (.cells #[x0,x1,x2] 60)):(results f25 tmps).run prog W=.ok (.tuple #[.agg #[x0,x1,x2],fv]) W:=by
 rw[results_cell_tmp adS,h4,h5];obtain⟨z0,z1,z2⟩:=fG h;have h1:(loadVar 60 ⟨R,0,none⟩).run prog W=.ok (.agg #[x0,x1,x2]) W:=by
  go_simp
 simp[asAddr,h1]
section
variable {Ψ:dn}{cs:List Φ}{w:Λ}{b:Φ}{a:Act}{ops:Array Oper}{i:Nat}{rest:List Nat}{kk:List Item}
theorem aa.read (qz:dp≤30)(dh:s.length≤400→mA s dp)(h:∀v w',FT s dp w v w'→aa prog Sz Ψ (b.at (a.put ((ops[i]?).bind (·.dst)) v) (.inRegion ops rest::kk)) cs w'):aa prog Sz Ψ (Φ.enter prog 25 #[.string ⟨⟨s⟩⟩,Γ Δ dp] .normal) (b.at a (.inRegion ops (i::rest)::kk)::cs) w:=by
 have HH:Hid _:=h;have SY:Hid _:=dh;clear h dh;rw[Y0];refine aa.seq ?_;refine aa.code dS adN rfl ⟨_,Qf⟩ rfl λτ d=>?_;have hw:(w.re τ d).heap=w.heap:=rfl;generalize w.re τ d=w1 at *;generalize eF:([.code (.seq (c8b f25) (.seq (.region 3 (o8 f25) false) (UG f25)))]:List Item)=kq;dsimp only[c8a,c8,Ren.cj,f25,η];go_wp2_with fail;subst eF;show aa _ _ _ _ _ _;have iB:Hid (aq w (w1.alloc Kw)):=⟨by rw[←hw];simp,λr hr=>by rw[←hw]at hr ⊢;exact zaT _ _ _ hr⟩;have hR2:(w1.alloc Kw).heap[w.heap.size]?=some Kw:=by rw[←hw];exact zav w1 _
 generalize hw2:w1.alloc Kw=w2 at *;clear hw2 hw;refine aa.seq ?_;by_cases cV:400<s.length
 ·refine aa.code dS abe rfl ⟨_,Qf⟩ rfl λτ d=>?_;have hw:(w2.re τ d).heap=w2.heap:=rfl;generalize w2.re τ d=w3 at *;have UJ:w3.heap[w.heap.size]?=some Kw:=by rw[hw];exact hR2
  obtain⟨z0,z1,z2⟩:=fG UJ;obtain⟨f0,f1,f2⟩:=Dk UJ;have e2:w.heap.size<w3.heap.size:=(zaj.1 UJ).1;have e1:¬w.heap.size=w3.heap.size:=by omega
  have HW:Hid _:=hw;have P3:Hid _:=UJ;clear hw UJ hR2;have hlI:(400:Int)<(s.length:Int):=by omega
  generalize eF:([.code (.seq (.region 3 (o8 f25) false) (UG f25))]:List Item)=kq;dsimp only[c8b,c8,Ren.cj,Ren.bM,f25,η];go_wp2_with fail;show ∀todo,aa _ _ _ _ _ _;intro todo;have hb3:aq w w3:=⟨by rw[HW.out];exact iB.out.1,λr hr=>by rw[HW.out];exact iB.out.2 r hr⟩;obtain⟨q1,q2,q3⟩:=Qh hb3 P3.out .nilIface (.slice none 0 0) (Γ Δ 0) (.cells #[Γ Δ 2,Γ Δ 0] 65);refine aa.yD dS rfl rfl Qf (sU rfl rfl q2) ?_;exact HH.out _ _ ⟨q1,.inl ⟨w3.heap.size,2,0,rfl,q3,IW qz cV⟩⟩
 ·refine aa.code dS abe rfl ⟨_,Qf⟩ rfl λτ d=>?_;have hw:(w2.re τ d).heap=w2.heap:=rfl;generalize w2.re τ d=w3 at *;have hlI:¬((400:Int)<(s.length:Int)):=by omega
  generalize eF:([.code (.seq (.region 3 (o8 f25) false) (UG f25))]:List Item)=kq;dsimp only[c8b,c8,Ren.cj,Ren.bM,f25,η];go_wp2_with fail;subst eF;show aa _ _ _ _ _ _;have iT:Hid (aq w w3):=⟨by rw[hw];exact iB.out.1,λr hr=>by rw[hw];exact iB.out.2 r hr⟩;have UJ:w3.heap[w.heap.size]?=some Kw:=by rw[hw];exact hR2
  clear hw iB hR2 hlI;refine aa.seq ?_;refine aa.region ?_;rw[len8,show List.range 11=[0,1,2,3,4,5,6,7,8,9,10] from rfl];refine aa.move' dS abh abl (by decide) abj abn (a':=⟨#[.string ⟨⟨s⟩⟩,Γ Δ dp,Θ,Θ,.pointer (some ⟨w.heap.size,0,none⟩),.pointer none,Θ,Θ,Θ,Θ,.string ⟨⟨s⟩⟩,Γ Δ s.length,.bool false,Θ,Θ,Θ,Θ,.string ⟨⟨s⟩⟩,Θ,Θ,Θ,Θ,Θ,Θ,Θ,Θ,Θ,Θ,Θ,Θ,Θ,Θ,Θ,Θ,Θ,Θ,Θ,Θ,Θ,Θ],[]⟩) (by simp[π,ύ]) ?_;refine aa.lY (f:=43) (xs:=#[.tmp 17]) (ats:=#[9]) (args:=#[.string ⟨⟨s⟩⟩]) abi abm (by decide) abk adQ adR (by simp[gD]) (by simp[π]) ?_;refine aa.UI (by omega) abo (a':=λv=>⟨#[.string ⟨⟨s⟩⟩,Γ Δ dp,Θ,Θ,.pointer (some ⟨w.heap.size,0,none⟩),.pointer none,Θ,Θ,Θ,Θ,.string ⟨⟨s⟩⟩,Γ Δ s.length,.bool false,Θ,Θ,Θ,Θ,.string ⟨⟨s⟩⟩,v,Θ,Θ,Θ,Θ,Θ,Θ,Θ,Θ,Θ,Θ,Θ,Θ,Θ,Θ,Θ,Θ,Θ,Θ,Θ,Θ,Θ],[]⟩) (λv=>by simp[ύ]) λv w4 hb4 hrow=>?_;have hlen:=pO (s.length+1) s 0;obtain⟨YZ,hT⟩:=lF (s.length+1) s 0 (zaq _) (by omega);obtain⟨g,cap,rfl⟩:∃g cap,v=.slice (some ⟨g,0,none⟩) (aw (s.length+1) s 0).length cap:=by
   rcases hrow.2 with⟨_,h0⟩|⟨g,cap,cur,e,_⟩
   ·exact absurd (zcf h0) YZ
   ·exact⟨g,cap,e⟩
  refine aa.ops dS rfl ⟨_,Qf⟩ rfl adP 2 ((o8 f25).toList.drop 2) (by rw[zau,zbL,len8];rfl) (λj=>by rw[zbM,zbz]) λlq d'=>?_;have qJ:Hid (aq w w4):=iT.out.trans ⟨hb4.size,hb4.block⟩;have hR4:w4.heap[w.heap.size]?=some Kw:=(hb4.block _ (zaj.1 UJ).1).trans UJ;have hw:(w4.re lq d').heap=w4.heap:=rfl;have ku:Hid ((w4.re lq d').ownsRow 0 131 7 (.slice (some ⟨g,0,none⟩) (aw (s.length+1) s 0).length cap) (aw (s.length+1) s 0).length ((aw (s.length+1) s 0).flatMap iR)):=bC (w:=w4) hrow (zaq _) λ_ _ _=>rfl;generalize w4.re lq d'=w5 at *;have Y5:=(fuel (aw (s.length+1) s 0) dp hT 2000).datum ⟨0,false,[]⟩ ⟨0,0,[]⟩ (zbT.2 YZ) (by show 2*((aw (s.length+1) s 0).length - 0)+2≤2000;omega);have HC:Hid _:=FR (aw (s.length+1) s 0) dp g cap (λh=>(SY.out (by omega)).2.1 h g cap) (λh=>(SY.out (by omega)).2.2 h g cap) w5 qz hT YZ (by omega) ku.out;have HLO:Hid (w.heap.size<w5.heap.size):=by show _<_;rw[hw];exact(zaj.1 hR4).1
  clear hrow hb4 iT UJ ku hT YZ;have vn:Hid _:=hw;clear hw;generalize eF:([.code (UG f25)]:List Item)=kq;dsimp only[o8,c8c,c8,Ren.bz,Ren.cj,Ren.bM,f25,η];simp only[zbC,zbu];go_wp2_with fail;refine zai HC.out ?_;clear HC;rintro e w6 ⟨nX,gC⟩;have vS:Hid (aq w w6):=qJ.out.trans (aq.trans ⟨by rw[vn.out];exact zac _,λr _=>by rw[vn.out]⟩ (aq.of nX));have hR6:w6.heap[w.heap.size]?=some Kw:=(nX.block _ (by rw[vn.out];exact(zaj.1 hR4).1)).trans (by rw[vn.out];exact hR4);have YN:Hid _:=hR6;clear nX qJ vn hR4;cases eK:ay (aw (s.length+1) s 0) dp 2000 ⟨0,false,[]⟩ ⟨0,0,[]⟩with
  |out=>rw[eK]at Y5;exact Y5.elim
  |fail er at_=>
   rw[eK]at gC;obtain⟨fb,rfl,Qi⟩:=gC;have HF:Hid _:=Qi;have SZ:Hid (cS s dp=some ([],at_,er)):=by show _=_;rw[vp qz cV,eK]
   clear Qi Y5 eK hR6;unfold aC;go_wp2_with fail;subst eF;show aa _ _ _ _ _ _;refine aa.code dS abf rfl ⟨_,Qf⟩ rfl λτ d=>?_;have hw:(w6.re τ d).heap=w6.heap:=rfl;generalize w6.re τ d=w7 at *;have Y6:w7.heap[w.heap.size]?=some Kw:=by rw[hw];exact YN.out
   obtain⟨z0,z1,z2⟩:=fG Y6;obtain⟨f0,f1,f2⟩:=Dk Y6;have HW:Hid _:=hw;have Us:Hid _:=Y6;clear hw Y6;dsimp only[UG,c8c,c8,Ren.cj,Ren.bM,f25,η];go_wp2_with fail;show ∀todo,aa _ _ _ _ _ _;intro todo;have DT:aq w w7:=⟨by rw[HW.out];exact vS.out.1,λr hr=>by rw[HW.out];exact vS.out.2 r hr⟩;have q1:=Qg DT Us.out .nilIface (.slice none 0 0) (Γ Δ 0);have q2:=Dm Us.out .nilIface (.slice none 0 0) (Γ Δ 0);have q3:dQ (((w7.setCell ⟨w.heap.size,0,none⟩ .nilIface).setCell ⟨w.heap.size,1,none⟩ (.slice none 0 0)).setCell ⟨w.heap.size,2,none⟩ (Γ Δ 0)) fb er at_:=by
    have hf:w6.heap[fb]?=_:=HF.out;refine(wR (λe=>?_) _ _ _).trans (by rw[HW.out];exact hf);rw[e,YN.out]at hf;simp at hf
   refine aa.yD dS rfl rfl Qf (sU rfl rfl q2) ?_;exact HH.out _ _ ⟨q1,.inl ⟨fb,er,at_,rfl,q3,SZ.out⟩⟩
  |ok d0 s'=>
   rw[eK]at gC;obtain⟨v,E',t,ht,rfl,⟨ty,y,rfl⟩,cK,yK,-⟩:=gC;obtain⟨hgd,k0,g0,cO,SH⟩:=(SY.out (by omega)).1 d0 s' eK;have SZ:Hid (cS s dp=if 150<g0.nodes.length then some ([],0,2)else some (g0.nodes,t.gw,0)):=by
    show _=_;rw[vp qz cV,eK];simp only[cO,zbp,ht,zbg];split<;>rfl
   have HD:Hid _:=cK;have HI:Hid _:=yK;have HGB:Hid _:=hgd;have HNM:Hid _:=cO;have NL:Hid _:=eK;have afx:w.heap.size<w5.heap.size:=HLO.out;clear cK yK hgd cO Y5 eK hR6 ht HLO;go_wp2_with fail;subst eF;show aa _ _ _ _ _ _;refine aa.code dS abf rfl ⟨_,Qf⟩ rfl λτ d=>?_;have hw:(w6.re τ d).heap=w6.heap:=rfl;generalize w6.re τ d=w7 at *;have HD7:Hid (ct w5.heap.size s'.fresh s'.ak w7 E' d0 (.iface ty y)):=ct.keep (w:=w6) (w':=w7) (zac _) (zac _) (λ_ h=>h) (λb _ _=>by rw[hw]) ⟨λ_ _=>rfl,λ_ _=>rfl⟩ d0 _ HD.out;have HGC:Hid _:=FQ w7 d0 (.iface ty y) (ct.keep (w:=w6) (w':=w7) (zac _) (zac _) (λ_ h=>h) (λb _ _=>by rw[hw]) ⟨λ_ _=>rfl,λ_ _=>rfl⟩ d0 _ HD.out) HGB.out HI.out 100000 k0 g0 HNM.out SH;have yQ:Hid (aq w w7):=⟨by rw[hw];exact vS.out.1,λr hr=>by rw[hw];exact vS.out.2 r hr⟩;have Us:Hid (w7.heap[w.heap.size]?=some Kw):=by show _=_;rw[hw];exact YN.out
   clear hw HD HNM vS YN;dsimp only[UG,c8c,c8,Ren.cj,Ren.bM,f25,η];go_wp2_with fail;refine zai HGC.out ?_;clear HGC;rintro e w8 ⟨nv,bN,rfl,uC,hb8⟩;obtain⟨na,nc,rfl⟩:=bD uC.1;have hR8:w8.heap[w.heap.size]?=some Kw:=(hb8.block _ (zaj.1 Us.out).1).trans Us.out;have S0:Hid (aq w w8):=yQ.out.trans (aq.of hb8);have HN8:Hid _:=uC;have HD8:Hid (ct w5.heap.size s'.fresh s'.ak w8 E' d0 (.iface ty y)):=ct.keep (w:=w7) (w':=w8) (zac _) (zac _) (λ_ h=>h) (λb _ h=>hb8.block b h) ⟨λ_ _=>rfl,λ_ _=>rfl⟩ d0 _ HD7.out;have HR8:Hid _:=hR8;obtain⟨z0,z1,z2⟩:=fG hR8;obtain⟨f0,f1,f2⟩:=Dk hR8;have e2:w.heap.size<w8.heap.size:=(zaj.1 hR8).1;have e1:¬w.heap.size=w8.heap.size:=by omega
   clear hb8 uC hR8 yQ Us;by_cases Xp:150<g0.nodes.length
   ·have hmI:(150:Int)<(g0.nodes.length:Int):=by omega
    go_wp2_with fail;show ∀todo,aa _ _ _ _ _ _;intro todo;obtain⟨q1,q2,q3⟩:=Qh S0.out HR8.out .nilIface (.slice none 0 0) (Γ Δ 0) (.cells #[Γ Δ 2,Γ Δ 0] 65);refine aa.yD dS rfl rfl Qf (sU rfl rfl q2) ?_;exact HH.out _ _ ⟨q1,.inl ⟨w8.heap.size,2,0,rfl,q3,by rw[SZ.out,zab Xp]⟩⟩
   ·have hmI:¬((150:Int)<(g0.nodes.length:Int)):=by omega
    go_wp2_with fail;show ∀todo,aa _ _ _ _ _ _;intro todo;have q1:=Qg S0.out HR8.out (.iface ty y) (.slice na g0.nodes.length nc) (Γ Δ t.gw);have q2:=Dm HR8.out (.iface ty y) (.slice na g0.nodes.length nc) (Γ Δ t.gw);have q3:=b9.adO HN8.out HR8.out (.iface ty y) (.slice na g0.nodes.length nc) (Γ Δ t.gw);refine aa.yD dS rfl rfl Qf (sU rfl rfl q2) ?_;exact HH.out _ _ ⟨q1,.inr ⟨ty,y,.slice na g0.nodes.length nc,bN,g0.nodes,t.gw,rfl,q3,by rw[SZ.out,zaa Xp],_,_,_,_,_,_,NL.out,ct.keep (w:=w8) (zac _) (zac _) (λ_ h=>h) (λb h _=>wR (by omega) _ _ _) ⟨λ_ _=>rfl,λ_ _=>rfl⟩ d0 _ HD8.out,HI.out,HGB.out⟩⟩
end
def c5 (f:Func):Code:=f.body.getD .skip
def c5a (f:Func):Code:=Ren.cj (c5 f)
def c5b (f:Func):Code:=Ren.cj (Ren.bM (c5 f))
def c5c (f:Func):Code:=Ren.bM (Ren.bM (c5 f))
def o5 (f:Func):Array Oper:=Ren.bz (Ren.cj (c5c f))
def S1 (f:Func):Code:=Ren.bM (c5c f)
theorem S2:prog.funcs[18]?=some f18:=by kernel_rfl
theorem abp:f18.body=some (.seq (c5a f18) (.seq (c5b f18) (.seq (.region 3 (o5 f18) false) (S1 f18)))):=by kernel_rfl
theorem nt5:f18.ntmps=35:=by kernel_rfl
theorem t35 (x y:Ξ):(#[x,y]++θ (35-#[x,y].size) Θ:Array Ξ)=#[x,y,Θ,Θ,Θ,Θ,Θ,Θ,Θ,Θ,Θ,Θ,Θ,Θ,Θ,Θ,Θ,Θ,Θ,Θ,Θ,Θ,Θ,Θ,Θ,Θ,Θ,Θ,Θ,Θ,Θ,Θ,Θ,Θ,Θ]:=by
 generalize Θ=u;simp[θ,List.replicate]
theorem Y7 (x y:Ξ):Φ.enter prog 18 #[x,y] .normal=(base 18).at ⟨#[x,y,Θ,Θ,Θ,Θ,Θ,Θ,Θ,Θ,Θ,Θ,Θ,Θ,Θ,Θ,Θ,Θ,Θ,Θ,Θ,Θ,Θ,Θ,Θ,Θ,Θ,Θ,Θ,Θ,Θ,Θ,Θ,Θ,Θ],[]⟩ [.code (.seq (c5a f18) (.seq (c5b f18) (.seq (.region 3 (o5 f18) false) (S1 f18))))]:=by
 rw[enter_at _ S2 abp,nt5,t35]
theorem adT:bB prog Fz Sz (c5a f18)=true:=by kernel_rfl
theorem abq:bB prog Fz Sz (c5b f18)=true:=by kernel_rfl
theorem abr:bB prog Fz Sz (S1 f18)=true:=by kernel_rfl
theorem abt:(o5 f18).size=9:=by kernel_rfl
def Qj (f:Func)(i:Nat):Oper:=(o5 f)[i]!
theorem abu:(o5 f18)[0]?=some (Qj f18 0):=by kernel_rfl
theorem abv:(o5 f18)[1]?=some (Qj f18 1):=by kernel_rfl
theorem abw:(o5 f18)[2]?=some (Qj f18 2):=by kernel_rfl
theorem abx:(Qj f18 0).op=.move (.tmp 0):=by kernel_rfl
theorem aby:(Qj f18 1).op=.move (.tmp 1):=by kernel_rfl
theorem abz:(Qj f18 2).op=.call { callee:= .value (.func 25),args:=#[.tmp 16,.tmp 17],argTypes:=#[9,3] }:=by kernel_rfl
theorem abA:(Qj f18 0).guard=none:=by kernel_rfl
theorem abB:(Qj f18 1).guard=none:=by kernel_rfl
theorem abC:(Qj f18 2).guard=none:=by kernel_rfl
theorem abD:(Qj f18 0).dst=some 16:=by kernel_rfl
theorem abE:(Qj f18 1).dst=some 17:=by kernel_rfl
theorem abF:((o5 f18)[2]?).bind (·.dst)=some 18:=by kernel_rfl
theorem adU:([3,4,5,6,7,8].all λi=>((o5 f18)[i]?).all λo=>fo prog Fz Sz o.op)=true:=by kernel_rfl
theorem bd8:(prog.funcs[25]?).any (λfn=>fn.body.isSome)=true:=by kernel_rfl
theorem nm8:(prog.funcs[25]?).any (λfn=>fn.name != "runtime.NumGoroutine")=true:=by kernel_rfl
theorem Y8:f18.results=#[.tmp 4,.tmp 5,.tmp 6]:=by kernel_rfl
def sV (s:List UInt8)(dep:Int)(w:Λ)(v:Ξ)(w':Λ):Prop:=
 aq w w'∧∃nodes at_ e nv bN,cS s dep=some (nodes,at_,e)∧v=.tuple #[nv,Γ Δ (at_:Nat),Γ Δ e]∧b9 w' 0 nv bN nodes
theorem aa.abG {cs:List Φ}{a:Act}{ops:Array Oper}(qz:dp≤30)(dh:s.length≤400→mA s dp){d:Tmp}(hd:(ops[i]?).bind (·.dst)=some d){a':Ξ→Act}(ha:∀v,a.put (some d) v=a' v)(h:∀v w',FT s dp w v w'→aa prog Sz Ψ (b.at (a' v) (.inRegion ops rest::kk)) cs w'):aa prog Sz Ψ (Φ.enter prog 25 #[.string ⟨⟨s⟩⟩,Γ Δ dp] .normal) (b.at a (.inRegion ops (i::rest)::kk)::cs) w:=
 aa.read qz dh λv w' h1=>by rw[hd,ha];exact h v w' h1
theorem b9.nil (w:Λ):b9 w 0 (.slice none 0 0) [] []:=⟨zck _ _ _ _,rfl,λj x sv h=>by simp at h⟩
theorem aq.heap {w'':Λ}(h:aq w w')(e:w''.heap=w'.heap):aq w w'':=⟨by rw[e];exact h.1,λr hr=>by rw[e];exact h.2 r hr⟩
theorem b9.heap (h:b9 w lo nv bN nodes)(e:w'.heap=w.heap):b9 w' lo nv bN nodes:=Ren.b9.keep h (zac _) λb c _=>by rw[e]
def qL (P:ψ)(S:Sd)(Ψ:dn)(cs:List Φ)(v:Ξ)(w:Λ):Prop:=∀(b0:Φ) (a0:Act) (fn:Func) (todo:List Item),b0.kind=.normal→a0.defers=[]→P.funcs[b0.fn]?=some fn→(results fn a0.tmps).run P w=.ok v w→aa P S Ψ (gA b0 a0 todo) cs w
theorem qL.of {F:υ→Bool}{cs:List Φ}{a:Act}{ops:Array Oper}(hC:lp P F S)(h:aa P S Ψ (b.at (a.put ((ops[i]?).bind (·.dst)) v) (.inRegion ops rest::kk)) cs w):qL P S Ψ (b.at a (.inRegion ops (i::rest)::kk)::cs) v w:=λ_ _ _ _ hn hd hf hr=>aa.yD hC hn hd hf hr h
theorem aa.yR {cs:List Φ}{a:Act}{fn:Func}{todo:List Item}(hn:b.kind=.normal)(hd:a.defers=[])(hf:P.funcs[b.fn]?=some fn)(hr:(results fn a.tmps).run P w=.ok v w)(h:qL P S Ψ cs v w):aa P S Ψ (gA b a todo) cs w:=h b a fn todo hn hd hf hr
section
variable {Ψ:dn}{cs:List Φ}{w:Λ}{b:Φ}{a:Act}{ops:Array Oper}{i:Nat}{rest:List Nat}{kk:List Item}
theorem aa.adV {dep:Int}(dh:∀dp:Nat,dep=dp→dp≤30→s.length≤400→mA s dp)(h:∀v w',sV s dep w v w'→qL prog Sz Ψ cs v w'):aa prog Sz Ψ (Φ.enter prog 18 #[.string ⟨⟨s⟩⟩,Γ Δ dep] .normal) cs w:=by
 have mixed:prog.follows Departure.mixedOrders=true:=by kernel_rfl
 have HH:Hid _:=h;have SY:Hid _:=dh;clear h dh;rw[Y7];refine aa.seq ?_;refine aa.code dS adT rfl ⟨_,S2⟩ rfl λτ d=>?_;have jb:Hid (aq w (w.re τ d)):=⟨zac _,λ_ _=>rfl⟩;generalize w.re τ d=w1 at *;generalize eF:([.code (.seq (c5b f18) (.seq (.region 3 (o5 f18) false) (S1 f18)))]:List Item)=kq;dsimp only[c5a,c5,Ren.cj,f18,η];go_wp2_with fail;subst eF;show aa _ _ _ _ _ _;refine aa.seq ?_;by_cases AU:dep<0∨30<dep
 ·refine aa.code dS abq rfl ⟨_,S2⟩ rfl λτ d=>?_;have iB:Hid (aq w (w1.re τ d)):=aq.heap jb.out rfl;generalize w1.re τ d=w2 at *;generalize eF:([.code (.seq (.region 3 (o5 f18) false) (S1 f18))]:List Item)=kq;dsimp only[c5b,c5,Ren.cj,Ren.bM,f18,η];have SZ:Hid (cS s dep=some ([],0,1)):=by show _=_;unfold cS;rw[zab AU]
  have fin:∀(tm:Array Ξ) (todo:List Item),tm.getD 4 Θ=.slice none 0 0→tm.getD 5 Θ=Γ Δ 0→tm.getD 6 Θ=Γ Δ 1→aa prog Sz Ψ (gA (base 18) ⟨tm,[]⟩ todo) cs w2:=λtm todo h4 h5 h6=>by
   refine aa.yR rfl rfl S2 ((results_tmp3 Y8 _ _ _).trans (by rw[h4,h5,h6])) ?_;exact HH.out _ _ ⟨iB.out,[],0,1,_,[],SZ.out,rfl,Ren.b9.nil _⟩
  have Uz:Hid _:=fin;clear fin;by_cases adW:dep<0
  ·go_wp2_with fail;show ∀todo,aa _ _ _ _ _ _;exact λtodo=>Uz.out _ todo rfl rfl rfl
  ·have h30:30<dep:=AU.resolve_left adW;go_wp2_with fail;show ∀todo,aa _ _ _ _ _ _;exact λtodo=>Uz.out _ todo rfl rfl rfl
 ·obtain⟨dp,rfl⟩:∃dp:Nat,dep=dp:=⟨dep.toNat,by omega⟩;have qz:dp≤30:=by omega
  refine aa.code dS abq rfl ⟨_,S2⟩ rfl λτ d=>?_;have iB:Hid (aq w (w1.re τ d)):=aq.heap jb.out rfl;generalize w1.re τ d=w2 at *;generalize eF:([.code (.seq (.region 3 (o5 f18) false) (S1 f18))]:List Item)=kq;dsimp only[c5b,c5,Ren.cj,Ren.bM,f18,η];have hn:¬((dp:Int)<0):=by omega
  have wJ:¬((30:Int)<(dp:Int)):=by omega
  go_wp2_with fail;subst eF;show aa _ _ _ _ _ _;clear jb hn wJ AU;refine aa.seq ?_;refine aa.region ?_;rw[abt,show List.range 9=[0,1,2,3,4,5,6,7,8] from rfl];refine aa.move' dS abu abA (by decide) abx abD (a':=⟨#[.string ⟨⟨s⟩⟩,Γ Δ dp,Θ,Θ,.slice none 0 0,Γ Δ 0,Γ Δ 0,Θ,Θ,Γ Δ dp,.bool false,.bool false,Γ Δ dp,.bool false,.bool false,Θ,.string ⟨⟨s⟩⟩,Θ,Θ,Θ,Θ,Θ,Θ,Θ,Θ,Θ,Θ,Θ,Θ,Θ,Θ,Θ,Θ,Θ,Θ],[]⟩) (by simp[π,ύ]) ?_;refine aa.move' dS abv abB (by decide) aby abE (a':=⟨#[.string ⟨⟨s⟩⟩,Γ Δ dp,Θ,Θ,.slice none 0 0,Γ Δ 0,Γ Δ 0,Θ,Θ,Γ Δ dp,.bool false,.bool false,Γ Δ dp,.bool false,.bool false,Θ,.string ⟨⟨s⟩⟩,Γ Δ dp,Θ,Θ,Θ,Θ,Θ,Θ,Θ,Θ,Θ,Θ,Θ,Θ,Θ,Θ,Θ,Θ,Θ],[]⟩) (by simp[π,ύ]) ?_;refine aa.lY (f:=25) (xs:=#[.tmp 16,.tmp 17]) (ats:=#[9,3]) (args:=#[.string ⟨⟨s⟩⟩,Γ Δ dp]) abw abC (by decide) abz bd8 nm8 (by simp[gD]) (by simp[π]) ?_;refine aa.abG qz (SY.out dp rfl qz) abF (a':=λv=>⟨#[.string ⟨⟨s⟩⟩,Γ Δ dp,Θ,Θ,.slice none 0 0,Γ Δ 0,Γ Δ 0,Θ,Θ,Γ Δ dp,.bool false,.bool false,Γ Δ dp,.bool false,.bool false,Θ,.string ⟨⟨s⟩⟩,Γ Δ dp,v,Θ,Θ,Θ,Θ,Θ,Θ,Θ,Θ,Θ,Θ,Θ,Θ,Θ,Θ,Θ,Θ],[]⟩) (λv=>by simp[ύ]) λv w4 gC=>?_;clear SY;refine aa.ops dS rfl ⟨_,S2⟩ rfl adU 3 ((o5 f18).toList.drop 3) (by rw[zau,zbL,abt];rfl) (λj=>by rw[zbM,zbz]) λlq d'=>?_;have hw:(w4.re lq d').heap=w4.heap:=rfl;generalize w4.re lq d'=w5 at *;have rN:Hid (aq w w5):=aq.heap (iB.out.trans gC.1) hw;have vn:Hid _:=hw;clear hw iB;obtain⟨-,⟨fb,e,at_,rfl,hf,hrn⟩|⟨ty,y,nv,bN,nodes,gw,rfl,uC,hrn,-⟩⟩:=gC
  ·have HF:Hid (dQ w5 fb e at_):=by show w5.heap[fb]?=_;rw[vn.out];exact hf
   have SZ:Hid _:=hrn;clear hf hrn vn;generalize eF:([.code (S1 f18)]:List Item)=kq;dsimp only[o5,c5c,c5,Ren.bz,Ren.cj,Ren.bM,f18,η];simp only[zbC,zbu];unfold aC;go_wp2_with fail;subst eF;show aa _ _ _ _ _ _;have vS:Hid (aq w (w5.alloc Kw)):=rN.out.trans (aq.of ((zad _ _).alloc (zac _) _));have HF6:Hid (dQ (w5.alloc Kw) fb e at_):=dQ.alloc HF.out _;generalize w5.alloc Kw=w6 at *;refine aa.code dS abr rfl ⟨_,S2⟩ rfl λτ d=>?_;have yQ:Hid (aq w (w6.re τ d)):=aq.heap vS.out rfl;have HF7:Hid (dQ (w6.re τ d) fb e at_):=HF6.out;generalize w6.re τ d=w7 at *;obtain⟨y0,y1⟩:w7.cell? ⟨fb,0,none⟩=some (Γ Δ e)∧w7.cell? ⟨fb,1,none⟩=some (Γ Δ at_):=by
    have hf:w7.heap[fb]?=_:=HF7.out;constructor<;>simp[Λ.cell?,hf]
   clear vS HF6 HF rN;dsimp only[S1,c5c,c5,Ren.cj,Ren.bM,f18,η];go_wp2_with fail;go_region;go_wp2_with fail;show ∀todo,aa _ _ _ _ _ _;intro todo;refine aa.yR rfl rfl S2 (results_tmp3 Y8 _ _ _) ?_;exact HH.out _ _ ⟨aq.heap yQ.out rfl,[],at_,e,_,[],SZ.out,rfl,Ren.b9.nil _⟩
  ·have HN:Hid (b9 w5 0 nv bN nodes):=Ren.b9.heap uC vn.out;have SZ:Hid _:=hrn;clear uC hrn vn;generalize eF:([.code (S1 f18)]:List Item)=kq;dsimp only[o5,c5c,c5,Ren.bz,Ren.cj,Ren.bM,f18,η];simp only[zbC,zbu];obtain⟨na,nc,rfl⟩:=bD HN.out.1;go_wp2_with fail;subst eF;show aa _ _ _ _ _ _;have vS:Hid (aq w (w5.alloc (.cells #[.iface ty y,.slice na nodes.length nc,Γ Δ gw] 60))):=rN.out.trans (aq.of ((zad _ _).alloc (zac _) _));have HN6:Hid (b9 (w5.alloc (.cells #[.iface ty y,.slice na nodes.length nc,Γ Δ gw] 60)) 0 (.slice na nodes.length nc) bN nodes):=Ren.b9.keep HN.out (zac _) λb c hb=>zaT _ _ _ (hb.elim (λq=>(zaj.1 q).1) λq=>(zaj.1 q).1);have hR6:(w5.alloc (.cells #[.iface ty y,.slice na nodes.length nc,Γ Δ gw] 60)).heap[w5.heap.size]?=some (.cells #[.iface ty y,.slice na nodes.length nc,Γ Δ gw] 60):=zav w5 _;generalize w5.alloc (.cells #[.iface ty y,.slice na nodes.length nc,Γ Δ gw] 60)=w6 at *;refine aa.code dS abr rfl ⟨_,S2⟩ rfl λτ d=>?_;have yQ:Hid (aq w (w6.re τ d)):=aq.heap vS.out rfl;have HN7:Hid (b9 (w6.re τ d) 0 (.slice na nodes.length nc) bN nodes):=Ren.b9.heap HN6.out rfl;have Y6:(w6.re τ d).heap[w5.heap.size]?=some (.cells #[.iface ty y,.slice na nodes.length nc,Γ Δ gw] 60):=hR6;generalize w6.re τ d=w7 at *;obtain⟨z0,z1,z2⟩:=fG Y6;clear vS HN6 HN rN hR6 Y6;dsimp only[S1,c5c,c5,Ren.cj,Ren.bM,f18,η];go_wp2_with fail;go_region;go_wp2_with fail;show ∀todo,aa _ _ _ _ _ _;intro todo;refine aa.yR rfl rfl S2 (results_tmp3 Y8 _ _ _) ?_;exact HH.out _ _ ⟨aq.heap yQ.out rfl,nodes,gw,0,_,bN,SZ.out,rfl,Ren.b9.heap HN7.out rfl⟩
theorem aa.top {dep:Int}(dh:∀dp:Nat,dep=dp→dp≤30→s.length≤400→mA s dp)(h:∀v w',sV s dep w v w'→aa prog Sz Ψ (b.at (a.put ((ops[i]?).bind (·.dst)) v) (.inRegion ops rest::kk)) cs w'):aa prog Sz Ψ (Φ.enter prog 18 #[.string ⟨⟨s⟩⟩,Γ Δ dep] .normal) (b.at a (.inRegion ops (i::rest)::kk)::cs) w:=
 aa.adV dh λv w' hp=>qL.of dS (h v w' hp)
end
end Go.Ren
