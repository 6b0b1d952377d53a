import Derived.Conc.DeferLaws
import GoSem.Extern.Table
import Derived.KernelRfl
import Derived.Test.YtlhimdjkkiflhaaGreatDoorMade03
set_option maxHeartbeats 8000000
set_option maxRecDepth 100000
set_option linter.unusedSectionVars false
open Go renaming World→Γ,Goroutine→Δ,Value→Θ,Program→Λ,Frame→Ξ,execOp→Ω,TypeId→ζ,FuncId→η,TypeInfo→θ,Trace→ξ,stepG→υ,yielded→φ,Operand→χ,undef→ψ
open Go.Region renaming wanted→Φ
open Go.Instr renaming loadAt→ι
open Go.Conc renaming Leavers→π,crowd→ω
open Go.Extern.BytealgIndexByte renaming indexByte→ϊ
open Go.Act renaming put→ϋ
namespace Go.Ren
open Go Go.Conc
open Go.ConcX (Payload Shy stA smA Base CA JInv RCa RCd DCs AtR0 RPa DPi AtKd PA KK WgAt ChanAt Full Aside2 runTX JT AtW1)
variable {St:Δ→Γ→Prop}{todo:List Item}{r n n0:Nat}{v X:Θ}{e:ζ}{x:χ}{ad:Addr}{t:ξ}{gs:Array Δ}{q:Nat→Nat}{w':Γ}{r0:Rn}{c:Code}{fr:Act→Ξ}{f:η}{xs:Array χ}{ats:Array ζ}
def okR (Wg C Low:Nat)(act:MemAct):Prop:=(∀t,act.touch? =some t→∃a,t.loc=.cell a∧(a.block=Wg∨a.block=C))∧act.low Low
@[reducible] def ml (Wg C Low:Nat) (St:Δ→Γ→Prop) (hW:Wg<Low) (hC:C<Low):Shy Wg C where
  ok:=okR Wg C Low
  atomicWg a wr h:=⟨λx hx=>by simp only[MemAct.touch?,zaE]at hx;subst hx;exact⟨a,rfl,.inl h⟩,by show a.block<Low;omega⟩
  readWg a h:=⟨λx hx=>by simp only[MemAct.touch?,zaE]at hx;subst hx;exact⟨a,rfl,.inl h⟩,by show a.block<Low;omega⟩
  writeWg a h:=⟨λx hx=>by simp only[MemAct.touch?,zaE]at hx;subst hx;exact⟨a,rfl,.inl h⟩,by show a.block<Low;omega⟩
  theirs a wr h:=⟨λx hx=>by simp only[MemAct.touch?,zaE]at hx;subst hx;exact⟨a,rfl,.inr h⟩,by show a.block<Low;omega⟩
  disable:=⟨λx hx=>(by cases hx),trivial⟩
  enable:=⟨λx hx=>(by cases hx),trivial⟩
  relMerge:=⟨λx hx=>(by cases hx),hW⟩
  acquire:=⟨λx hx=>(by cases hx),hW⟩
  go1:=⟨λx hx=>(by cases hx),trivial⟩
  start:=⟨λx hx=>(by cases hx),trivial⟩
  stop:=St
structure uh (Wg Low:Nat) where
 pl:Payload
 C:Nat
 vals:List Θ
 hC:C<Low
 hCW:C≠Wg
 hW:Wg<Low
def kQ:Loc→Prop:=λ_=>False
def uh.side {Wg Low:Nat}(k:uh Wg Low)(St:Δ→Γ→Prop)(A:Δ→Γ→Prop):Side Wg:=⟨k.pl,k.C,ml Wg k.C Low St k.hW k.hC,k.vals,kQ,A,λ_ _=>True⟩
def nV:Δ→Γ→Prop:=λ_ _=>False
section
variable {P:Λ}{ty:ζ}{Wg Low:Nat}(k:uh Wg Low)
theorem xW {A St' A':Δ→Γ→Prop}{μ:Nat×Nat}{b:Δ}{w:Γ}{s:ξ}(h:(k.side St A).half P ty Low μ b w s):(k.side St' A').half P ty Low μ b w s:=by
 change @Half k.pl P ty Wg k.C Low (ml Wg k.C Low St' k.hW k.hC) k.vals kQ μ b w s;replace h:@Half k.pl P ty Wg k.C Low (ml Wg k.C Low St k.hW k.hC) k.vals kQ μ b w s:=h;rcases h with⟨p,d1,rc,mc,rel,cl,sent,vs,e,hs,⟨b1,b2,⟨j1,j2,j3,j4,j5,j6,j7⟩,b4,b5,b6,b7⟩,hc⟩|⟨p,d1,q,e,⟨b1,b2,⟨j1,j2,j3,j4,j5,j6,j7⟩,b4,b5,b6,b7⟩,hq⟩
 ·letI:=k.pl
  letI:=ml Wg k.C Low St' k.hW k.hC
  refine .inl ⟨p,d1,rc,mc,rel,cl,sent,vs,e,hs,⟨b1,b2,⟨j1,j2,j3,j4,j5,j6,j7⟩,b4,b5,b6,b7⟩,?_⟩;cases hc with
  |r0 h=>exact .r0 h
  |k1 h=>exact .k1 h
  |d1 h=>exact .d1 h
 ·letI:=k.pl
  letI:=ml Wg k.C Low St' k.hW k.hC
  exact .inr ⟨p,d1,q,e,⟨b1,b2,⟨j1,j2,j3,j4,j5,j6,j7⟩,b4,b5,b6,b7⟩,hq⟩
theorem J7:fy P ty Wg Low (k.side St nV):=⟨k.hC,k.hCW,λ_ _ h=>h.elim,λ_ _ h=>h.elim,λ_ h=>h⟩
def uh.fin (k:uh Wg Low)(P:Λ)(ty:ζ)(b:Δ)(w:Γ):Prop:=
 letI:=k.pl;letI:=ml Wg k.C Low nV k.hW k.hC;∃n,Goes P false (RCa ty Wg Low) (DCs kQ Wg k.C) (AtR0 P ty Wg k.C Low k.vals) n b w
def uh.wait (k:uh Wg Low)(P:Λ)(ty:ζ)(St A:Δ→Γ→Prop)(a:Δ)(w:Γ):Prop:=
 letI:=k.pl;letI:=ml Wg k.C Low St k.hW k.hC;fy P ty Wg Low (k.side St A)∧∃m,Goes P true (RPa ty Wg k.C k.vals) (DPi kQ Wg k.C Low) (AtKd P ty Wg k.C Low k.vals kQ A) m a w
end
section
variable {P:Λ}{ty:ζ}{Q Shun:Loc→Prop}{c ch Wg Low:Nat}{ro:Nat→Prop}{z:Θ}{x y:uh Wg Low}{After:(Nat→Prop)→Γ→Δ→Γ→Prop}
def uh.kpa {Wg Low:Nat}(k:uh Wg Low)(ty:ζ)(w:Γ):Prop:=letI:=k.pl;letI:=ml Wg k.C Low nV k.hW k.hC;Go.ConcX.KPa ty Wg k.C k.vals w
theorem EM {k:uh Wg Low}{A:Δ→Γ→Prop}{μ:Nat×Nat}{b:Δ}{w:Γ}{s:ξ}(h:(k.side St A).half P ty Low μ b w s):k.kpa ty w:=by
 replace h:@Half k.pl P ty Wg k.C Low (ml Wg k.C Low St k.hW k.hC) k.vals kQ μ b w s:=h;rcases h with⟨p,d1,rc,mc,rel,cl,sent,vs,e,hs,⟨b1,b2,b3,b4,b5,b6,b7⟩,hc⟩|⟨p,d1,q,e,⟨b1,b2,b3,b4,b5,b6,b7⟩,hq⟩
 ·exact .inl b1
 ·exact .inr ⟨b1,b2⟩
def OZ (P:Λ)(ty:ζ){Wg Low:Nat}(x y:uh Wg Low)(After:(Nat→Prop)→Γ→Δ→Γ→Prop)(own:Nat→Prop)(a:Δ)(w:Γ):Prop:=
 x.kpa ty w→y.kpa ty w→∃St Ax Ay,x.wait P ty St Ax a w∧y.wait P ty St Ay a w∧∀a' w',St a' w'→w.heap.size≤w'.heap.size∧After own w a' w'
def LO (P:Λ)(ty:ζ){Wg Low:Nat}(x y:uh Wg Low)(_own:Nat→Prop)(b:Δ)(w:Γ):Prop:=WgAt ty Wg w KK 0→x.fin P ty b w∧y.fin P ty b w
def Joined (P:Λ)(Shun:Loc→Prop)(c ch Wg Low:Nat)(After:(Nat→Prop)→Γ→Δ→Γ→Prop)(w0:Γ)(m:Machine)(t:ξ):Prop:=
 ∃gs w' w sl q a own,m=ω gs w sl∧gs.size=c+1∧gs[0]?=some a∧a.status=.running∧After own w' a w∧w'.heap.size≤w.heap.size∧π P t gs q∧Past Shun w.heap.size t∧
  (∀b,own b→Low≤b∧b<w'.heap.size)∧Low≤w'.heap.size∧(∀b,b<Low→b≠ch→b≠Wg→w'.heap[b]?=w0.heap[b]?)∧w'.tape=w0.tape∧w'.os=w0.os∧w'.output=w0.output
theorem LP (hY:EH Q Shun c ch Wg Low ro (λb=>b=ch∨b=Wg))(Br:x.C≠y.C)(hxS:∀a:Addr,a.block=x.C→¬Shun (.cell a))(hyS:∀a:Addr,a.block=y.C→¬Shun (.cell a))
 {vs:List Θ}{gs:Array Δ}{w0:Γ}{sl:Option (Nat×Nat)}{t:ξ}{q:Nat→Nat}{bG aW:Nat→Prop}{a b:Δ}(hC:eM P c t gs q)(h0:gs[0]?=some a)(hc:gs[c]?=some b)
 (hM:lR P ro ch z (OZ P ty x y After) vs bG a w0)(hG:jU P ro ch (LO P ty x y) vs aW b w0)(eW:lu Q Shun c ch Low ro bG aW (λb=>b=ch) false w0 w0 t)(hw:WgAt ty Wg w0 KK 0):
 Reach P (ω gs w0 sl) t (Joined P Shun c ch Wg Low After w0):=by
 refine(OT hY.toLay vs gs w0 sl t q bG aW a b hC h0 hc hM hG eW).bind ?_;rintro m t ⟨gs,w,sl,q,bG,aW,a,b,t₁,fn,pos,rfl,hC,h0,hc,hb,hM,hfc,eW,_,hd⟩;have GZ:WgAt ty Wg w KK 0:=hw.of_block (eW.keep Wg hY.Nx hY.wch);obtain⟨⟨n₁,hG1⟩,⟨n₂,hG2⟩⟩:=hfc GZ;have hx0:(x.side nV nV).half P ty Low (7,n₁) b w LK:=@Half.init x.pl P ty Wg x.C Low (ml Wg x.C Low nV x.hW x.hC) x.vals kQ b w n₁ GZ hG1;have hy0:(y.side nV nV).half P ty Low (7,n₂) b w LK:=@Half.init y.pl P ty Wg y.C Low (ml Wg y.C Low nV y.hW y.hC) y.vals kQ b w n₂ GZ hG2;refine(Yd (x:=x.side nV nV) (y:=y.side nV nV) hY (J7 x) (J7 y) Br (cQ.1 hM) (7,n₁) (7,n₂) aW b LK LK gs w sl t q hC h0 hc (cq.refl _ _ _) (eW.weaken λb hb=> .inl hb) hx0 hy0 (GL.init eW.d0 hd) (GL.init eW.d0 hd)).bind ?_;rintro m t ⟨gs,w,sl,q,bG,aW,a,b,iN,js,μ,ν,rfl,hC,h0,hc,hfm,eW,hx,hy,hg1,hg2⟩;obtain⟨St,Ax,Ay,⟨pK,m₁,Yh⟩,⟨xU,m₂,hk2⟩,fU⟩:=hfm (EM hx) (EM hy);obtain⟨oC,hJx⟩:=@Half.inv x.pl P ty Wg x.C Low (ml Wg x.C Low St x.hW x.hC) x.vals kQ Ax (λ_ _=>True) μ a b w iN none (xW x (St':=St) (A':=Ax) hx) m₁ Yh;obtain⟨H6,hJy⟩:=@Half.inv y.pl P ty Wg y.C Low (ml Wg y.C Low St y.hW y.hC) y.vals kQ Ay (λ_ _=>True) ν a b w js none (xW y (St':=St) (A':=Ay) hy) m₂ hk2;refine(Yf (x:=x.side St Ax) (y:=y.side St Ay) hY pK xU Br eW.big (λb hb=>(eW.HY b hb).1) (Go.ConcN.sumTo c q,oC) H6 gs w sl t q a b iN js rfl hC h0 hc eW.ti hJx hJy hg1 hg2).bind ?_;intro m t h3;refine(Yg pK xU eW.big (λa ha=>hY.QS _ (hY.wQ a ha)) hxS hyS h3).mono ?_;rintro m t ⟨gs,w',sl,q,a,rfl,h1,h2,h3,h4,h5,h6⟩;have h4':St a w':=h4.elim id id;obtain⟨k1,k2⟩:=fU a w' h4';exact⟨gs,w,w',sl,q,a,bG,rfl,h1,h2,h3,k2,k1,h5,h6.mono k1,eW.mlt,eW.big,λb e1 e2 e3=>eW.keep b e1 (λe=>e.elim e2 e3),eW.tape,eW.os,eW.output⟩
end
variable {P:Λ}{main:Bool}{b:Ξ}{a:Act}{k:List Item}{cs:List Ξ}{w:Γ}
def fW (ch:Θ)(ty rt:ζ)(bs:Array Bool):Deferred:={ target:= .builtin .close #[ty] rt bs,args:=#[ch] }
theorem sx {ops:Array Oper}{i:Nat}{rest:List Nat}{o:Oper}{x:Tmp}{ty:ζ}(ho:ops[i]?=some o)(hw:Φ o (φ ops a.tmps)=true)(hk:b.kind≠.early)
 (hop:o.op=.defer { callee:= .builtin .close,args:=#[.tmp x],argTypes:=#[ty] }):
 υ P main (G (b.at a (.inRegion ops (i::rest)::k)) cs) w=.go (G (b.at (ϋ ⟨a.tmps,fW (a.eval (.tmp x)) ty o.type #[false]::a.defers⟩ o.dst ψ) (.inRegion ops rest::k)) cs) w #[]:=by
 have hr:(Ω a.eval o).run P w=.ok (.defer (fW (a.eval (.tmp x)) ty o.type #[false])) w:=by
  unfold Ω;simp[hop,resolve,fW]
 have he:(Ω a.eval o).events P w #[]=#[]:=by
  unfold Ω;simp[hop,resolve]
 have fU:(b.at ⟨a.tmps,fW (a.eval (.tmp x)) ty o.type #[false]::a.defers⟩ (.inRegion ops (i::rest)::k)).finish ψ=b.at (ϋ ⟨a.tmps,fW (a.eval (.tmp x)) ty o.type #[false]::a.defers⟩ o.dst ψ) (.inRegion ops rest::k):=by rw[zcj,ho];rfl
 have O1:(b.kind==CallKind.early)=false:=by simpa using hk
 rw[stepG_oper ho hw,←fU];simp[stepG.apply,hr,he,G,Ξ.at,O1,GStep.after,seen_none]
theorem rb {ds:List Deferred}{c s:Nat}{tm:Bool}{ty rt:ζ}{bs:Array Bool}(hd:a.defers=fW (.chan (some c)) ty rt bs::ds)(hc:w.heap[c]?=some (.chan 0 #[] false s r tm))(hq:(P.funcs[b.fn]?).any (·.norace)=false):υ P main (G { b.at a todo with mode:= .returning } cs) w=.go (G { b.at ⟨a.tmps,ds⟩ todo with mode:= .returning } cs) (w.setChan c 0 #[] true s r tm) (gV c):=by
 have h1:(builtin .close #[ty] rt bs #[.chan (some c)]).run P w=.ok (.value (.tuple #[])) (w.setChan c 0 #[] true s r tm):=by
  unfold builtin;simp[go_sem,run_close_open _ _ hc,Γ.setChan]
 have h2:(builtin .close #[ty] rt bs #[.chan (some c)]).events P w #[]=gV c:=by
  unfold builtin;simp[go_sem,events_close_open _ _ hc,gV]
 have h3:seen P b.fn ((builtin .close #[ty] rt bs #[.chan (some c)]).events P w #[])=gV c:=by
  rw[h2];exact seen_eq hq (by intro e he f;simp[gV]at he;rcases he with rfl|rfl<;>simp)
 simp[G,υ,unwind,callDeferred,Ξ.at,hd,fW,invoke,h1,GStep.after]at h3 ⊢;exact h3
open Go
section
variable {P:Λ}{ρ:Rn}
theorem sA:∀(n:Nat) (a:Addr) (acc:ByteArray),ae P ρ Eq (Extern.Bytes.loadBytes a n acc) (Extern.Bytes.loadBytes (ra ρ a) n acc)
 |0,a,acc=>ae.pure rfl
 |n+1,a,acc=>by
  unfold Extern.Bytes.loadBytes;refine ae.bind (xc a) ?_;rintro v _ rfl;cases v with
  |int k b=>
   cases k with
   |u8=>rw[rv];simp only;rw[jQ];exact sA n (a.add 1) _
   |_=>exact ae.stuck _
  |_=>exact ae.stuck _
theorem ui (v:Θ):ae P ρ Eq (Extern.Bytes.bytesOf v) (Extern.Bytes.bytesOf (rv ρ v)):=by
 cases v with
 |string s=>rw[rv];exact ae.pure rfl
 |slice a l c=>
  cases a with
  |none=>rw[rv];exact ae.pure rfl
  |some a=>rw[rv];exact sA l a _
 |_=>exact ae.stuck _
theorem O2 (v:Θ):ae P ρ Eq (Extern.Bytes.asByte v) (Extern.Bytes.asByte (rv ρ v)):=by
 cases v with
 |int k b=>
  rw[rv];cases k with
  |u8=>exact ae.pure rfl
  |_=>exact ae.stuck _
 |_=>exact ae.stuck _
theorem O3 (n:Int):VV ρ (goInt n) (goInt n):=by simp[VV,goInt,rv]
theorem uW (args:Array Θ):ae P ρ (VV ρ) (ϊ args) (ϊ (args.map (rv ρ))):=by
 obtain⟨l⟩:=args;rcases l with _|⟨b,_|⟨c,_|⟨d,l⟩⟩⟩
 ·exact ae.stuck "bytealg.IndexByte: two arguments expected"
 ·exact ae.stuck "bytealg.IndexByte: two arguments expected"
 ·have h:∀b c,ϊ #[b,c]=(do
   let b ←Extern.Bytes.bytesOf b;let c ←Extern.Bytes.asByte c
   match(List.range b.size).find? λi=>b[i]! ==c with
   |some i=>pure (goInt i)
   |none=>pure (goInt (-1))):=λ_ _=>rfl
  have e:(Array.map (rv ρ) { toList:=[b,c] })=#[rv ρ b,rv ρ c]:=by simp
  rw[e,h,h];refine ae.bind (ui b) ?_;rintro x _ rfl;refine ae.bind (O2 c) ?_;rintro y _ rfl;split
  ·exact ae.pure (O3 _)
  ·exact ae.pure (O3 _)
 ·exact ae.stuck "bytealg.IndexByte: two arguments expected"
theorem O4 (args:Array Θ):ae P ρ (VV ρ) (Extern.AbiNoEscape.same args) (Extern.AbiNoEscape.same (args.map (rv ρ))):=by
 obtain⟨l⟩:=args;rcases l with _|⟨b,_|⟨c,l⟩⟩
 ·exact ae.stuck "abi.NoEscape, Escape: one argument expected"
 ·have h:∀b,Extern.AbiNoEscape.same #[b]=pure b:=λ_=>rfl;have e:(Array.map (rv ρ) { toList:=[b] })=#[rv ρ b]:=by simp
  rw[e,h,h];exact ae.pure rfl
 ·exact ae.stuck "abi.NoEscape, Escape: one argument expected"
theorem O5 (hx:∀g,g<P.globals.size→g<ρ.d∨ρ g=g):ae P ρ Eq Extern.BytealgIndex.maxLen Extern.BytealgIndex.maxLen:=by
 unfold Extern.BytealgIndex.maxLen globalAddr;refine ae.bind (R:=λ(a b:Addr)=>b=a∧(a.block<ρ.d∨ρ a.block=a.block)) (ae.bind cL ?_) ?_
 ·rintro p p' ⟨rfl,rfl⟩;split
  ·rename_i g hg;refine ae.pure ?_;have:=Array.findIdx?_eq_some_iff_getElem.1 hg;exact⟨rfl,hx g this.1⟩
  ·exact ae.stuck _
 ·rintro a b ⟨rfl,h⟩;refine ae.bind (R:=VV ρ) ?_ ?_
  ·rcases h with h|h
   ·exact .inl h
   ·have e:ra ρ b=b:=by unfold ra;rw[h]
    have:=xc (P:=P) (ρ:=ρ) b;rwa[e]at this
  ·rintro v _ rfl;exact mI v
theorem O6 (hx:∀g,g<P.globals.size→g<ρ.d∨ρ g=g)(args:Array Θ):ae P ρ (VV ρ) (Extern.BytealgIndex.index args) (Extern.BytealgIndex.index (args.map (rv ρ))):=by
 obtain⟨l⟩:=args;rcases l with _|⟨b,_|⟨c,_|⟨d,l⟩⟩⟩
 ·exact ae.stuck "bytealg.Index: two arguments expected"
 ·exact ae.stuck "bytealg.Index: two arguments expected"
 ·have h:∀b c,Extern.BytealgIndex.index #[b,c]=(do
   let a ←Extern.Bytes.bytesOf b;let b ←Extern.Bytes.bytesOf c
   if b.size<2||(b.size:Int)>(←Extern.BytealgIndex.maxLen)then
    unsupported (.noEntry "extern/internal/bytealg.Index.length")
   if a.size≥2^32-15 then
    unsupported (.noEntry "extern/internal/bytealg.Index: a haystack of 2^32 - 15 bytes or more")
   match(List.range (a.size+1-b.size)).find? λi=>a.extract i (i+b.size)==b with
   |some i=>pure (goInt i)
   |none=>pure (goInt (-1))):=λ_ _=>rfl
  have e:(Array.map (rv ρ) { toList:=[b,c] })=#[rv ρ b,rv ρ c]:=by simp
  rw[e,h,h];refine ae.bind (ui b) ?_;rintro x _ rfl;refine ae.bind (ui c) ?_;rintro y _ rfl;refine ae.bind (O5 hx) ?_;rintro m _ rfl;dsimp only;refine ae.aj (λ_=>?_) (λ_=>?_)
  ·exact trivial
  ·refine ae.aj (λ_=>?_) (λ_=>?_)
   ·exact trivial
   ·split
    ·exact ae.pure (by simp[VV,goInt,rv])
    ·exact ae.pure (by simp[VV,goInt,rv])
 ·exact ae.stuck "bytealg.Index: two arguments expected"
end
theorem oD {cs:Array Θ}(h:∀x∈cs,gq x):gq (.agg cs):=λρ=>by
 rw[rv];have h':∀x∈cs,rv ρ x=id x:=λx hx=>h x hx ρ;rw[et h',Array.map_id]
theorem xX (h:gq v):∀x∈v.cells,gq x:=by
 intro x hx;cases v with
 |agg cs=>
  intro ρ;have:=h ρ;rw[rv]at this;simp only[Θ.agg.injEq]at this;obtain⟨i,hi,rfl⟩:=zcm.1 (show x∈cs from hx);have h2:=zak (λa=>a[i]?) this;simp only[zaz,zaL hi,zbp,zaE]at h2;exact h2
 |_=>simp only[Θ.cells,zca,zal,zcb,or_false]at hx;subst hx;exact h
theorem Bu {α β:Type}(I:β→Prop){f:α→β→Option (ForInStep β)}(hs:∀a b s,I b→f a b=some s→I s.value):∀(l:List α) (init r:β),I init→forIn l init f=some r→I r
 |[],init,r,h0,h=>by
  simp only[List.forIn_nil,pure,zaE]at h;exact h▸h0
 |a::l,init,r,h0,h=>by
  simp only[List.forIn_cons,bind,zaO]at h;obtain⟨s,h1,h2⟩:=h;have hI:=hs a init s h0 h1;cases s with
  |done b=>simp only[pure,zaE]at h2;exact h2▸hI
  |yield b=>exact Bu I hs l b r hI h2
theorem sB {info:ζ→Option θ}(hi:∀t i v,info t=some i→i.zero=some v→gq v){fs:Array Field}{i:θ}(h:Made.reckonStruct info fs=some i)(hz:i.zero=some v):gq v:=by
 unfold Made.reckonStruct at h;simp only[bind,zaO,pure,←zbP]at h;obtain⟨a,ha,h⟩:=h;have key:∀arr,a.2.2.2.2.2.2.2.1=some arr→∀x∈arr,gq x:=by
  refine Bu (λs=>∀arr,s.2.2.2.2.2.2.2.1=some arr→∀x∈arr,gq x) ?_ _ _ _ ?_ ha
  ·intro f b s hb hf;simp only[zaO]at hf;obtain⟨j,hj,hf⟩:=hf;have fin:∀arr,(if b.2.1+j.size>Made.mostCells then none else b.2.2.2.2.2.2.2.1.bind λy=>j.zero.bind λz=>some (y++z.cells))=some arr→∀x∈arr,gq x:=by
    intro arr qY x hx;split at qY
    ·cases qY
    ·simp only[zaO]at qY;obtain⟨y,hy,z,hz,e⟩:=qY;cases e;rcases Array.mem_append.1 hx with h1|h1
     ·exact hb y hy x h1
     ·exact xX (hi _ _ _ hj hz) x h1
   by_cases c1:j.str.isEmpty=true
   ·rw[zab c1]at hf;cases hf
   rw[zaa c1]at hf;by_cases c2:f.embedded=true
   ·rw[zab c2]at hf;cases hf
   rw[zaa c2]at hf;by_cases c3:f.tag.isEmpty=true
   ·rw[zab c3]at hf;by_cases c4:j.bytes=0
    ·simp only[zce,zab c4]at hf;cases hf;exact fin
    ·simp only[zce,zaa c4]at hf;cases hf;exact fin
   ·rw[zaa c3]at hf;rw[zaO]at hf;obtain⟨tag,_,hf⟩:=hf;by_cases c4:j.bytes=0
    ·rw[zab c4]at hf;cases hf;exact fin
    ·rw[zaa c4]at hf;cases hf;exact fin
  ·intro arr qY x hx;simp only[zaE]at qY;subst qY;simp at hx
 split at h
 all_goals
  cases h;simp only[zas]at hz;obtain⟨arr,qY,rfl⟩:=hz;exact oD (key arr qY)
theorem EN {info:ζ→Option θ}(hi:∀t i v,info t=some i→i.zero=some v→gq v){d:TypeDesc}{i:θ}(h:Made.reckon info d=some i)(hz:i.zero=some v):gq v:=by
 have w0:∀(d:TypeDesc) (s:String) (z:Θ) (c:Bool) (n:Nat),gq z→some (Made.word d s z c n)=some i→gq v:=by
  intro d s z c n hb e;cases e;simp only[Made.word]at hz;cases hz;exact hb
 unfold Made.reckon at h;split at h
 ·simp only[bind,zaO,pure]at h;obtain⟨j,_,h⟩:=h;split at h
  ·cases h
  ·split at h
   ·cases h
   ·simp only[zaO]at h;obtain⟨s,_,h⟩:=h;exact w0 _ _ _ _ _ (λρ=>by simp[rv]) h
  ·simp only[zaO]at h;obtain⟨s,_,h⟩:=h;exact w0 _ _ _ _ _ (λρ=>by simp[rv]) h
 ·simp only[bind,zaO,pure]at h;obtain⟨j,_,s,_,h⟩:=h;exact w0 _ _ _ _ _ (λρ=>by simp[rv]) h
 ·simp only[bind,zaO,pure]at h;obtain⟨_,_,_,_,_,_,_,_,h⟩:=h;exact w0 _ _ _ _ _ (λρ=>by simp[rv]) h
 ·simp only[bind,zaO,pure]at h;obtain⟨_,_,_,_,h⟩:=h;exact w0 _ _ _ _ _ (λρ=>by simp[rv]) h
 ·simp only[bind,zaO,pure]at h;obtain⟨_,_,h⟩:=h;exact w0 _ _ _ _ _ (λρ=>by simp[rv]) h
 ·simp only[bind,zaO,pure]at h;obtain⟨j,hj,s,_,h⟩:=h;cases h;simp only at hz;split at hz
  ·cases hz
  ·split at hz
   ·cases hz;exact oD λx hx=>by simp at hx
   ·simp only[zas]at hz;obtain⟨zz,hzz,rfl⟩:=hz;refine oD λx hx=>?_;rw[Array.mem_flatten]at hx;obtain⟨ys,h1,h2⟩:=hx;rw[Array.mem_replicate]at h1;obtain⟨_,rfl⟩:=h1;exact xX (hi _ _ _ hj hzz) x h2
 ·exact sB hi h hz
 ·cases h
theorem uX {T:Tables}(hT:∀(t:ζ) (i:θ) (v:Θ),T.types[t]?=some i→i.zero=some v→gq v):∀(n:Nat) (t:ζ) (i:θ) (v:Θ),Made.infoAt T n t=some i→i.zero=some v→gq v
 |0,t,i,v,h,_=>by simp[Made.infoAt]at h
 |n+1,t,i,v,h,hz=>by
  unfold Made.infoAt at h;split at h
  ·exact hT t i v h hz
  ·simp only[zaO]at h;obtain⟨d,_,h⟩:=h;exact EN (uX hT n) h hz
def Ka:Θ→Bool
 |.agg cs=>cs.toList.all jl
 |v=>jl v
def O7:Θ→Bool
 |.tuple cs=>cs.toList.all Ka
 |v=>Ka v
def tyB (i:θ):Bool:=match i.zero with|some v=>O7 v|none=>true
theorem xY (h:Ka v=true):gq v:=by
 unfold Ka at h;split at h
 ·rename_i cs;rw[zaC]at h;exact oD λx hx=>ik (h x (Array.mem_toList_iff.2 hx))
 ·exact ik h
theorem H7 (h:O7 v=true):gq v:=by
 unfold O7 at h;split at h
 ·rename_i cs;rw[zaC]at h;intro ρ;rw[rv];have h':∀x∈cs,rv ρ x=id x:=λx hx=>xY (h x (Array.mem_toList_iff.2 hx)) ρ;rw[et h',Array.map_id]
 ·exact xY h
theorem Kb {P:Λ}(h:P.types.toList.all tyB=true):∀(t:ζ) (i:θ) (v:Θ),P.info? t=some i→i.zero=some v→∀ρ:Rn,rv ρ v=v:=by
 have hT:∀(t:ζ) (i:θ) (v:Θ),P.types[t]?=some i→i.zero=some v→gq v:=by
  intro t i v hi hz;rw[zaC]at h;have:=h i (Array.mem_toList_iff.2 (zbF hi));unfold tyB at this;rw[hz]at this;exact H7 this
 intro t i v hi hz;unfold Tables.info? at hi;split at hi
 ·exact hT t i v hi hz
 ·exact uX hT _ t i v hi hz
section
variable {P:Λ}{main:Bool}{ro own:Nat→Prop}{Stop:(Nat→Prop)→Δ→Γ→Prop}{W:Γ}{b:Ξ}{a:Act}{ops:Array Oper}{i:Nat}{rest:List Nat}{o:Oper}{kk:List Item}{cs:List Ξ}
theorem af.Ib (ho:ops[i]?=some o)(hw:Φ o (φ ops a.tmps)=true)(hk:b.kind≠.early){dd:Option Tmp}(hdd:o.dst=dd)(hop:o.op=.load e x)(hx:a.eval x=.pointer (some ad))(hr:ro ad.block)(hv:W.cell? ad=some v)
 (hl:∀(w:Γ),w.cell? ad=some v→(ι e (.pointer (some ad))).run P w=.ok v w∧∀ev∈(ι e (.pointer (some ad))).events P w #[],ev.loc=.cell ad∧ev.write=false)
 (k:af P main ro Stop own (G (b.at (a.put dd v) (.inRegion ops rest::kk)) cs) W):af P main ro Stop own (G (b.at a (.inRegion ops (i::rest)::kk)) cs) W:=by
 subst hdd;refine af.step' rfl λaS hR=>?_;have hc:aS.cell? ad=some v:=by
  rw[←hv];simp only[Γ.cell?,hR.block _ (.inr hr)]
 obtain⟨h1,h2⟩:=hl aS hc;have hrun:(Ω a.eval o).run P aS=.ok (.value v) aS:=by
  unfold Ω;simp[hop,hx,h1]
 have iG:(Ω a.eval o).events P aS #[]=(ι e (.pointer (some ad))).events P aS #[]:=by
  unfold Ω;simp[hop,hx]
 refine⟨_,aS,_,stepG_value ho hw hk hrun,⟨rfl,rfl,rfl,zac _,λ_ _ _=>rfl,λev he=>?_⟩,?_⟩
 ·unfold listed at he;rw[iG]at he;obtain⟨h3,h4⟩:=h2 ev (mem_seen he);unfold DO;rw[h3];exact .inr ⟨hr,h4⟩
 ·rw[tX own rfl];exact k.rely hR
end
open Go.ConcN (sumTo upd sumTo_upd upd_ne upd_same)
structure fO (Q Shun:Loc→Prop) (B d:Nat) (t:ξ):Prop where
 clean:∀said,¬Race said t
 known:∀i a,touchAt t i=some a→a.loc.isMemory=true→Knows t 0 i∨(Shun a.loc∧a.kind=.atomic)
 over:t.HandedOver
 deaf:Deaf t 0=d
 seen:∀op∈t,op.act.low B
 quiet:∀i a,touchAt t i=some a→Q a.loc→a.kind≠.plain∧(a.kind=.said→t.g? i=some 0)
section
variable {Q Shun:Loc→Prop}{B d d':Nat}{t u:ξ}
theorem fO.past (h:fO Q Shun B 0 t):Past Shun B t:=⟨h.clean,h.known,h.over,h.deaf,h.seen⟩
theorem fO.Ke (h:Past Shun B t)(hq:∀i a,touchAt t i=some a→¬Q a.loc):fO Q Shun B 0 t:=⟨h.clean,h.known,h.over,h.hears,h.seen,λi a ha hl=>absurd hl (hq i a ha)⟩
theorem fO.app0 (h:fO Q Shun B d t)(hu:∀op∈u,op.g=0)(hs:∀op∈u,∀b,op.act.touch? =some b→(Shun b.loc∨Q b.loc)→b.kind≠.plain)(hd:Deaf (t++u) 0=d')(hl:∀op∈u,op.act.low B):fO Q Shun B d' (t++u):=by
 refine⟨λsaid=>noRace_append (h.clean said) hu λi a ha op hop b hb hc=>?_,λi a ha hm=>?_,handedOver_app h.over λop hop=> .inl (hu op hop),hd,seen_app h.seen hl,λi a ha hq=>?_⟩
 ·rcases h.known i a ha hc.2.1 with hk|⟨Nu,hka⟩
  ·exact hk
  ·have hkb:=hs op hop b hb (.inl (hc.1▸Nu));obtain⟨_,_,_,lA⟩:=hc;rw[hka]at lA;rcases lA with x|x|⟨_,x,_⟩
   ·cases x
   ·exact absurd x hkb
   ·cases x
 ·rcases bU ha with⟨_,ha'⟩|⟨_,op,hop,hx,_⟩
  ·exact(h.known i a ha' hm).imp (·.app u) id
  ·have:=knows_own hx;rw[hu op hop]at this;exact .inl this
 ·rcases bU ha with⟨hi,ha'⟩|⟨_,op,hop,hx,hb⟩
  ·rw[g?_old hi];exact h.quiet i a ha' hq
  ·exact⟨hs op hop a hb (.inr hq),λ_=>by simp[Trace.g?,hx,hu op hop]⟩
theorem fO.appMute {g:Nat}(h:fO Q Shun B d t)(hg:g≠0)(hu:∀op∈u,op.g=g)(hn:∀op∈u,op.act.touch? =none)(hl:∀op∈u,op.act.low B):fO Q Shun B d (t++u):=by
 have old:∀{i a},touchAt (t++u) i=some a→i<t.size∧touchAt t i=some a:=λha=>by
  rcases bU ha with h|⟨_,op,hop,_,hx⟩
  ·exact h
  ·rw[hn op hop]at hx;cases hx
 refine⟨λsaid=>noRace_append (h.clean said) hu λi a _ op hop b hb _=>(by rw[hn op hop]at hb;cases hb),λi a ha hm=>?_,handedOver_app h.over λop hop=> .inr (hn op hop),(zaN t hg u hu).trans h.deaf,seen_app h.seen hl,λi a ha hq=>?_⟩
 ·exact(h.known i a (old ha).2 hm).imp (·.app u) id
 ·rw[g?_old (old ha).1];exact h.quiet i a (old ha).2 hq
end
section
variable {P:Λ}{Q Shun:Loc→Prop}{B d:Nat}{K:Machine→ξ→Prop}{a:Δ}
theorem oG {J:Γ→ξ→Prop}(ha:a.status=.running)
 (hJ:∀w t d ops,J w t→(∃g,g≠0∧∀op∈ops,op.g=g)→(∀op∈ops,op.act.touch? =none∧∀a,op.act≠.mark (.release a))→(∀B,∀op∈ops,op.act.low B)→J (w.at d) (t++ops))
 (H:∀gs w sl t q,gs.size=n→π P t gs q→gs[0]?=some a→J w t→∃m' ops,runT P (ω gs w sl) 0=(.next m',ops)∧Reach P m' (t++ops) K):
 ∀gs w sl t q,gs.size=n→π P t gs q→gs[0]?=some a→J w t→Reach P (ω gs w sl) t K:=by
 intro gs w sl t q hn hL h0 hj;generalize hM:sumTo n q=M
 induction M using Nat.strongRecOn generalizing gs w sl t q with
 |_ M ih=>
 have X3:∀g∈gs,awake g:=by
  intro g hg;obtain⟨i,hi,rfl⟩:=zcm.1 hg;rcases zcB i with rfl|jT
  ·have:gs[0]=a:=by simpa[Array.getElem?_eq_getElem hi]using h0
   rw[this];exact awake_of (.inl ha)
  ·exact awake_of ((hL.old i _ jT (zaL hi)).status.elim .inl λx=> .inr (.inr x))
 obtain⟨i,g,dd,sl',hi,hg,hst⟩:=crowd_pick (P:=P) (w:=w) (sl:=sl) X3 ⟨0,a,h0,ha⟩;have hjd:J (w.at dd) t:=by
  have:=hJ w t dd #[] hj ⟨1,by decide,by simp⟩ (by simp) (by simp);simpa using this
 rcases zcB i with rfl|jT
 ·obtain⟨m',ops,e,hR⟩:=H gs (w.at dd) sl' t q hn hL h0 hjd;exact Reach.step (hst.trans e) hR
 ·have hq:=hL.old i g jT hi;have WB:(i==0)=false:=by simp;omega
  have hlt:i<gs.size:=(zaj.1 hi).1;cases Ho:q i with
  |zero=>rw[Ho]at hq;rw[hq.1]at hg;cases hg
  |succ k=>
   rw[Ho]at hq;rcases hq with⟨hf,_⟩|⟨_,g',es,hm,Hp,hq'⟩
   ·rw[hf]at hg;cases hg
   have sj:=runT_crowd_go (P:=P) (sl:=sl') (i:=i) hi (by rw[WB];exact Hp (w.at dd));have Lv:sumTo n (upd q i k)+(k+1)=sumTo n q+k:=by
    have:=sumTo_upd q k id (hn▸hlt);simpa[Ho]using this
   refine Reach.step (hst.trans sj) (ih (sumTo n (upd q i k)) (by omega) _ (w.at dd) sl' _ (upd q i k) (by simp[hn]) ⟨λj x hj hx=>?_,λj hj=>?_⟩ ?_ (hJ w t dd _ hj ⟨i,by omega,ofEvents_g⟩ (λop hop=>?_) (λB op hop=>?_)) rfl)
   ·by_cases xK:i=j
    ·subst xK;rw[zbG (by simpa using hlt)]at hx;obtain rfl:=zaM hx;rw[upd_same,Deaf_own];exact hq'
    ·rw[zaA xK,zaz]at hx;obtain⟨y,hy,rfl⟩:=zas.1 hx;have Hq:=hL.old j y hj hy;rw[woken_quitsD Hq,upd_ne q k (Ne.symm xK),zaN t xK _ ofEvents_g];exact Hq
   ·rw[zaN t (g':=i) (by simp at hj;omega) _ ofEvents_g];exact hL.above j (by simpa using hj)
   ·rw[zaA (by omega),zaz,h0];simp[woken_run ha]
   ·obtain⟨e,he,rfl⟩:=zbe hop;exact⟨touch_mute (hm e he),λa=>qX (hm e he) a⟩
   ·obtain⟨e,he,rfl⟩:=zbe hop;exact low_mute (hm e he) B
theorem yh {a':Δ}{w:Γ}{sl:Option (Nat×Nat)}{es:Array Event}(hL:π P t gs q)(h0:gs[0]?=some a)(hs:υ P true a w=.go a' w' es):∃gs',runT P (ω gs w sl) 0=(.next (ω gs' w' sl),MemOp.ofEvents 0 a.frame.fn a.frame.place es)∧gs'.size=gs.size∧π P (t++MemOp.ofEvents 0 a.frame.fn a.frame.place es) gs' q∧gs'[0]?=some a':=by
 have hlt:0<gs.size:=(zaj.1 h0).1;refine⟨_,runT_crowd_go (P:=P) (sl:=sl) (i:=0) h0 (show υ P (0==0) a w=_ from hs),by simp,⟨λj x hj hx=>?_,λj hj=>?_⟩,by simp[hlt]⟩
 ·rw[zaA (by omega),zaz]at hx;obtain⟨y,hy,rfl⟩:=zas.1 hx;have hq:=hL.old j y hj hy;rw[woken_quitsD hq,zaN t (by omega) _ ofEvents_g];exact hq
 ·rw[zaN t (g':=0) (by simp at hj;omega) _ ofEvents_g];exact hL.above j (by simpa using hj)
def At0 (P:Λ)(Q Shun:Loc→Prop)(B d n:Nat)(Stop:Δ→Γ→Prop)(m:Machine)(t:ξ):Prop:=
 ∃gs a w sl q,m=ω gs w sl∧gs.size=n∧gs[0]?=some a∧(∀w₁,AtRel w w₁→Stop a w₁)∧π P t gs q∧fO Q Shun B d t
theorem jJ {D:Γ→Γ→Array Event→Prop}{Stop:Δ→Γ→Prop}(hD:∀w w' es,D w w' es→∀e∈es,EvL (λl=>Shun l∨Q l) B e):∀(N:Nat) (a:Δ) (w:Γ),Goes P true AtRel D Stop N a w→∀gs sl t q,gs.size=n→π P t gs q→gs[0]?=some a→fO Q Shun B d t→Reach P (ω gs w sl) t (At0 P Q Shun B d n Stop):=by
 intro N
 induction N with
 |zero=>intro a w hG gs sl t q hn hL h0 hP;exact .here ⟨gs,a,w,sl,q,rfl,hn,h0,hG,hL,hP⟩
 |succ N ih=>
  intro a w hG gs sl t q hn hL h0 hP;rcases hG with aaR|⟨hrun,hstep⟩
  ·exact .here ⟨gs,a,w,sl,q,rfl,hn,h0,aaR,hL,hP⟩
  refine oG (J:=λw₁ t=>AtRel w w₁∧fO Q Shun B d t) hrun (λw₁ t dd ops hj ⟨g,hg,hgo⟩ h1 h2=>⟨atRel_trans _ _ _ hj.1 ⟨dd,rfl⟩,hj.2.appMute hg hgo (λop hop=>(h1 op hop).1) (h2 B)⟩) (λgs w₁ sl t q hn hL h0 hj=>?_) gs w sl t q hn hL h0 ⟨atRel_refl w,hP⟩;obtain⟨a',w',es,hgo,hd,hG'⟩:=goes_elim (hstep w₁ hj.1);obtain⟨gs',e1,e2,e3,e4⟩:=yh (sl:=sl) hL h0 hgo;have iG:=hD _ _ _ hd;refine⟨_,_,e1,ih a' w' hG' gs' sl _ q (e2.trans hn) e3 e4 (hj.2.app0 ofEvents_g (λop hop b hb hs=>?_) ?_ (λop hop=>?_))⟩
  ·obtain⟨e,he,rfl⟩:=zbe hop;exact(iG e he).1 b hb hs
  ·rw[Deaf_own,deafBehind_still (λe he=>⟨(iG e he).2.1,(iG e he).2.2.1⟩)];exact hj.2.deaf
  ·obtain⟨e,he,rfl⟩:=zbe hop;exact(iG e he).2.2.2
theorem uY {mk:Mark}{Next:Δ→Γ→Prop}(hm:(MemAct.mark mk).touch? =none)(hl:(MemAct.mark mk).low B){a:Δ}{w:Γ}{sl:Option (Nat×Nat)}(hn:gs.size=n)(hL:π P t gs q)(h0:gs[0]?=some a)(hP:fO Q Shun B d t)
 (hS:∀w₁,AtRel w w₁→Go.ConcX.AtMkS P mk Next a w₁):Reach P (ω gs w sl) t λm t=>∃gs a w sl q,m=ω gs w sl∧gs.size=n∧gs[0]?=some a∧Next a w∧π P t gs q∧fO Q Shun B (deafBehind d #[Go.ConcX.mk mk]) t:=by
 refine oG (J:=λw₁ t=>AtRel w w₁∧fO Q Shun B d t) (hS w (atRel_refl w)).1 (λw₁ t dd ops hj ⟨g,hg,hgo⟩ h1 h2=>⟨atRel_trans _ _ _ hj.1 ⟨dd,rfl⟩,hj.2.appMute hg hgo (λop hop=>(h1 op hop).1) (h2 B)⟩) (λgs w₁ sl t q hn hL h0 hj=>?_) gs w sl t q hn hL h0 ⟨atRel_refl w,hP⟩;obtain⟨_,a',hgo,sw⟩:=hS w₁ hj.1;obtain⟨gs',e1,e2,e3,e4⟩:=yh (sl:=sl) hL h0 hgo;refine⟨_,_,e1,.here ⟨gs',a',w₁,sl,q,rfl,e2.trans hn,e4,sw,e3,hj.2.app0 ofEvents_g (λop hop b hb hs=>?_) ?_ (λop hop=>?_)⟩⟩
 ·obtain⟨e,he,rfl⟩:=zbe hop;simp at he;subst he;rw[show(MemAct.ofEvent (Go.ConcX.mk mk))=.mark mk from rfl,hm]at hb;cases hb
 ·rw[Deaf_own,hj.2.deaf]
 ·obtain⟨e,he,rfl⟩:=zbe hop;simp at he;subst he;exact hl
end
open Go.ConcX (KK WgAt)
section
variable {P:Λ}{Q Shun Shun':Loc→Prop}{B c:Nat}{ro:Nat→Prop}{t:ξ}
theorem T9 (hP:fO Q Shun B 0 t)(ia:∀l,Shun l→Shun' l)(hro:∀l,jS ro l→¬Shun l)(hc0:c≠0)(Ps:Deaf t c=0){x y:MemOp}(hx:x.g=0∧x.act=.go c)(hy:y.g=c∧y.act=.start):TI Q Shun' c (λ_=>False) ro B (t++#[x,y])∧∀g,Deaf (t++#[x,y]) g=Deaf t g:=by
 have e:t++#[x,y]=(t++#[x])++#[y]:=by apply Array.toList_inj.1;simp
 have dx:∀g,Deaf (t++#[x]) g=Deaf t g:=λg=>dO t g _ λop hop m=>by simp at hop;subst hop;rw[hx.2];simp
 have dy:∀g,Deaf (t++#[x]++#[y]) g=Deaf (t++#[x]) g:=λg=>dO _ g _ λop hop m=>by simp at hop;subst hop;rw[hy.2];simp
 have h1:fO Q Shun B 0 (t++#[x]):=hP.app0 (λop hop=>by simp at hop;subst hop;exact hx.1) (λop hop b hb=>by simp at hop;subst hop;rw[hx.2]at hb;cases hb) ((dx 0).trans hP.deaf) (λop hop=>by simp at hop;subst hop;rw[hx.2];trivial);have h2:fO Q Shun B 0 (t++#[x]++#[y]):=h1.appMute hc0 (λop hop=>by simp at hop;subst hop;exact hy.1) (λop hop=>by simp at hop;subst hop;rw[hy.2];rfl) (λop hop=>by simp at hop;subst hop;rw[hy.2];trivial);rw[e];refine⟨⟨h2.clean,λi a ha hm=>(h2.known i a ha hm).imp id λh=> .inl ⟨ia _ h.1,h.2⟩,λi a _ hg=>?_,λi a ha hr hw=>?_,h2.quiet,λi g hg h0 _ uS=>h2.over i g hg h0 uS,h2.seen⟩,λg=>(dy g).trans (dx g)⟩
 ·generalize a.loc=l at hg;cases l<;>exact hg.elim
 ·have AH:a.loc.isMemory=true:=by
   generalize a.loc=l at hr;cases l<;>first|rfl|exact hr.elim
  have hold:touchAt t i=some a:=by
   rcases bU ha with⟨hi,ha'⟩|⟨_,op,hop,_,hb⟩
   ·rcases bU ha' with⟨hi',adj⟩|⟨_,op,hop,_,hb⟩
    ·exact adj
    ·simp at hop;subst hop;rw[hx.2]at hb;cases hb
   ·simp at hop;subst hop;rw[hy.2]at hb;cases hb
  have hk:Knows t 0 i:=(hP.known i a hold AH).resolve_right λh=>hro _ hr h.1;have gx:(t++#[x])[t.size]?=some x:=by simp
  have gx':(t++#[x]++#[y])[t.size]?=some x:=by rw[getElem?_append_old (by simp)];exact gx
  have gy:(t++#[x]++#[y])[t.size+1]?=some y:=by
   rw[Array.getElem?_append_right (by simp)];simp
  have b1:HappensBefore (t++#[x]++#[y]) i t.size:=hb_app _ (hk.hb_new (zac _) gx hx.1);have hh1:(t++#[x]++#[y]).heard t.size:=⟨0,by unfold Trace.g?;rw[gx'];simp[hx.1],by
   rw[deaf_old (by simp),deaf_old (zac _)];exact hP.deaf⟩
  have hh2:(t++#[x]++#[y]).heard (t.size+1):=⟨c,by unfold Trace.g?;rw[gy];simp[hy.1],by
   have hs:(t++#[x]).size=t.size+1:=by simp
   rw[←hs,deaf_old (zac _)];exact(dx c).trans Ps⟩
  have b2:HappensBefore (t++#[x]++#[y]) t.size (t.size+1):= .single (.inr ⟨.spawn (child:=c) (by rw[act?_of gx',hx.2]) (by rw[act?_of gy,hy.2]) (by unfold Trace.g?;rw[gy];simp[hy.1]),hh1,hh2⟩);exact⟨t.size+1,y,gy,hy.1,.inr (b1.trans b2)⟩
theorem E0 (ia:∀l,Shun l→Shun' l)(hro:∀l,jS ro l→¬Shun l){a a' child:Δ}{w:Γ}{sl:Option (Nat×Nat)}(hn:gs.size=n)(hL:π P t gs q)(h0:gs[0]?=some a)(hP:fO Q Shun B 0 t)(ha:a.status=.running)
 (hS:∀w₁,AtRel w w₁→υ P true a w₁=.spawn a' child w₁ #[]):
 Reach P (ω gs w sl) t λm t=>∃gs w₁ sl q,m=ω gs w₁ sl∧AtRel w w₁∧eM P n t gs q∧gs[0]?=some a'∧gs[n]?=some child∧TI Q Shun' n (λ_=>False) ro B t∧Deaf t 0=0∧Deaf t n=0:=by
 refine oG (J:=λw₁ t=>AtRel w w₁∧fO Q Shun B 0 t) ha (λw₁ t dd ops hj ⟨g,hg,hgo⟩ h1 h2=>⟨atRel_trans _ _ _ hj.1 ⟨dd,rfl⟩,hj.2.appMute hg hgo (λop hop=>(h1 op hop).1) (h2 B)⟩) (λgs w₁ sl t q hn hL h0 hj=>?_) gs w sl t q hn hL h0 ⟨atRel_refl w,hP⟩;have hlt:0<gs.size:=(zaj.1 h0).1;have hrun:=runT_crowd_spawn (P:=P) (sl:=sl) (i:=0) h0 (show υ P (0==0) a w₁=_ from hS w₁ hj.1);have Ps:Deaf t n=0:=hL.above n (by omega);have adk:∀(x y:MemOp),((MemOp.ofEvents 0 a.frame.fn a.frame.place #[]).push x).push y=#[x,y]:=λ_ _=>rfl;rw[adk,hn]at hrun;obtain⟨hT,hD⟩:=T9 (c:=n) (x:={ g:=0,fn:=a.frame.fn,pos:=a.frame.place,act:= .go n }) (y:={ g:=n,fn:=child.frame.fn,pos:=a.frame.place,act:= .start }) hj.2 ia hro (by omega) Ps ⟨rfl,rfl⟩ ⟨rfl,rfl⟩;refine⟨_,_,hrun,.here ⟨_,w₁,sl,q,rfl,hj.1,⟨by simp[hn],by omega,λi g h1 h2 hg=>?_,λj hj'=>?_⟩,?_,?_,hT,(hD 0).trans hj.2.deaf,(hD n).trans Ps⟩⟩
 ·rw[hD i];refine hL.old i g h1 ?_;rw[zbY,zaa (by simp;omega),zaA (by omega)]at hg;exact hg
 ·rw[hD j];exact hL.above j (by omega)
 ·rw[Array.getElem?_push_lt (by simp;omega)];simp
 ·have:(gs.setIfInBounds 0 a').size=n:=by simp[hn]
  rw[←this,Array.getElem?_push_size]
end
section
variable {P:Λ}{ty:ζ}{Q Shun Shun':Loc→Prop}{ch Wg n:Nat}{ro:Nat→Prop}{z:Θ}{w:Γ}{x y:uh Wg w.heap.size}{After:(Nat→Prop)→Γ→Δ→Γ→Prop}
theorem Ua (hY:EH Q Shun' n ch Wg w.heap.size ro (λb=>b=ch∨b=Wg))(ia:∀l,Shun l→Shun' l)(Br:x.C≠y.C)(hxS:∀a:Addr,a.block=x.C→¬Shun' (.cell a))(hyS:∀a:Addr,a.block=y.C→¬Shun' (.cell a))
 {vs:List Θ}{gs:Array Δ}{sl:Option (Nat×Nat)}{t:ξ}{q:Nat→Nat}{a a' child:Δ}(hn:gs.size=n)(hL:π P t gs q)(h0:gs[0]?=some a)(hP:fO Q Shun w.heap.size 0 t)(ha:a.status=.running)
 (hS:∀w₁,AtRel w w₁→υ P true a w₁=.spawn a' child w₁ #[])(hch:∃s r tm,w.heap[ch]?=some (.chan 0 #[] false s r tm))(hw:WgAt ty Wg w KK 0)
 (hM:∀w₁,AtRel w w₁→lR P ro ch z (OZ P ty x y After) vs (λ_=>False) a' w₁)(hG:∀w₁,AtRel w w₁→jU P ro ch (LO P ty x y) vs (λ_=>False) child w₁):
 Reach P (ω gs w sl) t λm t=>∃w₁,AtRel w w₁∧Joined P Shun' n ch Wg w.heap.size After w₁ m t:=by
 refine(E0 (Shun':=Shun') (ro:=ro) ia (λl hl hs=>hY.rS l hl (ia l hs)) hn hL h0 hP ha hS).bind ?_;rintro m t ⟨gs,w₁,sl,q,rfl,hr,hC,h0,hc,hT,hd0,hdc⟩;have mh:w₁.heap=w.heap:=by obtain⟨d,rfl⟩:=hr;rfl
 refine(LP hY Br hxS hyS hC h0 hc (hM w₁ hr) (hG w₁ hr) ⟨by rw[mh];exact hT,hd0,λ_=>hdc,λ_ h=>h.elim,λ_ h=>h.elim,λ_ h=>h.elim,by rw[mh];exact zac _,by rw[mh];exact hch,rfl,rfl,rfl,λ_ _ _=>rfl,rfl⟩ (hw.of_block (by rw[mh]))).mono λm t h=>⟨w₁,hr,h⟩
end
section
variable {P:Λ}{F:η→Bool}{S:Sd}{Ψ:dn}{cs:List Ξ}{w W:Γ}{ρ:Rn}{b:Ξ}{a:Act}{k:List Item}
theorem Ix (hC:lp P F S){main:Bool}{fr:Ξ}(hH:Ek P F S fr)(fK:iH P S w.heap.size fr)(hS:ja P S ρ w W){fn:Func}(h1:fr.mode=.returning)(h4:P.funcs[fr.fn]?=some fn)(h5:(results fn fr.tmps).run P w=.ok v w)(c:Ξ)(cs:List Ξ):rv (sg S S.d w.heap.size) v=v∧∃es,υ P main (G (cv ρ fr) (c::cs)) W=.go (G (c.finish (rv ρ v)) cs) W es∧∀e∈es,nU S.d ρ w e:=by
 have hp:Plain P ρ:=⟨λt i v a b=>hC.zero t i v a b _,hS.inj⟩;cases hrun:(results fn fr.tmps).runT P w #[]with
 |mk r es=>
  have q1:=zak Prod.fst hrun;simp at q1;rw[h5]at q1;subst q1;have se:∀n,w.heap.size≤n→ae P (sg S S.d n) (VV (sg S S.d n)) (results fn fr.tmps) (results fn fr.tmps):=λn hn=>by
   have:=jm (mg hC n) fn fr.tmps eu;have e:fr.tmps.map (rv (sg S S.d n))=fr.tmps:=bF.2 (iJ hn fK);rwa[e]at this
  obtain⟨x,W1,es',r1,r2,r3,r4,r5,r6⟩:=dG hp (λo=> .inl hS.lr) _ _ _ _ w W #[] #[] _ _ _ (jm hp fn fr.tmps eu) se hS.wr (λj hj=>by omega) hrun;have hb:x=rv ρ v:=r2;have hv:rv (sg S S.d w.heap.size) v=v:=by
   have:=r3 w.heap.size (zac _);unfold VV at this;exact this.symm
  have hs:=r5.size;have hW1:W1=W:=by
   refine pD (Array.ext_getElem? λi=>?_) r5.tape (by have:=r5.drawn;omega) r5.os r5.output;rcases zaw i W.heap.size with hlt|jB
   ·by_cases ht:Touch S.d ρ w i
    ·obtain⟨k,hr1,hr2,rfl⟩:=ht;have En:=r4.live _ _ hr1 (zaL hr2);have xF:=hS.wr.live _ _ hr1 (zaL hr2);exact En.trans xF.symm
    ·exact r5.frame i hlt ht
   ·rw[zbQ (by omega),zbQ jB]
  subst hb hW1;have cG:Ek P F S (cv ρ fr):=⟨hH.defers,hH.mode,hH.kind,hH.round,hH.todo,hH.fn⟩;have hps:(ba P (cv ρ fr) [c]).runT P W1 #[]=(.ok (c.finish (rv ρ v),[]) W1,es'):=by
   have hm:(cv ρ fr).mode=.returning:=h1;have hf:P.funcs[(cv ρ fr).fn]?=some fn:=h4;unfold ba;rw[hm];simp only[hf];rw[bO];have:(results fn (cv ρ fr).tmps).runT P W1 #[]=(.ok (rv ρ v) W1,es'):=r1;rw[this];rfl
  have hst:=fq (main:=main) (cs:=cs) cG hps;refine⟨hv,_,hst,λe he=>?_⟩;rcases r6 e (mem_seen he)with h|h
  ·simp at h
  ·exact h
theorem PT (hn:b.kind=.normal)(hd:a.defers=[])(hf:∃fn,P.funcs[b.fn]?=some fn)(ht:(todo.take 1).all (aF P F S)=true):Ek P F S (gA b a todo):=⟨hd,.inr rfl,hn,rfl,ht,hf⟩
theorem Mf {main:Bool}{c:Ξ}(todo aa2:List Item)(hn:b.kind=.normal)(hd:a.defers=[]){g:Δ}{es:Array Event}(h:υ P main (G (gA b a todo) (c::cs)) w=.go g w' es):υ P main (G (gA b a aa2) (c::cs)) w=.go g w' es:=by
 unfold gA G υ unwind doReturn at h ⊢;simp only[Ξ.at,hd,hn]at h ⊢;cases hf:P.funcs[b.fn]? with
 |none=>simpa[hf]using h
 |some fn=>
  cases hr:(results fn a.tmps).run P w with
  |ok v w2=>simpa[hf,hr]using h
  |halt hh w2=>cases hh<;>simp[hf,hr,GStep.after]at h
theorem aa.yD (hC:lp P F S){fn:Func}{b':Ξ}{a':Act}{ops:Array Oper}{i:Nat}{rest:List Nat}{kk:List Item}(hn:b.kind=.normal)(hd:a.defers=[])(hf:P.funcs[b.fn]?=some fn)
 (hr:(results fn a.tmps).run P w=.ok v w)(h:aa P S Ψ (b'.at (a'.put ((ops[i]?).bind (·.dst)) v) (.inRegion ops rest::kk)) cs w):aa P S Ψ (gA b a todo) (b'.at a' (.inRegion ops (i::rest)::kk)::cs) w:=
 aa.walk λρ W hS fK hcs _=>by
  refine af.step' rfl λaS hr1=>?_;have hS1:=hS.rely hr1;obtain⟨hv,es,hstep,iG⟩:=Ix (main:=true) (fr:=gA b a []) hC (PT hn hd ⟨fn,hf⟩ rfl) fK hS1 rfl hf hr (cv ρ (b'.at a' (.inRegion ops (i::rest)::kk))) (cs.map (cv ρ)++Ψ.bot);have rF:∀r,r<w.heap.size→ek ρ w.heap.size aS.heap.size r=ρ r:=λr hlt=>bg hlt;have e0:cv ρ (gA b a todo)=cv (ek ρ w.heap.size aS.heap.size) (gA b a todo):=eZ fK (λr hlt=>(rF r hlt).symm) (λ_=>rfl);have e1:cv ρ (b'.at a' (.inRegion ops (i::rest)::kk))=cv (ek ρ w.heap.size aS.heap.size) (b'.at a' (.inRegion ops (i::rest)::kk)):=eZ (hcs _ zaD) (λr hlt=>(rF r hlt).symm) (λ_=>rfl);have e2:cs.map (cv ρ)=cs.map (cv (ek ρ w.heap.size aS.heap.size)):=fw (λr hlt=>(rF r hlt).symm) (λ_=>rfl) λf hf=>hcs f (zaQ _ hf);have fU:(cv ρ (b'.at a' (.inRegion ops (i::rest)::kk))).finish (rv (ek ρ w.heap.size aS.heap.size) v)=cv (ek ρ w.heap.size aS.heap.size) (b'.at (a'.put ((ops[i]?).bind (·.dst)) v) (.inRegion ops rest::kk)):=by
   rw[e1,mP,mP,zcj,Hs]
  rw[fU]at hstep;refine⟨_,aS,es,by rw[e0,TH];exact Mf (a:=a.rn (ek ρ w.heap.size aS.heap.size)) [] todo hn hd hstep,⟨rfl,rfl,rfl,zac _,λ_ _ _=>rfl,λe he=>?_⟩,?_⟩
  ·have:=pE (ro:=Ψ.ro) (iG e he);rw[dN]at this;exact this.mono λb hb=> .inl hb
  ·rw[tX _ rfl,e2];exact af.co h hS1 (λx hx=>by rwa[dN]at hx) (OE.put (P:=P) (hcs _ zaD) _ hv) (λf hf=>hcs f (zaQ _ hf)) ⟨zac _,λr hr=>bg hr⟩
end
def DI (σ:List (Nat×Θ))(a:Act):Act:=σ.foldl (λa p=>a.put (some p.1) p.2) a
theorem agh (σ:List (Nat×Θ))(d:Nat)(v:Θ)(a:Act):DI (σ++[(d,v)]) a=(DI σ a).put (some d) v:=by simp[DI,List.foldl_append]
theorem af5 (t:Nat):∀(σ:List (Nat×Θ)) (a:Act),(∀p∈σ,p.1≠t)→(DI σ a).tmps.getD t ψ=a.tmps.getD t ψ
 |[],_,_=>rfl
 |p::σ,a,h=>by
  show(DI σ (a.put (some p.1) p.2)).tmps.getD t ψ=_;rw[af5 t σ _ λq hq=>h q (zaQ _ hq)];have hp:=h p zaD;simp only[ϋ,zbE];rw[zaA hp]
theorem put_comm (a:Act){d e:Nat}(h:d≠e)(u v:Θ):(a.put (some d) u).put (some e) v=(a.put (some e) v).put (some d) u:=by
 simp only[ϋ]
 congr 1
 exact Array.setIfInBounds_comm u v h
theorem afV (d:Nat)(v:Θ):∀(σ:List (Nat×Θ)) (a:Act),(∀p∈σ,p.1≠d)→(DI σ a).put (some d) v=DI σ (a.put (some d) v)
 |[],_,_=>rfl
 |p::σ,a,h=>by
  show(DI σ (a.put (some p.1) p.2)).put (some d) v=DI σ ((a.put (some d) v).put (some p.1) p.2);rw[afV d v σ _ λq hq=>h q (zaQ _ hq),put_comm a (h p zaD)]
section
variable {P:Λ}{F:η→Bool}{S:Sd}{Ψ:dn}{σ:List (Nat×Θ)}{b:Ξ}{a a':Act}{k k':List Item}{w W:Γ}{ρ:Rn}
def La (P:Λ)(S:Sd)(Ψ:dn)(b:Ξ)(σ:List (Nat×Θ))(a:Act)(k:List Item)(w:Γ):Prop:=
 ∀(ρ:Rn) (W:Γ) (gs:Array Δ) (sl:Option (Nat×Nat)) (t:ξ) (q:Nat→Nat) (Shun:Loc→Prop),ja P S ρ w W→OE P S w.heap.size a→
  gs[0]?=some (G (b.at (DI σ (a.rn ρ)) k) Ψ.bot)→π P t gs q→Past Shun W.heap.size t→NS Shun Ψ.ro (Touch S.d ρ w) W→X8 Ψ W→(∀x,Touch S.d ρ w x→Ψ.base.heap.size≤x∨Ψ.mine x)→SL Ψ.n0 Ψ.r0 w ρ→SL Ψ.an Ψ.ar w ρ→Reach P (ω gs W sl) t Ψ.at_
def agi (P:Λ)(S:Sd)(Good:List (Nat×Θ)→Act→List Item→Γ→Prop)(b:Ξ)(bot:List Ξ)(n0:Nat)(r0:Rn)(own:Nat→Prop)(g:Δ)(W:Γ):Prop:=
 ∃σ a k w ρ,Good σ a k w∧ja P S ρ w W∧(∀x,Touch S.d ρ w x→own x)∧g=G (b.at (DI σ (a.rn ρ)) k) bot∧OE P S w.heap.size a∧SL n0 r0 w ρ
theorem afX {ρ ρ':Rn}(hc:OE P S n a)(hb:∀r,r<n→ρ r=ρ' r)(hf:∀x,ρ.f x=ρ'.f x):a.rn ρ=a.rn ρ':=by
 unfold Act.rn;rw[et λv hv=>agree (σ:=sg S S.d n) (λr hr=>hb r (bY.1 hr).2) (λx _=>hf x) v (hc v hv)]
theorem af.jo {main:Bool}{ro own:Nat→Prop}{Good:List (Nat×Θ)→Act→List Item→Γ→Prop}{bot:List Ξ}(hG:Good σ a k w)(hS:ja P S ρ w W)(hown:∀x,Touch S.d ρ w x→own x)(hc:OE P S w.heap.size a)(h0:SL n0 r0 w ρ):af P main ro (agi P S Good b bot n0 r0) own (G (b.at (DI σ (a.rn ρ)) k) bot) W:=by
 refine .stop λaS hr=>⟨σ,a,k,w,ek ρ w.heap.size aS.heap.size,hG,hS.grow hr.size λx hx=>hr.block x (.inl (hown x hx)),λx hx=>hown x (by rwa[dN]at hx),?_,hc,⟨h0.size,λr hr=>by rw[bg (zaI hr h0.size)];exact h0.same r hr⟩⟩;rw[afX hc (ρ:=ρ) (ρ':=ek ρ w.heap.size aS.heap.size) (λr hlt=>(bg hlt).symm) (λ_=>rfl)]
theorem La.walk (h:∀ρ W,ja P S ρ w W→OE P S w.heap.size a→qc Ψ.ro (Touch S.d ρ w) W→X8 Ψ W→af P true Ψ.ro (agi P S (La P S Ψ b) b Ψ.bot w.heap.size ρ) (Touch S.d ρ w) (G (b.at (DI σ (a.rn ρ)) k) Ψ.bot) W):La P S Ψ b σ a k w:=by
 intro ρ W gs sl t q Shun hS hc h0 hL hP hN hO hT wH Ar;refine(CJ (h ρ W hS hc ⟨λb hb=>hb.elim (hN.WC b) (hN.JW b),λb hb ht=>(hT b ht).elim (λh1=>by have:=(Ψ.aao b hb).1;omega) λ⟨r,h1,h2,e⟩=>(Ψ.aao b hb).2 r h1 h2 e⟩ hO) W (cq.refl _ _ _) gs sl t q h0 hL hP hN).bind ?_;rintro m t' ⟨gs',own',a',w',sl',q',rfl,_,Au,hst,hL',hP',hN',_,Ej,hK⟩;obtain⟨σ2,a2,k2,w2,Hr,hG,Oq,hown,rfl,hc2,hon⟩:=hst w' (cq.refl _ _ _);have hsz:=hO.size;exact hG Hr w' gs' sl' t' q' Shun Oq hc2 Au hL' hP' (hN'.sub hown)
  ⟨hK.tape.trans hO.tape,hK.os.trans hO.os,hK.output.trans hO.output,zag hsz hK.size,λb hb hm=>(hK.block b (by omega) λht=>(hT b ht).elim (λh=>by omega) hm).trans (hO.block b hb hm)⟩
  (λx hx=>(Ej x (hown x hx)).elim (hT x) λe=> .inl (by omega)) ⟨zag wH.size hon.size,λr hr=>(hon.same r (zaI hr wH.size)).trans (wH.same r hr)⟩ ⟨zag Ar.size hon.size,λr hr=>(hon.same r (zaI hr Ar.size)).trans (Ar.same r hr)⟩
end
section
variable {P:Λ}{F:η→Bool}{S:Sd}{Ψ:dn}{σ:List (Nat×Θ)}{b:Ξ}{a a':Act}{k k':List Item}{w W:Γ}{ρ:Rn}
theorem af1 (h:xM σ x=true)(a:Act):(DI σ a).eval x=a.eval x:=by
 cases x with
 |tmp t=>exact af5 t σ a (ua h)
 |_=>rfl
theorem La.ctl (hst:∀(a:Act) (cs:List Ξ) W,υ P true (G (b.at a k) cs) W=.go (G (b.at a k') cs) W #[])(h:La P S Ψ b σ a k' w):La P S Ψ b σ a k w:=
 La.walk λ_ _ hS hc _ _=>af.silent rfl (λaS=>hst _ _ aS) (af.jo h hS (λ_ h=>h) hc (SL.refl _ _))
theorem La.seq {x y:Code}(h:La P S Ψ b σ a (.code x::.code y::k) w):La P S Ψ b σ a (.code (.seq x y)::k) w:=La.ctl (λ_ _ _=>zaV) h
theorem La.skip (h:La P S Ψ b σ a k w):La P S Ψ b σ a (.code .skip::k) w:=La.ctl (λ_ _ _=>stepG_skip) h
theorem La.inBlock {id:Nat}(h:La P S Ψ b σ a k w):La P S Ψ b σ a (.inBlock id::k) w:=La.ctl (λ_ _ _=>stepG_inBlock) h
theorem La.block {id:Nat}(h:La P S Ψ b σ a (.code c::.inBlock id::k) w):La P S Ψ b σ a (.code (.block id c)::k) w:=La.ctl (λ_ _ _=>stepG_block) h
theorem La.loop (h:La P S Ψ b σ a (.code c::.inLoop c::k) w):La P S Ψ b σ a (.code (.loop c)::k) w:=La.ctl (λ_ _ _=>stepG_loop) h
theorem La.inLoop (h:La P S Ψ b σ a (.code c::.inLoop c::k) w):La P S Ψ b σ a (.inLoop c::k) w:=La.ctl (λ_ _ _=>stepG_inLoop) h
theorem La.exit {id:Nat}{k':List Item}(he:exitTo id k=some k')(h:La P S Ψ b σ a k' w):La P S Ψ b σ a (.code (.exit id)::k) w:=La.ctl (λ_ _ _=>stepG_exit he) h
theorem La.region {id:Nat}{ops:Array Oper}(h:La P S Ψ b σ a (.inRegion ops (List.range ops.size)::k) w):La P S Ψ b σ a (.code (.region id ops false)::k) w:=La.ctl (λ_ _ _=>zaW) h
theorem La.cond {c:χ}{x y:Code}{t:Bool}(hj:xM σ c=true)(hc:a.eval c=.bool t)(h:La P S Ψ b σ a (.code (if t then x else y)::k) w):La P S Ψ b σ a (.code (.cond c x y)::k) w:=
 La.walk λρ W hS fK _ _=>af.silent rfl (λ_=>stepG_cond (by rw[af1 hj];exact CM hc)) (af.jo h hS (λ_ h=>h) fK (SL.refl _ _))
section
variable {ops:Array Oper}{i:Nat}{rest:List Nat}{o:Oper}{kk:List Item}
theorem La.JU (hC:lp P F S)(cG:fo P F S o.op=true)(ho:ops[i]?=some o)(hw:∀ρ,Φ o (φ ops (DI σ (a.rn ρ)).tmps)=true)(hk:b.kind≠.early)(aht:∀cs b,o.op≠.select cs b)(hj:o.op.operands.all (xM σ)=true){d:Tmp}(hd:o.dst=some d)(hjd:xM σ (.tmp d)=true)
 (h:∀τ d',∃v w',(Ω a.eval o).run P (w.re τ d')=.ok (.value v) w'∧La P S Ψ b σ (a.put (some d) v) (.inRegion ops rest::kk) w'):La P S Ψ b σ a (.inRegion ops (i::rest)::kk) w:=
 La.walk λρ W hS hca hR _=>by
  have hx:Ω (DI σ (a.rn ρ)).eval o=Ω (fL λt=>rv ρ (a.tmps.getD t ψ)) o:=execOp_congr o aht λx hx=>by
   rw[af1 (zcd.1 hj x hx),CK]
  refine af.JU (a:=DI σ (a.rn ρ)) (b:=b) (T:=λt=>a.tmps.getD t ψ) hC cG ho (hw ρ) hk (λt=>hca.get t) hS (λ_ h=>h) hx (by rw[←pF];exact h) (λv w' ρ' W' own' hq TE rF hsz fK hown _ _ _=>?_) hR;have e:a.rn ρ=a.rn ρ':=afX hca (λr hr=>(rF r hr).symm) (λx=>(Er hS TE x).symm);rw[hd,e,afV d _ σ _ (ua hjd),Hs];exact af.jo hq TE hown (OE.put (P:=P) (λx hx=>eY (dY hsz).1 (dY hsz).2 x (hca x hx)) (some d) fK) ⟨hsz,rF⟩
theorem La.raw (ho:ops[i]?=some o)(hw:∀ρ,Φ o (φ ops (DI σ (a.rn ρ)).tmps)=true)(hk:b.kind≠.early)(hrun:∀ρ W,(Ω (DI σ (a.rn ρ)).eval o).run P W=.ok (.value X) W)(iG:∀ρ W,(Ω (DI σ (a.rn ρ)).eval o).events P W #[]=#[]){d:Tmp}(hd:o.dst=some d)
 (h:La P S Ψ b (σ++[(d,X)]) a (.inRegion ops rest::kk) w):La P S Ψ b σ a (.inRegion ops (i::rest)::kk) w:=
 La.walk λρ W hS hca _ _=>by
  refine af.step' rfl λaS hr=>⟨_,aS,_,stepG_value ho (hw ρ) hk (hrun ρ aS),⟨rfl,rfl,rfl,zac _,λ_ _ _=>rfl,λe he=>?_⟩,?_⟩
  ·unfold listed at he;rw[iG ρ aS]at he;have:=mem_seen he;simp at this
  ·rw[tX _ rfl,hd,←agh];exact(af.jo h hS (λ_ h=>h) hca (SL.refl _ _)).rely hr
theorem La.bare (ho:ops[i]?=some o)(hw:∀ρ,Φ o (φ ops (DI σ (a.rn ρ)).tmps)=true)(hk:b.kind≠.early)(hX:∀ρ,rv ρ X=X)(hrun:∀ρ W,(Ω (DI σ (a.rn ρ)).eval o).run P W=.ok (.value X) W)(iG:∀ρ W,(Ω (DI σ (a.rn ρ)).eval o).events P W #[]=#[]){d:Tmp}(hd:o.dst=some d)(hjd:xM σ (.tmp d)=true)
 (h:La P S Ψ b σ (a.put (some d) X) (.inRegion ops rest::kk) w):La P S Ψ b σ a (.inRegion ops (i::rest)::kk) w:=
 La.walk λρ W hS hca _ _=>by
  refine af.step' rfl λaS hr=>⟨_,aS,_,stepG_value ho (hw ρ) hk (hrun ρ aS),⟨rfl,rfl,rfl,zac _,λ_ _ _=>rfl,λe he=>?_⟩,?_⟩
  ·unfold listed at he;rw[iG ρ aS]at he;have:=mem_seen he;simp at this
  ·have e:(DI σ (a.rn ρ)).put (some d) X=DI σ ((a.put (some d) X).rn ρ):=by
    rw[afV d X σ _ (ua hjd),←Hs,hX]
   rw[tX _ rfl,hd,e];exact(af.jo h hS (λ_ h=>h) (OE.put (P:=P) hca (some d) (hX _)) (SL.refl _ _)).rely hr
theorem La.load (ho:ops[i]?=some o)(hw:∀ρ,Φ o (φ ops (DI σ (a.rn ρ)).tmps)=true)(hk:b.kind≠.early)(hop:o.op=.load e x)(hx:∀ρ,(DI σ (a.rn ρ)).eval x=.pointer (some ad))(hr:Ψ.ro ad.block)(hv:Ψ.base.cell? ad=some v)(hX:∀ρ,rv ρ v=v)
 (hl:∀(w:Γ),w.cell? ad=some v→(ι e (.pointer (some ad))).run P w=.ok v w∧∀ev∈(ι e (.pointer (some ad))).events P w #[],ev.loc=.cell ad∧ev.write=false){d:Tmp}(hd:o.dst=some d)(hjd:xM σ (.tmp d)=true)
 (h:La P S Ψ b σ (a.put (some d) v) (.inRegion ops rest::kk) w):La P S Ψ b σ a (.inRegion ops (i::rest)::kk) w:=
 La.walk λρ W hS hca _ hO=>by
  have hold:=Ψ.aao _ hr;have hc:W.cell? ad=some v:=by
   rw[←hv];unfold Γ.cell?
   rw[hO.block _ hold.1 λ⟨r,h1,h2,e⟩=>hold.2 r h1 h2 e]
  refine af.Ib ho (hw ρ) hk hd hop (hx ρ) hr hc hl ?_;have e:(DI σ (a.rn ρ)).put (some d) v=DI σ ((a.put (some d) v).rn ρ):=by
   rw[afV d v σ _ (ua hjd),←Hs,hX]
  rw[e];exact af.jo h hS (λ_ h=>h) (OE.put (P:=P) hca (some d) (hX _)) (SL.refl _ _)
end
end
theorem af3:∀(σ:List (Nat×Θ)) (a:Act),DI σ a=⟨JY σ a.tmps,a.defers⟩
 |[],_=>rfl
 |p::σ,a=>af3 σ (a.put (some p.1) p.2)
section
variable {P:Λ}{F:η→Bool}{S:Sd}{Ψ:dn}{σ:List (Nat×Θ)}{w:Γ}{b:Ξ}{a:Act}{k:List Item}
def CoF (P:Λ)(S:Sd)(Ψ:dn)(fr:Act→Ξ)(a:Act)(w:Γ):Prop:=
 ∀(ρ:Rn) (W:Γ) (gs:Array Δ) (sl:Option (Nat×Nat)) (t:ξ) (q:Nat→Nat) (Shun:Loc→Prop),ja P S ρ w W→OE P S w.heap.size a→
  gs[0]?=some (G (fr (a.rn ρ)) Ψ.bot)→π P t gs q→Past Shun W.heap.size t→NS Shun Ψ.ro (Touch S.d ρ w) W→X8 Ψ W→(∀x,Touch S.d ρ w x→Ψ.base.heap.size≤x∨Ψ.mine x)→SL Ψ.n0 Ψ.r0 w ρ→SL Ψ.an Ψ.ar w ρ→Reach P (ω gs W sl) t Ψ.at_
def CoO (P:Λ)(S:Sd)(Ψ:dn)(b:Ξ)(σ:List (Nat×Θ))(a:Act)(k:List Item)(w:Γ):Prop:=CoF P S Ψ (λA=>gA b (DI σ A) k) a w
theorem CoF.re (h:CoF P S Ψ fr a w)(e:w'.heap=w.heap):CoF P S Ψ fr a w':=by
 intro ρ W gs sl t q Shun hS hc h0 hL hP hN hO hT wH Ar;have TE:ja P S ρ w W:=hS.acI e.symm;have ht:Touch S.d ρ w'=Touch S.d ρ w:=by unfold Touch;rw[e]
 rw[e]at hc;rw[ht]at hN hT;exact h ρ W gs sl t q Shun TE hc h0 hL hP hN hO hT ⟨by have:=wH.size;rwa[e]at this,wH.same⟩ ⟨by have:=Ar.size;rwa[e]at this,Ar.same⟩
theorem La.re (h:La P S Ψ b σ a k w)(e:w'.heap=w.heap):La P S Ψ b σ a k w':=CoF.re (fr:=λA=>b.at (DI σ A) k) h e
theorem CoO.re (h:CoO P S Ψ b σ a k w)(e:w'.heap=w.heap):CoO P S Ψ b σ a k w':=CoF.re (fr:=λA=>gA b (DI σ A) k) h e
def ag1 (P:Λ)(S:Sd)(Good:(Act→Ξ)→Act→Γ→Prop)(bot:List Ξ)(n0:Nat)(r0:Rn)(own:Nat→Prop)(g:Δ)(W:Γ):Prop:=
 ∃fr a w ρ,Good fr a w∧ja P S ρ w W∧(∀x,Touch S.d ρ w x→own x)∧g=G (fr (a.rn ρ)) bot∧OE P S w.heap.size a∧SL n0 r0 w ρ
theorem af.fo {W:Γ}{ρ:Rn}{main:Bool}{ro own:Nat→Prop}{Good:(Act→Ξ)→Act→Γ→Prop}{bot:List Ξ}(hG:Good fr a w)(hS:ja P S ρ w W)(hown:∀x,Touch S.d ρ w x→own x)(hc:OE P S w.heap.size a)(h0:SL n0 r0 w ρ):af P main ro (ag1 P S Good bot n0 r0) own (G (fr (a.rn ρ)) bot) W:=by
 refine .stop λaS hr=>⟨fr,a,w,ek ρ w.heap.size aS.heap.size,hG,hS.grow hr.size λx hx=>hr.block x (.inl (hown x hx)),λx hx=>hown x (by rwa[dN]at hx),?_,hc,⟨h0.size,λr hr=>by rw[bg (zaI hr h0.size)];exact h0.same r hr⟩⟩;rw[afX hc (ρ:=ρ) (ρ':=ek ρ w.heap.size aS.heap.size) (λr hlt=>(bg hlt).symm) (λ_=>rfl)]
theorem CoF.walk (h:∀ρ W,ja P S ρ w W→OE P S w.heap.size a→qc Ψ.ro (Touch S.d ρ w) W→X8 Ψ W→af P true Ψ.ro (ag1 P S (CoF P S Ψ) Ψ.bot w.heap.size ρ) (Touch S.d ρ w) (G (fr (a.rn ρ)) Ψ.bot) W):CoF P S Ψ fr a w:=by
 intro ρ W gs sl t q Shun hS hc h0 hL hP hN hO hT wH Ar;refine(CJ (h ρ W hS hc ⟨λb hb=>hb.elim (hN.WC b) (hN.JW b),λb hb ht=>(hT b ht).elim (λh1=>by have:=(Ψ.aao b hb).1;omega) λ⟨r,h1,h2,e⟩=>(Ψ.aao b hb).2 r h1 h2 e⟩ hO) W (cq.refl _ _ _) gs sl t q h0 hL hP hN).bind ?_;rintro m t' ⟨gs',own',a',w',sl',q',rfl,_,Au,hst,hL',hP',hN',_,Ej,hK⟩;obtain⟨fr2,a2,w2,Hr,hG,Oq,hown,rfl,hc2,hon⟩:=hst w' (cq.refl _ _ _);have hsz:=hO.size;exact hG Hr w' gs' sl' t' q' Shun Oq hc2 Au hL' hP' (hN'.sub hown)
  ⟨hK.tape.trans hO.tape,hK.os.trans hO.os,hK.output.trans hO.output,zag hsz hK.size,λb hb hm=>(hK.block b (by omega) λht=>(hT b ht).elim (λh=>by omega) hm).trans (hO.block b hb hm)⟩
  (λx hx=>(Ej x (hown x hx)).elim (hT x) λe=> .inl (by omega)) ⟨zag wH.size hon.size,λr hr=>(hon.same r (zaI hr wH.size)).trans (wH.same r hr)⟩ ⟨zag Ar.size hon.size,λr hr=>(hon.same r (zaI hr Ar.size)).trans (Ar.same r hr)⟩
def af9 (P:Λ)(S:Sd)(Ψ:dn)(b:Ξ)(σ:List (Nat×Θ))(k:List Item)(f:Ξ)(ab:List Ξ)(w:Γ):Prop:=
 ab=[]∧((Lx f []∧La P S Ψ b σ ⟨f.tmps,f.defers⟩ k w)∨(f.mode=.returning∧∀todo,CoO P S Ψ b σ ⟨f.tmps,f.defers⟩ todo w))
theorem La.item (hC:lp P F S){x:Item}(cG:aF P F S x=true)(hj:ft σ x=true)(hk:b.kind=.normal)(hfn:∃f,P.funcs[b.fn]?=some f)(hd:a.defers=[])
 (h:∀τ,(∃a' w',La P S Ψ b σ a' k w'∧Steps P (Go.lone (b.at a [x,qg]) [c0 P] (w.re τ 0)) (Go.lone (b.at a' [qg]) [c0 P] w'))∨∃a' w' todo,(∀todo,CoO P S Ψ b σ a' todo w')∧Steps P (Go.lone (b.at a [x,qg]) [c0 P] (w.re τ 0)) (Go.lone { b.at a' todo with mode:= .returning } [c0 P] w')):La P S Ψ b σ a (x::k) w:=
 CoF.walk (fr:=λA=>b.at (DI σ A) (x::k)) λρ W hS hc _ _=>by
  have hI:PI P F S (b.at a [x,qg]) [] w:=⟨⟨hd,.inl rfl,hk,rfl,by show[x,qg].all _=true;simp only[zap,List.all_nil,cG,zbI,zbZ];rfl,hfn⟩,by simp,hc,by simp,hS.self⟩;have hT:∀τ:Tp,∃n f a1 w',mO P n (b.at a [x,qg]) [] (w.re τ 0) f a1 w'∧af9 P S Ψ b σ k f a1 w':=λτ=>by
   rcases h τ with⟨a',w',hK,n,hn⟩|⟨a',w',todo,hK,n,hn⟩
   ·obtain⟨m,hm⟩:=qA hC n _ [] (w.re τ 0) _ w' (hI.re τ 0) hn (λch e=>by cases e);exact⟨m,_,[],w',hm,rfl,.inl ⟨⟨rfl,rfl⟩,hK⟩⟩
   ·obtain⟨m,hm⟩:=qA hC n _ [] (w.re τ 0) _ w' (hI.re τ 0) hn (λch e=>by cases e);exact⟨m,_,[],w',hm,rfl,.inr ⟨rfl,hK⟩⟩
  have X1:=uT (Q:=af9 P S Ψ b σ k) hC (λf a1 w τ d _ hx=>⟨hx.1,hx.2.imp (λq=>⟨q.1,q.2.re rfl⟩) λq=>⟨q.1,λtodo=>(q.2 todo).re rfl⟩⟩) hI hT;have key:=Ez (σ:=σ) (k:=k) (fn0:=b.fn) (main:=true) (ro:=Ψ.ro) (cs:=Ψ.bot) hC (λf a1 w' hx=>⟨hx.1,hx.2.imp (·.1) (·.1)⟩) X1 hI ⟨rfl,.inr ⟨[x],⟨rfl,rfl⟩,by simp[hj]⟩⟩ ρ w.heap.size ρ W hS (zac _) (λ_ _=>rfl);have e0:eN σ k (cv ρ (b.at a [x,qg]))=b.at (DI σ (a.rn ρ)) (x::k):=by rw[af3];rfl
  have key:af P true Ψ.ro (Yb P F S (af9 P S Ψ b σ k) σ k b.fn Ψ.bot ρ w.heap.size) (Touch S.d ρ w) (G (b.at (DI σ (a.rn ρ)) (x::k)) Ψ.bot) W:=by rw[←e0];exact key
  refine af.bind key λown g W' hst=>?_;obtain⟨J0,w1,xO,hb1,Lr,aat,A9,hS1,rfl,rfl,hn,rF⟩:=hst;have acQ:af9 P S Ψ b σ k J0 [] w1:=by
   cases aat with
   |stop hx=>exact hx
   |step nf na nw ne h1 h2=>
    exfalso;have hr:=h1 w1.tape 0;rcases hb1 with hb1|hb1
    ·obtain⟨fn0,tmps,todo,defers,mode,kind,oc⟩:=J0;obtain⟨ht,hm⟩:=hb1;simp only[zbm]at ht hm;subst ht hm;simp[ba,stuck]at hr
    ·exact OJ (by rw[hb1];simp) hr
  rcases acQ.2 with⟨OL,hK⟩|⟨aau,hK⟩
  ·have efr:eN σ k (cv xO J0)=b.at (DI σ ((⟨J0.tmps,J0.defers⟩:Act).rn xO)) k:=by
    rw[af3];obtain⟨fn0,tmps,todo,defers,mode,kind,oc⟩:=J0;obtain⟨ht,hm⟩:=OL;have h3:kind=.normal:=A9.ok.kind;have h4:oc=none:=A9.ok.round;simp only[zbm]at ht hm Lr;subst ht hm h3 h4 Lr;simp[eN,Ξ.at,hk,cv,Act.rn]
   rw[efr];exact af.fo (fr:=λA=>b.at (DI σ A) k) hK hS1 (λ_ h=>h) A9.cl ⟨hn,rF⟩
  ·have efr:eN σ k (cv xO J0)=gA b (DI σ ((⟨J0.tmps,J0.defers⟩:Act).rn xO)) (J0.todo.dropLast++k):=by
    rw[af3];obtain⟨fn0,tmps,todo,defers,mode,kind,oc⟩:=J0;have h3:kind=.normal:=A9.ok.kind;have h4:oc=none:=A9.ok.round;simp only at aau Lr;subst aau h3 h4 Lr;simp[eN,gA,Ξ.at,hk,cv,Act.rn]
   rw[efr];exact af.fo (fr:=λA=>gA b (DI σ A) (J0.todo.dropLast++k)) (hK _) hS1 (λ_ h=>h) A9.cl ⟨hn,rF⟩
def agx (P:Λ)(S:Sd)(Ψ:dn)(b:Ξ)(σ:List (Nat×Θ))(k:List Item):Exit→Act→Γ→Prop
 |.normal,a,w=>La P S Ψ b σ a k w
 |.ret,a,w=>∀todo,CoO P S Ψ b σ a todo w
 |_,_,_=>False
theorem La.code (hC:lp P F S)(cG:bB P F S c=true)(hj:kO σ c=true)(hk:b.kind=.normal)(hfn:∃f,P.funcs[b.fn]?=some f)(hd:a.defers=[])
 (h:∀τ d,c.wp P (agx P S Ψ b σ k) a (w.re τ d)):La P S Ψ b σ a (.code c::k) w:=
 La.item hC cG hj hk hfn hd λτ=>by
  obtain⟨e,a',w',hK,qY⟩:=h τ 0 b [qg] [c0 P];cases e with
  |normal=>exact .inl ⟨a',w',hK,qY⟩
  |ret=>obtain⟨todo,hs⟩:=qY;exact .inr ⟨a',w',todo,hK,hs⟩
  |_=>exact hK.elim
theorem La.ops (hC:lp P F S){ops:Array Oper}(hk:b.kind=.normal)(hfn:∃f,P.funcs[b.fn]?=some f)(hd:a.defers=[]){l:List Nat}(cG:(l.all λi=>(ops[i]?).all λo=>fo P F S o.op)=true)(hj:(l.all λi=>(ops[i]?).all (su σ ops))=true)(i:Nat)(rest:List Oper)(hl:l=List.range' i rest.length)(hr:∀j,rest[j]?=ops[i+j]?)
 (h:∀τ d,wpList P ops (agx P S Ψ b σ k) rest a (w.re τ d)):La P S Ψ b σ a (.inRegion ops l::k) w:=
 La.item hC cG hj hk hfn hd λτ=>by
  have h0:=h τ 0;rw[←wpOps_eq_wpList rest i hr,←hl]at h0;obtain⟨e,a',w',hK,qY⟩:=wp_ops l a (w.re τ 0) h0 b [qg] [c0 P];cases e with
  |normal=>exact .inl ⟨a',w',hK,qY⟩
  |ret=>obtain⟨todo,hs⟩:=qY;exact .inr ⟨a',w',todo,hK,hs⟩
  |_=>exact hK.elim
end
def dn.under (Ψ:dn)(F:Ξ)(n:Nat)(ρ:Rn):dn:={ Ψ with bot:=F::Ψ.bot,an:=n,ar:=ρ }
section
variable {P:Λ}{F:η→Bool}{S:Sd}{Ψ:dn}{σ:List (Nat×Θ)}{b:Ξ}{a:Act}{w:Γ}{ops:Array Oper}{i:Nat}{rest:List Nat}{o:Oper}{kk:List Item}
theorem La.call (ho:ops[i]?=some o)(hw:∀ρ,Φ o (φ ops (DI σ (a.rn ρ)).tmps)=true)(hk:b.kind≠.early)(hop:o.op=.call { callee:= .value (.func f),args:=xs,argTypes:=ats })
 (vL:(P.funcs[f]?).any (λfn=>fn.body.isSome)=true)(OG:(P.funcs[f]?).any (λfn=>fn.name != "runtime.NumGoroutine")=true)(hx:xs.all (gD S)=true)(hj:xs.all (xM σ)=true)
 (h:∀ρ:Rn,(∀x,ρ.f x=x)→Ψ.an≤w.heap.size→(∀r,r<Ψ.an→ρ r=Ψ.ar r)→OE P S w.heap.size a→aa P S (Ψ.under (b.at (DI σ (a.rn ρ)) (.inRegion ops (i::rest)::kk)) w.heap.size ρ) (Ξ.enter P f (xs.map a.eval) .normal) [] w):La P S Ψ b σ a (.inRegion ops (i::rest)::kk) w:=by
 intro ρ W gs sl t q Shun hS hc h0 hL hP hN hO hT wH Ar;have abg:xs.map (DI σ (a.rn ρ)).eval=(xs.map a.eval).map (rv ρ):=by
  rw[←TJ hS.fix hx];exact Array.map_congr_left λx hm=>af1 (zcd.1 hj x hm) _
 have hW:af P true Ψ.ro (OD P S (aa P S (Ψ.under (b.at (DI σ (a.rn ρ)) (.inRegion ops (i::rest)::kk)) w.heap.size ρ)) (b.at (DI σ (a.rn ρ)) (.inRegion ops (i::rest)::kk)::Ψ.bot) w.heap.size ρ) (Touch S.d ρ w) (G (b.at (DI σ (a.rn ρ)) (.inRegion ops (i::rest)::kk)) Ψ.bot) W:=by
  refine af.silent rfl (λaS=>?_) (af.co (h ρ hS.f Ar.size Ar.same hc) hS (λ_ h=>h) (Eu (TK (P:=P) hS.wr.big.g hc hx)) (λf hf=>by cases hf) (SL.refl _ _));rw[←il,←abg];exact Et ho (hw ρ) hk hop vL OG
 refine(CJ hW W (cq.refl _ _ _) gs sl t q h0 hL hP hN).bind ?_;rintro m t' ⟨gs',own',a',w',sl',q',rfl,_,Au,hst,hL',hP',hN',_,Ej,hK⟩;obtain⟨fr2,cs2,w2,Hr,hG,Oq,hown,rfl,hc2,acN,hon⟩:=hst w' (cq.refl _ _ _);have hsz:=hO.size;exact hG Hr w' gs' sl' t' q' Shun Oq hc2 acN Au hL' hP' (hN'.sub hown)
  ⟨hK.tape.trans hO.tape,hK.os.trans hO.os,hK.output.trans hO.output,zag hsz hK.size,λb hb hm=>(hK.block b (by have:b<Ψ.base.heap.size:=hb;omega) λht=>(hT b ht).elim (λh=>by have:b<Ψ.base.heap.size:=hb;omega) hm).trans (hO.block b hb hm)⟩
  (λx hx=>(Ej x (hown x hx)).elim (hT x) λe=> .inl (by show Ψ.base.heap.size≤x;omega)) ⟨zag wH.size hon.size,λr hr=>(hon.same r (zaI hr wH.size)).trans (wH.same r hr)⟩ hon
theorem aa.ag5 (hC:lp P F S){fn:Func}{b0:Ξ}{a0:Act}(hn:b0.kind=.normal)(hd:a0.defers=[])(hf:P.funcs[b0.fn]?=some fn)(hr:(results fn a0.tmps).run P w=.ok v w)
 (fK:OE P S n a){d:Tmp}(agy:(ops[i]?).bind (·.dst)=some d)(hjd:xM σ (.tmp d)=true)(Ai:∀x,r0.f x=x)(ha1:Ψ.an≤n)(ha2:∀r,r<Ψ.an→r0 r=Ψ.ar r)
 (h:La P S Ψ b σ (a.put (some d) v) (.inRegion ops rest::kk) w):aa P S (Ψ.under (b.at (DI σ (a.rn r0)) (.inRegion ops (i::rest)::kk)) n r0) (gA b0 a0 todo) [] w:=by
 intro ρ W gs sl t q Shun hS hc hcs h0 hL hP hN hO hT wH Ar;have Ar:SL n r0 w ρ:=Ar;have hO:X8 Ψ W:=⟨hO.tape,hO.os,hO.output,hO.size,hO.block⟩;have hT:∀x,Touch S.d ρ w x→Ψ.base.heap.size≤x∨Ψ.mine x:=hT;have wH:SL Ψ.n0 Ψ.r0 w ρ:=wH;have hN:NS Shun Ψ.ro (Touch S.d ρ w) W:=hN;have agn:SL Ψ.an Ψ.ar w ρ:=⟨zag ha1 Ar.size,λr hr=>(Ar.same r (zaI hr ha1)).trans (ha2 r hr)⟩;have agP:OE P S w.heap.size a:=λx hx=>eY (dY Ar.size).1 (dY Ar.size).2 x (fK x hx);have hrn:a.rn r0=a.rn ρ:=afX fK (λr hr=>(Ar.same r hr).symm) (λx=>by rw[Ai,hS.f]);have hW:af P true Ψ.ro (agi P S (La P S Ψ b) b Ψ.bot w.heap.size ρ) (Touch S.d ρ w) (G (cv ρ (gA b0 a0 todo)) (b.at (DI σ (a.rn r0)) (.inRegion ops (i::rest)::kk)::Ψ.bot)) W:=by
  refine af.step' rfl λaS hr1=>?_;have hS1:=hS.rely hr1;obtain⟨hv,es,hstep,iG⟩:=Ix (main:=true) (fr:=gA b0 a0 []) hC (PT hn hd ⟨fn,hf⟩ rfl) hc hS1 rfl hf hr (b.at (DI σ (a.rn r0)) (.inRegion ops (i::rest)::kk)) Ψ.bot;have rF:∀r,r<w.heap.size→ek ρ w.heap.size aS.heap.size r=ρ r:=λr hlt=>bg hlt;have e0:cv ρ (gA b0 a0 todo)=cv (ek ρ w.heap.size aS.heap.size) (gA b0 a0 todo):=eZ hc (λr hlt=>(rF r hlt).symm) (λ_=>rfl);have e1:a.rn r0=a.rn (ek ρ w.heap.size aS.heap.size):=hrn.trans (afX agP (λr hr=>(rF r hr).symm) (λ_=>rfl));have fU:(b.at (DI σ (a.rn r0)) (.inRegion ops (i::rest)::kk)).finish (rv (ek ρ w.heap.size aS.heap.size) v)=b.at (DI σ ((a.put (some d) v).rn (ek ρ w.heap.size aS.heap.size))) (.inRegion ops rest::kk):=by
   rw[zcj,agy,e1,afV d _ σ _ (ua hjd),Hs]
  rw[fU]at hstep;refine⟨_,aS,es,by rw[e0,TH];exact Mf (a:=a0.rn (ek ρ w.heap.size aS.heap.size)) [] todo hn hd hstep,⟨rfl,rfl,rfl,zac _,λ_ _ _=>rfl,λe he=>?_⟩,?_⟩
  ·have:=pE (ro:=Ψ.ro) (iG e he);rw[dN]at this;exact this.mono λb hb=> .inl hb
  ·rw[tX _ rfl];exact af.jo h hS1 (λx hx=>by rwa[dN]at hx) (OE.put (P:=P) agP (some d) hv) ⟨zac _,λr hr=>bg hr⟩
 refine(CJ hW W (cq.refl _ _ _) gs sl t q h0 hL hP hN).bind ?_;rintro m t' ⟨gs',own',a',w',sl',q',rfl,_,Au,hst,hL',hP',hN',_,Ej,hK⟩;obtain⟨σ2,a2,k2,w2,Hr,hG,Oq,hown,rfl,hc2,hon⟩:=hst w' (cq.refl _ _ _);have hsz:=hO.size;exact hG Hr w' gs' sl' t' q' Shun Oq hc2 Au hL' hP' (hN'.sub hown)
  ⟨hK.tape.trans hO.tape,hK.os.trans hO.os,hK.output.trans hO.output,zag hsz hK.size,λb hb hm=>(hK.block b (by omega) λht=>(hT b ht).elim (λh=>by omega) hm).trans (hO.block b hb hm)⟩
  (λx hx=>(Ej x (hown x hx)).elim (hT x) λe=> .inl (by omega)) ⟨zag wH.size hon.size,λr hr=>(hon.same r (zaI hr wH.size)).trans (wH.same r hr)⟩ ⟨zag agn.size hon.size,λr hr=>(hon.same r (zaI hr agn.size)).trans (agn.same r hr)⟩
end
section
variable {P:Λ}{F:η→Bool}{S:Sd}{Ψ:dn}{σ:List (Nat×Θ)}{b:Ξ}{a:Act}{w:Γ}{ops:Array Oper}{i:Nat}{rest:List Nat}{o:Oper}{kk:List Item}
theorem La.ahe (ho:ops[i]?=some o)(hw:∀ρ,Φ o (φ ops (DI σ (a.rn ρ)).tmps)=true)(hk:b.kind≠.early)(hop:o.op=.call { callee:= .value (.func f),args:=xs,argTypes:=ats })
 (vL:(P.funcs[f]?).any (λfn=>fn.body.isSome)=true)(OG:(P.funcs[f]?).any (λfn=>fn.name != "runtime.NumGoroutine")=true){b':Ξ}{Oc:List (Nat×Θ)}{a':Act}{k':List Item}(ag6:∀ρ,Ξ.enter P f (xs.map (DI σ (a.rn ρ)).eval) .normal=b'.at (DI Oc (a'.rn ρ)) k')(fK:OE P S w.heap.size a→OE P S w.heap.size a')
 (h:∀ρ:Rn,(∀x,ρ.f x=x)→Ψ.an≤w.heap.size→(∀r,r<Ψ.an→ρ r=Ψ.ar r)→OE P S w.heap.size a→La P S (Ψ.under (b.at (DI σ (a.rn ρ)) (.inRegion ops (i::rest)::kk)) w.heap.size ρ) b' Oc a' k' w):La P S Ψ b σ a (.inRegion ops (i::rest)::kk) w:=by
 intro ρ W gs sl t q Shun hS hc h0 hL hP hN hO hT wH Ar;have hW:af P true Ψ.ro (agi P S (La P S (Ψ.under (b.at (DI σ (a.rn ρ)) (.inRegion ops (i::rest)::kk)) w.heap.size ρ) b') b' (b.at (DI σ (a.rn ρ)) (.inRegion ops (i::rest)::kk)::Ψ.bot) w.heap.size ρ) (Touch S.d ρ w) (G (b.at (DI σ (a.rn ρ)) (.inRegion ops (i::rest)::kk)) Ψ.bot) W:=by
  refine af.silent rfl (λaS=>?_) (af.jo (h ρ hS.f Ar.size Ar.same hc) hS (λ_ h=>h) (fK hc) (SL.refl _ _));rw[←ag6];exact Et ho (hw ρ) hk hop vL OG
 refine(CJ hW W (cq.refl _ _ _) gs sl t q h0 hL hP hN).bind ?_;rintro m t' ⟨gs',own',a',w',sl',q',rfl,_,Au,hst,hL',hP',hN',_,Ej,hK⟩;obtain⟨σ2,a2,k2,w2,Hr,hG,Oq,hown,rfl,hc2,hon⟩:=hst w' (cq.refl _ _ _);have hsz:=hO.size;exact hG Hr w' gs' sl' t' q' Shun Oq hc2 Au hL' hP' (hN'.sub hown)
  ⟨hK.tape.trans hO.tape,hK.os.trans hO.os,hK.output.trans hO.output,zag hsz hK.size,λb hb hm=>(hK.block b (by have:b<Ψ.base.heap.size:=hb;omega) λht=>(hT b ht).elim (λh=>by have:b<Ψ.base.heap.size:=hb;omega) hm).trans (hO.block b hb hm)⟩
  (λx hx=>(Ej x (hown x hx)).elim (hT x) λe=> .inl (by show Ψ.base.heap.size≤x;omega)) ⟨zag wH.size hon.size,λr hr=>(hon.same r (zaI hr wH.size)).trans (wH.same r hr)⟩ hon
theorem CoO.agQ {fn:Func}{k0:List Item}{σ0:List (Nat×Θ)}{b0:Ξ}{a0:Act}(hn:b0.kind=.normal)(hd:∀ρ,(DI σ0 (a0.rn ρ)).defers=[])(hf:P.funcs[b0.fn]?=some fn)
 (hr:∀(ρ:Rn) (W:Γ),(results fn (DI σ0 (a0.rn ρ)).tmps).run P W=.ok (rv ρ v) W)(he:∀(ρ:Rn) (W:Γ),(results fn (DI σ0 (a0.rn ρ)).tmps).events P W #[]=#[])(hv:OE P S w.heap.size a0→rv (sg S S.d w.heap.size) v=v)
 (fK:OE P S n a){d:Tmp}(agy:(ops[i]?).bind (·.dst)=some d)(hjd:xM σ (.tmp d)=true)(Ai:∀x,r0.f x=x)(ha1:Ψ.an≤n)(ha2:∀r,r<Ψ.an→r0 r=Ψ.ar r)
 (h:La P S Ψ b σ (a.put (some d) v) (.inRegion ops rest::kk) w):CoO P S (Ψ.under (b.at (DI σ (a.rn r0)) (.inRegion ops (i::rest)::kk)) n r0) b0 σ0 a0 k0 w:=by
 intro ρ W gs sl t q Shun hS hc h0 hL hP hN hO hT wH Ar;have Ar:SL n r0 w ρ:=Ar;have hO:X8 Ψ W:=⟨hO.tape,hO.os,hO.output,hO.size,hO.block⟩;have hT:∀x,Touch S.d ρ w x→Ψ.base.heap.size≤x∨Ψ.mine x:=hT;have wH:SL Ψ.n0 Ψ.r0 w ρ:=wH;have hN:NS Shun Ψ.ro (Touch S.d ρ w) W:=hN;have agn:SL Ψ.an Ψ.ar w ρ:=⟨zag ha1 Ar.size,λr hr=>(Ar.same r (zaI hr ha1)).trans (ha2 r hr)⟩;have agP:OE P S w.heap.size a:=λx hx=>eY (dY Ar.size).1 (dY Ar.size).2 x (fK x hx);have hrn:a.rn r0=a.rn ρ:=afX fK (λr hr=>(Ar.same r hr).symm) (λx=>by rw[Ai,hS.f]);have hW:af P true Ψ.ro (agi P S (La P S Ψ b) b Ψ.bot w.heap.size ρ) (Touch S.d ρ w) (G (gA b0 (DI σ0 (a0.rn ρ)) k0) (b.at (DI σ (a.rn r0)) (.inRegion ops (i::rest)::kk)::Ψ.bot)) W:=by
  have fU:(b.at (DI σ (a.rn r0)) (.inRegion ops (i::rest)::kk)).finish (rv ρ v)=b.at (DI σ ((a.put (some d) v).rn ρ)) (.inRegion ops rest::kk):=by
   rw[zcj,agy,hrn,afV d _ σ _ (ua hjd),Hs]
  refine af.silent rfl (λaS=>?_) (af.jo h hS (λ_ h=>h) (OE.put (P:=P) agP (some d) (hv hc)) (SL.refl _ _));rw[←fU];exact stepG_leave hn (hd ρ) hf (hr ρ aS) (he ρ aS)
 refine(CJ hW W (cq.refl _ _ _) gs sl t q h0 hL hP hN).bind ?_;rintro m t' ⟨gs',own',a',w',sl',q',rfl,_,Au,hst,hL',hP',hN',_,Ej,hK⟩;obtain⟨σ2,a2,k2,w2,Hr,hG,Oq,hown,rfl,hc2,hon⟩:=hst w' (cq.refl _ _ _);have hsz:=hO.size;exact hG Hr w' gs' sl' t' q' Shun Oq hc2 Au hL' hP' (hN'.sub hown)
  ⟨hK.tape.trans hO.tape,hK.os.trans hO.os,hK.output.trans hO.output,zag hsz hK.size,λb hb hm=>(hK.block b (by omega) λht=>(hT b ht).elim (λh=>by omega) hm).trans (hO.block b hb hm)⟩
  (λx hx=>(Ej x (hown x hx)).elim (hT x) λe=> .inl (by omega)) ⟨zag wH.size hon.size,λr hr=>(hon.same r (zaI hr wH.size)).trans (wH.same r hr)⟩ ⟨zag agn.size hon.size,λr hr=>(hon.same r (zaI hr agn.size)).trans (agn.same r hr)⟩
end
section
variable {P:Λ}{F:η→Bool}{S:Sd}{Post:Θ→Γ→Prop}{W:Γ}
def z8 (P:Λ)(W:Γ)(lo n0:Nat)(r0:Rn)(Post:Θ→Γ→Prop):dn:=
 { base:=W,lo:=lo,n0:=n0,r0:=r0,at_:=λm t=>∃gs g W' sl q Shun,m=ω gs W' sl∧gs[0]?=some g∧π P t gs q∧Past Shun W'.heap.size t∧∀d,AtEnd P Shun W'.heap.size Post g (W'.at d) }
theorem Cj {m m1:Machine}{t1:ξ}{N:Nat}(h:runNT P N m t=(.next m1,t1))(K:Nat):runNT P (N+K) m t=runNT P K m1 t1:=by
 induction N generalizing m t with
 |zero=>
  simp only[runNT,zaf,zbD]at h;obtain⟨rfl,rfl⟩:=h;rw[Nat.zero_add]
 |succ N ih=>
  rw[show N+1+K=(N+K)+1 by omega];simp only[runNT]at h ⊢;cases hs:stepT P m with
  |mk e ops=>
   rw[hs]at h;cases e with
   |next m2=>exact ih h
   |_=>simp at h
theorem Vl {ρ:Rn}{w w0 W':Γ}(Vm:ja P S r0 w0 W)(hO:X8 (z8 P W S.d w0.heap.size r0 Post) W')(hS:ja P S ρ w W')(wH:SL w0.heap.size r0 w ρ)(hB:∀r,r<w0.heap.size→w.heap[r]?=w0.heap[r]?){b:Nat}(hb:b<W.heap.size):W'.heap[b]?=W.heap[b]?:=by
 by_cases hm:(z8 P W S.d w0.heap.size r0 Post).mine b
 ·obtain⟨r,h1,h2,rfl⟩:=hm;have SQ:S.d≤r:=h1;have jA:r<w0.heap.size:=h2;have ho:w0.heap[r]?=some w0.heap[r]:=zaL jA;have e1:=Vm.wr.live r _ SQ ho;have e2:=hS.wr.live r _ SQ ((hB r jA).trans ho);rw[wH.same r jA]at e2;show W'.heap[r0 r]?=W.heap[r0 r]?
  rw[e1,e2]
  congr 1
  exact tO (σ:=sg S S.d w0.heap.size) (λx hx=>wH.same x (bY.1 hx).2) (λx _=>by rw[hS.f,Vm.f]) (Vm.wr.closed r _ SQ ho)
 ·exact hO.block b hb hm
def XQ (P:Λ)(S:Sd)(W:Γ):Γ:={ W with heap:=(Array.range P.globals.size).map λr=>if r<S.d then iE else(W.heap[r]?).getD iE }
theorem Sk (W:Γ):(XQ P S W).heap.size=P.globals.size:=by simp[XQ]
theorem DJ (W:Γ)(h:r<P.globals.size):(XQ P S W).heap[r]?=some (if r<S.d then iE else(W.heap[r]?).getD iE):=by
 simp only[XQ,zaz];rw[zaL (by simpa using h)];simp
theorem tG (hb:P.globals.size≤W.heap.size)(h1:S.d≤r)(h2:r<P.globals.size):(XQ P S W).heap[r]?=W.heap[r]?:=by
 rw[DJ W h2,zaa (by omega),zaL (by omega:r<W.heap.size)];rfl
theorem Vn (hd:S.d≤P.globals.size)(hg:S.g≤P.globals.size)(hb:P.globals.size≤W.heap.size)(hl:∀r o,S.d≤r→r<P.globals.size→W.heap[r]?=some o→l6 o∧∀ρ:Rn,ro ρ o=o):ja P S (ek jR P.globals.size W.heap.size) (XQ P S W) W:=by
 have hs:=Sk (P:=P) (S:=S) W;refine⟨⟨λr o jB ho=>?_,λr o ho=>?_,λr hr=>?_,λr o jB ho=>?_,λr hr=>by rw[hs]at hr ⊢;exact eC hr,λr h1 h2=>?_,⟨by omega,by omega,zaq _,by omega,hd,λg h1 h2=>bg (by omega),λg h1=> .inr (bg (by omega))⟩⟩,λa b e=>?_,λr=>?_,λ_=>rfl,hb⟩
 ·have hlt:=gg ho;rw[hs]at hlt;rw[tG hb jB hlt]at ho;rw[bg hlt,(hl r o jB hlt ho).2];exact ho
 ·have hlt:=gg ho;rw[hs]at hlt;rcases zaw r S.d with h|h
  ·rw[DJ W hlt,zab h]at ho;cases ho;trivial
  ·rw[tG hb h hlt]at ho;exact(hl r o h hlt ho).1
 ·rw[DJ W (by omega),zab hr]
 ·have hlt:=gg ho;rw[hs]at hlt;rw[tG hb jB hlt]at ho;exact(hl r o jB hlt ho).2 _
 ·rw[hs]at h2;rw[bg h2];show r<_;omega
 ·rcases zaw a P.globals.size with ha|ha<;>rcases zaw b P.globals.size with hb'|hb'
  ·rw[bg ha,bg hb']at e;exact e
  ·rw[bg ha,eC hb']at e;have:jR.b a=a:=rfl;omega
  ·rw[eC ha,bg hb']at e;have:jR.b b=b:=rfl;omega
  ·rw[eC ha,eC hb']at e;omega
 ·rcases zaw r P.globals.size with ha|ha
  ·rw[bg ha];exact Iff.rfl
  ·rw[eC ha];constructor<;>intro<;>omega
end
def ago (P:Λ)(W:Γ)(lo n0:Nat)(r0:Rn)(ro:Nat→Prop)(aao:∀b,ro b→b<W.heap.size∧∀r,lo≤r→r<n0→b≠r0 r)(Post:Θ→Γ→Prop):dn:=
 { z8 P W lo n0 r0 Post with ro:=ro,aao:=aao }
section
variable {P:Λ}{F:η→Bool}{S:Sd}{W:Γ}{Post:Θ→Γ→Prop}
theorem agj {args:Array Θ}{w0:Γ}{ro:Nat→Prop}{aao:∀b,ro b→b<W.heap.size∧∀r,S.d≤r→r<w0.heap.size→b≠r0 r}{σ:List (Nat×Θ)}{b:Ξ}{a:Act}{k:List Item}(Vm:ja P S r0 w0 W)(ag6:Ξ.enter P f args .normal=b.at (DI σ (a.rn r0)) k)(ha:OE P S w0.heap.size a)(h:La P S (ago P W S.d w0.heap.size r0 ro aao Post) b σ a k w0):∃N last o w' t',runNT P (N+1) (solo (G (Ξ.enter P f args .normal) []) W) #[]=(.ended o w',t')∧runN P N (solo (G (Ξ.enter P f args .normal) []) W)=.next last∧step P last=.ended o w'∧Go.Conc.Good P Post last o w' t':=by
 have Z2:=h r0 W #[G (Ξ.enter P f args .normal) []] none #[] (λ_=>0) (λ_=>False) Vm ha (by rw[ag6];rfl) (leavers_one P _) (past_nil.mono (zaq _)) ⟨λx ⟨r,_,h2,e⟩=>by rw[e];exact Vm.low h2,λb hb=>(aao b hb).1,λ_ _ hx=>hx,λ_ hx=>hx.elim⟩ ⟨rfl,rfl,rfl,zac _,λ_ _ _=>rfl⟩ (λx ⟨r,h1,h2,e⟩=> .inr ⟨r,h1,h2,e⟩) ⟨zac _,λ_ _=>rfl⟩ ⟨zaq _,λr hr=>absurd hr (Nat.not_lt_zero r)⟩;obtain⟨N0,m,t,hrun,gs,g,W',sl,q,Shun,rfl,h0,hL,hPa,hE⟩:=Z2;obtain⟨N,last,o,w',t',r1,r2,r3,r4⟩:=beside_ends (P:=P) (Post:=Post) (Shun:=Shun) (B:=W'.heap.size) (D:=λ_ _ _=>False) (sl:=sl) (n:=0) (λ_ _ _ hx=>hx.elim) h0 hL hPa (λw₁ hw=>by obtain⟨d,rfl⟩:=hw;exact hE d);refine⟨N0+N,last,o,w',t',?_,?_,r3,r4⟩
 ·rw[show N0+N+1=N0+(N+1) by omega];exact(Cj hrun (N+1)).trans r1
 ·have:=zak Prod.fst (Cj hrun N);rw[runNT_fst,runNT_fst]at this;exact this.trans r2
end
theorem aga (A:Act):∀(σ τ:List (Nat×Θ)),DI (σ++τ) A=DI τ (DI σ A):=λσ τ=>by simp[DI,List.foldl_append]
theorem agR (A:Act)(d:Nat)(u v:Θ):(A.put (some d) u).put (some d) v=A.put (some d) v:=by
 simp[ϋ]
theorem af2 (σ1 σ2:List (Nat×Θ))(d:Nat)(x X:Θ)(h:xM σ2 (.tmp d)=true)(A:Act):(DI (σ1++(d,x)::σ2) A).put (some d) X=DI (σ1++(d,X)::σ2) A:=by
 rw[aga,aga];show(DI σ2 ((DI σ1 A).put (some d) x)).put (some d) X=DI σ2 ((DI σ1 A).put (some d) X);rw[afV d X σ2 _ (ua h),agR]
theorem agk:∀(σ:List (Nat×Θ)) (A:Act),(DI σ A).tmps.size=A.tmps.size
 |[],_=>rfl
 |p::σ,A=>by
  show(DI σ (A.put (some p.1) p.2)).tmps.size=_;rw[agk σ];simp[ϋ]
theorem afU (σ1 σ2:List (Nat×Θ))(d:Nat)(X:Θ)(h:xM σ2 (.tmp d)=true){A:Act}(hd:d<A.tmps.size):(DI (σ1++(d,X)::σ2) A).eval (.tmp d)=X:=by
 rw[aga];show(DI σ2 ((DI σ1 A).put (some d) X)).eval (.tmp d)=X;rw[af1 h];have:d<(DI σ1 A).tmps.size:=by rw[agk];exact hd
 simp[Act.eval,ϋ,this]
section
variable {P:Λ}{F:η→Bool}{S:Sd}{Ψ:dn}{σ Oc:List (Nat×Θ)}{b:Ξ}{a a':Act}{k:List Item}{w W:Γ}{ρ:Rn}
theorem afY (a:Act)(ρ:Rn):(a.rn ρ).tmps.size=a.tmps.size:=by simp[Act.rn]
theorem agz {t:Nat}{z:Int}{ik:IntKind}(hj:xM σ (.tmp t)=true)(h:a.eval (.tmp t)=.int ik z):(DI σ (a.rn ρ)).eval (.tmp t)=.int ik z:=by
 rw[af1 hj];show(a.tmps.map (rv ρ)).getD t ψ=_;rw[getD_map];have h':a.tmps.getD t ψ=.int ik z:=h;rw[h'];simp[rv]
theorem La.sig (e:∀A:Act,DI σ A=DI Oc A)(h:La P S Ψ b Oc a k w):La P S Ψ b σ a k w:=by
 intro ρ W gs sl t q Shun hS hc h0;rw[e]at h0;exact h ρ W gs sl t q Shun hS hc h0
section
variable {ops:Array Oper}{i:Nat}{rest:List Nat}{o:Oper}{kk:List Item}
theorem La.S8 (hC:lp P F S)(ho:ops[i]?=some o)(hw:o.guard=none)(hk:b.kind≠.early)(cG:fo P F S o.op=true)(hj:su σ ops o=true)(v:Θ)(hx:∀w':Γ,w'.heap=w.heap→(Ω a.eval o).run P w'=.ok (.value v) w'){d:Tmp}(hd:o.dst=some d)(ha:a.put (some d) v=a')
 (h:La P S Ψ b σ a' (.inRegion ops rest::kk) w):La P S Ψ b σ a (.inRegion ops (i::rest)::kk) w:=by
 subst ha;have hjd:xM σ (.tmp d)=true:=by
  have:=(xN hj).2.2;rw[hd]at this;exact this
 exact La.JU hC cG ho (λρ=>by simp[Φ,hw]) hk (xN hj).2.1 (xN hj).1 hd hjd λτ dd=>⟨v,w.re τ dd,hx _ rfl,h.re rfl⟩
theorem La.ahf (ho:ops[i]?=some o)(hw:o.guard=none)(hk:b.kind≠.early)(hrun:∀ρ W,(Ω (DI σ (a.rn ρ)).eval o).run P W=.ok (.value X) W)(iG:∀ρ W,(Ω (DI σ (a.rn ρ)).eval o).events P W #[]=#[]){d:Tmp}(hd:o.dst=some d)(hσ:∀A:Act,(DI σ A).put (some d) X=DI Oc A)
 (h:La P S Ψ b Oc a (.inRegion ops rest::kk) w):La P S Ψ b σ a (.inRegion ops (i::rest)::kk) w:=
 La.raw ho (λρ=>by simp[Φ,hw]) hk hrun iG hd (La.sig (λA=>by rw[agh];exact hσ A) h)
theorem La.mvS (ho:ops[i]?=some o)(hw:o.guard=none)(hk:b.kind≠.early){t d:Tmp}(hop:o.op=.move (.tmp t))(hX:∀A:Act,A.tmps.size=a.tmps.size→(DI σ A).eval (.tmp t)=X)(hd:o.dst=some d)(hσ:∀A:Act,(DI σ A).put (some d) X=DI Oc A)
 (h:La P S Ψ b Oc a (.inRegion ops rest::kk) w):La P S Ψ b σ a (.inRegion ops (i::rest)::kk) w:=
 La.ahf ho hw hk (λρ W=>by simp[Ω,hop,hX (a.rn ρ) (afY a ρ)]) (λρ W=>by simp[Ω,hop]) hd hσ h
theorem La.Ka (ho:ops[i]?=some o)(hw:o.guard=none)(hk:b.kind≠.early)(hX:∀ρ:Rn,rv ρ X=X)(hrun:∀ρ W,(Ω (DI σ (a.rn ρ)).eval o).run P W=.ok (.value X) W)(iG:∀ρ W,(Ω (DI σ (a.rn ρ)).eval o).events P W #[]=#[]){d:Tmp}(hd:o.dst=some d)(hjd:xM σ (.tmp d)=true)(ha:a.put (some d) X=a')
 (h:La P S Ψ b σ a' (.inRegion ops rest::kk) w):La P S Ψ b σ a (.inRegion ops (i::rest)::kk) w:=by
 subst ha;exact La.bare ho (λρ=>by simp[Φ,hw]) hk hX hrun iG hd hjd h
def ags (S:Sd)(Ψ:dn)(w:Γ)(ad:Addr)(v:Θ):Prop:=(Ψ.ro ad.block∧Ψ.base.cell? ad=some v)∨(S.d≤ad.block∧ad.block<S.g∧w.cell? ad=some v)
theorem La.ahg (ho:ops[i]?=some o)(hw:o.guard=none)(hk:b.kind≠.early)(hop:o.op=.load e x)(hx:∀ρ,(DI σ (a.rn ρ)).eval x=.pointer (some ad))(hr:ags S Ψ w ad v)(hX:∀ρ:Rn,rv ρ v=v)
 (hl:∀(w:Γ),w.cell? ad=some v→(ι e (.pointer (some ad))).run P w=.ok v w∧∀ev∈(ι e (.pointer (some ad))).events P w #[],ev.loc=.cell ad∧ev.write=false){d:Tmp}(hd:o.dst=some d)(hjd:xM σ (.tmp d)=true)(ha:a.put (some d) v=a')
 (h:La P S Ψ b σ a' (.inRegion ops rest::kk) w):La P S Ψ b σ a (.inRegion ops (i::rest)::kk) w:=by
 subst ha;rcases hr with⟨hr,hv⟩|⟨g1,g2,hv⟩
 ·exact La.load ho (λρ=>by simp[Φ,hw]) hk hop hx hr hv hX hl hd hjd h
 ·refine La.walk λρ W hS hca _ _=>?_;have cJ:ρ ad.block=ad.block:=hS.fix.g _ g1 g2;have hlt:ad.block<w.heap.size:=Γ.block_lt_of_cell? _ _ hv;have hown:Touch S.d ρ w ad.block:=⟨ad.block,g1,hlt,cJ.symm⟩;have hc:W.cell? ad=some v:=by
   unfold Γ.cell? at hv ⊢;cases hh:w.heap[ad.block]? with
   |none=>rw[hh]at hv;cases hv
   |some o=>
    have:=hS.wr.live _ _ g1 hh;rw[cJ]at this;rw[hh]at hv;rw[this];cases o with
    |cells c t f=>
     simp only[ro]at hv ⊢;split at hv
     ·cases hv
     ·rename_i hs;rw[zaa hs,zaz,hv,zbp,hX]
    |_=>cases hv
  have e2:(DI σ (a.rn ρ)).put (some d) v=DI σ ((a.put (some d) v).rn ρ):=by
   rw[afV d v σ _ (ua hjd),←Hs,hX]
  refine af.step' rfl λaS hR=>?_;have hc1:aS.cell? ad=some v:=by
   rw[←hc];simp only[Γ.cell?,hR.block _ (.inl hown)]
  obtain⟨h1,h2⟩:=hl aS hc1;have hrun:(Ω (DI σ (a.rn ρ)).eval o).run P aS=.ok (.value v) aS:=by
   unfold Ω;simp[hop,hx ρ,h1]
  have iG:(Ω (DI σ (a.rn ρ)).eval o).events P aS #[]=(ι e (.pointer (some ad))).events P aS #[]:=by
   unfold Ω;simp[hop,hx ρ]
  refine⟨_,aS,_,stepG_value ho (by simp[Φ,hw]) hk hrun,⟨rfl,rfl,rfl,zac _,λ_ _ _=>rfl,λev he=>?_⟩,?_⟩
  ·unfold listed at he;rw[iG]at he;obtain⟨h3,h4⟩:=h2 ev (mem_seen he);unfold DO;rw[h3];exact .inl (.inl hown)
  ·rw[tX _ rfl,hd,e2];exact(af.jo h hS (λ_ h=>h) (OE.put (P:=P) hca (some d) (hX _)) (SL.refl _ _)).rely hR
theorem La.ag2 (ho:ops[i]?=some o)(hw:o.guard=none)(hk:b.kind≠.early)(hop:o.op=.call { callee:= .value (.func f),args:=xs,argTypes:=ats })
 (vL:(P.funcs[f]?).any (λfn=>fn.body.isSome)=true)(OG:(P.funcs[f]?).any (λfn=>fn.name != "runtime.NumGoroutine")=true)(hx:xs.all (gD S)=true)(hj:xs.all (xM σ)=true){args:Array Θ}(abg:xs.map a.eval=args)
 (h:∀ρ:Rn,(∀x,ρ.f x=x)→Ψ.an≤w.heap.size→(∀r,r<Ψ.an→ρ r=Ψ.ar r)→OE P S w.heap.size a→aa P S (Ψ.under (b.at (DI σ (a.rn ρ)) (.inRegion ops (i::rest)::kk)) w.heap.size ρ) (Ξ.enter P f args .normal) [] w):La P S Ψ b σ a (.inRegion ops (i::rest)::kk) w:=by
 subst abg;exact La.call ho (λρ=>by simp[Φ,hw]) hk hop vL OG hx hj h
end
end
section
variable {P:Λ}{F:η→Bool}{S:Sd}{W:Γ}{Post:Θ→Γ→Prop}
theorem CoO.last {lo:Nat}{ro:Nat→Prop}{aao:∀b,ro b→b<W.heap.size∧∀r,lo≤r→r<n0→b≠r0 r}{σ:List (Nat×Θ)}{b:Ξ}{a:Act}{k:List Item}{fn:Func}{w:Γ}(hn:b.kind=.normal)(hd:a.defers=[])(hf:P.funcs[b.fn]?=some fn)(hi:P.inits.idxOf? b.fn=none)
 (hr:∀(ρ:Rn) (W:Γ),(results fn (DI σ (a.rn ρ)).tmps).run P W=.ok v W)(he:∀(ρ:Rn) (W:Γ),(results fn (DI σ (a.rn ρ)).tmps).events P W #[]=#[])(hP:∀W' ρ,X8 (z8 P W lo n0 r0 Post) W'→ja P S ρ w W'→SL n0 r0 w ρ→Post v W'):CoO P S (ago P W lo n0 r0 ro aao Post) b σ a k w:=by
 intro ρ w' gs' sl' t' q' Shun Oq hc Au hL' hP' hN hO hT ahu _;have WQ:X8 (z8 P W lo n0 r0 Post) w':=⟨hO.tape,hO.os,hO.output,hO.size,hO.block⟩;refine Reach.here ⟨gs',_,w',sl',q',Shun,rfl,Au,hL',hP',λd=>⟨rfl,v,#[],?_,by simp,hP _ ρ ⟨WQ.tape,WQ.os,WQ.output,WQ.size,WQ.block⟩ ⟨⟨Oq.wr.live,Oq.wr.ok,Oq.wr.dead,Oq.wr.closed,Oq.wr.next,Oq.wr.low,Oq.wr.big⟩,Oq.inj,Oq.lr,Oq.f,Oq.qb⟩ ahu⟩⟩;have h1:=hr ρ (w'.at d);have h2:=he ρ (w'.at d);have h3:(DI σ (a.rn ρ)).defers=[]:=by rw[af3];exact hd
 show υ P true (G (gA b (DI σ (a.rn ρ)) k) []) (w'.at d)=_;generalize DI σ (a.rn ρ)=A at h1 h2 h3 ⊢;simp[gA,Ξ.at,G,υ,unwind,doReturn,h3,hn,hf,hi,GStep.after,seen]at h1 h2 ⊢;simp[h1,h2]
end
end Go.Ren
