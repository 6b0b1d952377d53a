import Derived.Test.YtlhimdjkkiflhaaGreatDoorProg
import Derived.Conc.FxGenDone
import Derived.Conc.FxGenWait
import Derived.Conc.FxGenLone
import Derived.KernelRfl
import Derived.Conc.DeferLaws
import GoSem.Extern.Table
import Derived.Conc.BesideWords
import Derived.Test.YtlhimdjkkiflhaaGreatDoorCut12
set_option maxHeartbeats 8000000
set_option maxRecDepth 100000
set_option linter.unusedSectionVars false
namespace Go.Ren
open Go Go.Conc
open Go.ConcX (Payload Shy stA smA Base CA JInv RCa RCd DCs AtR0 RPa DPi AtKd PA KK WgAt ChanAt Full Aside2 runTX JT AtW1)
def okR (Wg C Low:Nat)(act:MemAct):Prop:=(∀t,act.touch? =some t→∃a,t.loc=.cell a∧(a.block=Wg∨a.block=C))∧act.low Low
@[reducible] def l9 (Wg C Low:Nat) (St:Goroutine→World→Prop) (hW:Wg<Low) (hC:C<Low):Shy Wg C where
  ok:=okR Wg C Low
  atomicWg a wr h:=⟨λx hx=>by simp only[MemAct.touch?,zap]at hx;subst hx;exact⟨a,rfl,.inl h⟩,by show a.block<Low;omega⟩
  readWg a h:=⟨λx hx=>by simp only[MemAct.touch?,zap]at hx;subst hx;exact⟨a,rfl,.inl h⟩,by show a.block<Low;omega⟩
  writeWg a h:=⟨λx hx=>by simp only[MemAct.touch?,zap]at hx;subst hx;exact⟨a,rfl,.inl h⟩,by show a.block<Low;omega⟩
  theirs a wr h:=⟨λx hx=>by simp only[MemAct.touch?,zap]at hx;subst hx;exact⟨a,rfl,.inr h⟩,by show a.block<Low;omega⟩
  disable:=⟨λx hx=>(by cases hx),trivial⟩
  enable:=⟨λx hx=>(by cases hx),trivial⟩
  relMerge:=⟨λx hx=>(by cases hx),hW⟩
  acquire:=⟨λx hx=>(by cases hx),hW⟩
  go1:=⟨λx hx=>(by cases hx),trivial⟩
  start:=⟨λx hx=>(by cases hx),trivial⟩
  stop:=St
structure sP (Wg Low:Nat) where
 pl:Payload
 C:Nat
 vals:List Value
 hC:C<Low
 hCW:C≠Wg
 hW:Wg<Low
def kI:Loc→Prop:=λ_=>False
def sP.side {Wg Low:Nat}(k:sP Wg Low)(St:Goroutine→World→Prop)(A:Goroutine→World→Prop):Side Wg:=⟨k.pl,k.C,l9 Wg k.C Low St k.hW k.hC,k.vals,kI,A,λ_ _=>True⟩
def nD:Goroutine→World→Prop:=λ_ _=>False
section
variable {P:Program}{ty:TypeId}{Wg Low:Nat}(k:sP Wg Low)
theorem wF {St A Wz A':Goroutine→World→Prop}{μ:Nat×Nat}{b:Goroutine}{w:World}{s:Trace}(h:(k.side St A).half P ty Low μ b w s):(k.side Wz A').half P ty Low μ b w s:=by
 change @Half k.pl P ty Wg k.C Low (l9 Wg k.C Low Wz k.hW k.hC) k.vals kI μ b w s;replace h:@Half k.pl P ty Wg k.C Low (l9 Wg k.C Low St k.hW k.hC) k.vals kI μ b w s:=h;rcases h with⟨p,d1,rc,mc,rel,cl,sent,vs,e,hs,⟨b1,b2,⟨j1,j2,j3,j4,j5,j6,j7⟩,b4,b5,b6,b7⟩,hc⟩|⟨p,d1,q,e,⟨b1,b2,⟨j1,j2,j3,j4,j5,j6,j7⟩,b4,b5,b6,b7⟩,hq⟩
 ·letI:=k.pl
  letI:=l9 Wg k.C Low Wz k.hW k.hC
  refine .inl ⟨p,d1,rc,mc,rel,cl,sent,vs,e,hs,⟨b1,b2,⟨j1,j2,j3,j4,j5,j6,j7⟩,b4,b5,b6,b7⟩,?_⟩;cases hc with
  |r0 h=>exact .r0 h
  |k1 h=>exact .k1 h
  |d1 h=>exact .d1 h
 ·letI:=k.pl
  letI:=l9 Wg k.C Low Wz k.hW k.hC
  exact .inr ⟨p,d1,q,e,⟨b1,b2,⟨j1,j2,j3,j4,j5,j6,j7⟩,b4,b5,b6,b7⟩,hq⟩
theorem GJ {St:Goroutine→World→Prop}:fG P ty Wg Low (k.side St nD):=⟨k.hC,k.hCW,λ_ _ h=>h.elim,λ_ _ h=>h.elim,λ_ h=>h⟩
def sP.fin (k:sP Wg Low)(P:Program)(ty:TypeId)(b:Goroutine)(w:World):Prop:=
 letI:=k.pl;letI:=l9 Wg k.C Low nD k.hW k.hC;∃n,Goes P false (RCa ty Wg Low) (DCs kI Wg k.C) (AtR0 P ty Wg k.C Low k.vals) n b w
def sP.wait (k:sP Wg Low)(P:Program)(ty:TypeId)(St A:Goroutine→World→Prop)(a:Goroutine)(w:World):Prop:=
 letI:=k.pl;letI:=l9 Wg k.C Low St k.hW k.hC;fG P ty Wg Low (k.side St A)∧∃m,Goes P true (RPa ty Wg k.C k.vals) (DPi kI Wg k.C Low) (AtKd P ty Wg k.C Low k.vals kI A) m a w
end
section
variable {P:Program}{ty:TypeId}{Q Shun:Loc→Prop}{c ch Wg Low:Nat}{ro:Nat→Prop}{z:Value}{x y:sP Wg Low}{After:(Nat→Prop)→World→Goroutine→World→Prop}
def sP.X7 {Wg Low:Nat}(k:sP Wg Low)(ty:TypeId)(w:World):Prop:=letI:=k.pl;letI:=l9 Wg k.C Low nD k.hW k.hC;Go.ConcX.KPa ty Wg k.C k.vals w
theorem Cc {k:sP Wg Low}{St A:Goroutine→World→Prop}{μ:Nat×Nat}{b:Goroutine}{w:World}{s:Trace}(h:(k.side St A).half P ty Low μ b w s):k.X7 ty w:=by
 replace h:@Half k.pl P ty Wg k.C Low (l9 Wg k.C Low St k.hW k.hC) k.vals kI μ b w s:=h;rcases h with⟨p,d1,rc,mc,rel,cl,sent,vs,e,hs,⟨b1,b2,b3,b4,b5,b6,b7⟩,hc⟩|⟨p,d1,q,e,⟨b1,b2,b3,b4,b5,b6,b7⟩,hq⟩
 ·exact .inl b1
 ·exact .inr ⟨b1,b2⟩
def LA (P:Program)(ty:TypeId){Wg Low:Nat}(x y:sP Wg Low)(After:(Nat→Prop)→World→Goroutine→World→Prop)(own:Nat→Prop)(a:Goroutine)(w:World):Prop:=
 x.X7 ty w→y.X7 ty w→∃St Ax Ay,x.wait P ty St Ax a w∧y.wait P ty St Ay a w∧∀a' w',St a' w'→w.heap.size≤w'.heap.size∧After own w a' w'
def IE (P:Program)(ty:TypeId){Wg Low:Nat}(x y:sP Wg Low)(_own:Nat→Prop)(b:Goroutine)(w:World):Prop:=WgAt ty Wg w KK 0→x.fin P ty b w∧y.fin P ty b w
def Joined (P:Program)(Shun:Loc→Prop)(c ch Wg Low:Nat)(After:(Nat→Prop)→World→Goroutine→World→Prop)(w0:World)(m:Machine)(t:Trace):Prop:=
 ∃gs w' w sl q a own,m=crowd gs w sl∧gs.size=c+1∧gs[0]?=some a∧a.status=.running∧After own w' a w∧w'.heap.size≤w.heap.size∧Leavers P t gs q∧Past Shun w.heap.size t∧
  (∀b,own b→Low≤b∧b<w'.heap.size)∧Low≤w'.heap.size∧(∀b,b<Low→b≠ch→b≠Wg→w'.heap[b]?=w0.heap[b]?)∧w'.tape=w0.tape∧w'.os=w0.os∧w'.output=w0.output
theorem IG (hY:B7 Q Shun c ch Wg Low ro (λb=>b=ch∨b=Wg))(ze:x.C≠y.C)(X5:∀a:Addr,a.block=x.C→¬Shun (.cell a))(X6:∀a:Addr,a.block=y.C→¬Shun (.cell a))
 {vs:List Value}{gs:Array Goroutine}{w0:World}{sl:Option (Nat×Nat)}{t:Trace}{q:Nat→Nat}{bC aS:Nat→Prop}{a b:Goroutine}(hC:eJ P c t gs q)(h0:gs[0]?=some a)(hc:gs[c]?=some b)
 (hM:lA P ro ch z (LA P ty x y After) vs bC a w0)(hG:jT P ro ch (IE P ty x y) vs aS b w0)(eV:kY Q Shun c ch Low ro bC aS (λb=>b=ch) false w0 w0 t)(hw:WgAt ty Wg w0 KK 0):
 Reach P (crowd gs w0 sl) t (Joined P Shun c ch Wg Low After w0):=by
 refine(Lr hY.toLay vs gs w0 sl t q bC aS a b hC h0 hc hM hG eV).bind ?_;rintro m t ⟨gs,w,sl,q,bC,aS,a,b,t₁,fn,pos,rfl,hC,h0,hc,hb,hM,hfc,eV,_,hd⟩;have TY:WgAt ty Wg w KK 0:=hw.of_block (eV.keep Wg hY.Kh hY.wch);obtain⟨⟨n₁,hG1⟩,⟨n₂,hG2⟩⟩:=hfc TY;have hx0:(x.side nD nD).half P ty Low (7,n₁) b w Iz:=@Half.init x.pl P ty Wg x.C Low (l9 Wg x.C Low nD x.hW x.hC) x.vals kI b w n₁ TY hG1;have hy0:(y.side nD nD).half P ty Low (7,n₂) b w Iz:=@Half.init y.pl P ty Wg y.C Low (l9 Wg y.C Low nD y.hW y.hC) y.vals kI b w n₂ TY hG2;refine(TU (x:=x.side nD nD) (y:=y.side nD nD) hY (GJ x) (GJ y) ze (cN.1 hM) (7,n₁) (7,n₂) aS b Iz Iz gs w sl t q hC h0 hc (bV.refl _ _ _) (eV.weaken λb hb=> .inl hb) hx0 hy0 (GL.init eV.d0 hd) (GL.init eV.d0 hd)).bind ?_;rintro m t ⟨gs,w,sl,q,bC,aS,a,b,iN,jg,μ,ν,rfl,hC,h0,hc,hfm,eV,hx,hy,hg1,hg2⟩;obtain⟨St,Ax,Ay,⟨sO,m₁,xQ⟩,⟨wD,m₂,hk2⟩,nS⟩:=hfm (Cc hx) (Cc hy);obtain⟨oc,hJx⟩:=@Half.inv x.pl P ty Wg x.C Low (l9 Wg x.C Low St x.hW x.hC) x.vals kI Ax (λ_ _=>True) μ a b w iN none (wF x (Wz:=St) (A':=Ax) hx) m₁ xQ;obtain⟨EI,hJy⟩:=@Half.inv y.pl P ty Wg y.C Low (l9 Wg y.C Low St y.hW y.hC) y.vals kI Ay (λ_ _=>True) ν a b w jg none (wF y (Wz:=St) (A':=Ay) hy) m₂ hk2;refine(TW (x:=x.side St Ax) (y:=y.side St Ay) hY sO wD ze eV.big (λb hb=>(eV.EF b hb).1) (Go.ConcN.sumTo c q,oc) EI gs w sl t q a b iN jg rfl hC h0 hc eV.ti hJx hJy hg1 hg2).bind ?_;intro m t h3;refine(TX sO wD eV.big (λa ha=>hY.QS _ (hY.wQ a ha)) X5 X6 h3).mono ?_;rintro m t ⟨gs,w',sl,q,a,rfl,h1,h2,h3,h4,h5,h6⟩;have EJ:St a w':=h4.elim id id;obtain⟨k1,k2⟩:=nS a w' EJ;exact⟨gs,w,w',sl,q,a,bC,rfl,h1,h2,h3,k2,k1,h5,h6.mono k1,eV.mlt,eV.big,λb e1 e2 e3=>eV.keep b e1 (λe=>e.elim e2 e3),eV.tape,eV.os,eV.output⟩
end
end Go.Ren
namespace Go.Ren
open Go.Proofs.Tryz
open Go Go.Proofs Go.Conc.Lib
abbrev cG:WgLink:={ add:=68,done:=70,wait:=72,relMerge:=107,disable:=108,enable:=109,inBubble:=110,associate:=111,fatal:=112,uOr:=113,uAdd:=114,raceRead:=115,uLoad:=116,uStore:=117,disassociate:=118,semrelease:=119,acquire:=122,isAssociated:=123,uCas:=124,raceWrite:=125,semacquire:=126,orU64:=164,addU64:=165,loadU64:=166,storeU64:=167,casU64:=173,tWgP:=194,tUP:=196,tAssoc:=197,tWg:=142,tAU:=139,tU64:=137,tUint:=200,tU32:=140,tPU32:=201,tPAU:=240,tPU64:=242,tNoCopy:=134,tANoCopy:=135,tAlign64:=136 }
theorem LB:prog.funcs[68]?=some (addFn cG):=by kernel_rfl
theorem GK:prog.funcs[70]?=some (doneFn cG):=by kernel_rfl
theorem GM:prog.funcs[72]?=some (waitFn cG):=by kernel_rfl
theorem wgz:WgLib prog cG:=by
 refine⟨LB,GK,GM,?_,?_,?_,?_,?_,?_,?_,?_,?_,?_,?_,?_,?_,?_,?_,?_,?_,?_,?_,?_,?_,?_,?_,
  ?_,?_,?_,?_,?_,?_,?_,?_,?_,?_,?_,?_,?_,?_,?_,?_,?_,?_,?_,?_,?_,?_,?_,?_,?_,?_,?_,?_,?_,?_,?_,?_,?_,?_,?_,?_,?_,?_,?_,?_,?_,?_,?_,?_,?_,?_,?_,?_,?_,?_,?_,?_,?_,?_,?_,?_,?_,?_,?_,?_,?_,?_,?_,?_,?_,?_,?_,?_,?_,?_,?_,?_,?_,?_,?_,?_,?_,?_,?_,?_,?_,?_,?_,?_,?_,?_,?_⟩
 all_goals first
  |kernel_rfl
  |(intro w;kernel_rfl)
end Go.Ren
namespace Go.Ren
open Go Go.Conc
variable {P:Program}{main:Bool}{b:Frame}{a:Act}{k:List Item}{cs:List Frame}{w:World}
def fX (ch:Value)(ty rt:TypeId)(bs:Array Bool):Deferred:={ target:= .builtin .close #[ty] rt bs,args:=#[ch] }
theorem rq {ops:Array Oper}{i:Nat}{rest:List Nat}{o:Oper}{x:Tmp}{ty:TypeId}(ho:ops[i]?=some o)(hw:Region.wanted o (yielded ops a.tmps)=true)(hk:b.kind≠.early)
 (hop:o.op=.defer { callee:= .builtin .close,args:=#[.tmp x],argTypes:=#[ty] }):
 stepG P main (G (b.at a (.inRegion ops (i::rest)::k)) cs) w=.go (G (b.at (Act.put ⟨a.tmps,fX (a.eval (.tmp x)) ty o.type #[false]::a.defers⟩ o.dst undef) (.inRegion ops rest::k)) cs) w #[]:=by
 have hr:(execOp a.eval o).run P w=.ok (.defer (fX (a.eval (.tmp x)) ty o.type #[false])) w:=by
  unfold execOp;simp[hop,resolve,fX]
 have he:(execOp a.eval o).events P w #[]=#[]:=by
  unfold execOp;simp[hop,resolve]
 have nS:(b.at ⟨a.tmps,fX (a.eval (.tmp x)) ty o.type #[false]::a.defers⟩ (.inRegion ops (i::rest)::k)).finish undef=b.at (Act.put ⟨a.tmps,fX (a.eval (.tmp x)) ty o.type #[false]::a.defers⟩ o.dst undef) (.inRegion ops rest::k):=by rw[Frame.finish_at,ho];rfl
 have Sn:(b.kind==CallKind.early)=false:=by simpa using hk
 rw[stepG_oper ho hw,←nS];simp[stepG.apply,hr,he,G,Frame.at,Sn,GStep.after,seen_none]
theorem p9 {todo:List Item}{ds:List Deferred}{c s r:Nat}{tm:Bool}{ty rt:TypeId}{bs:Array Bool}(hd:a.defers=fX (.chan (some c)) ty rt bs::ds)(hc:w.heap[c]?=some (.chan 0 #[] false s r tm))(hq:(P.funcs[b.fn]?).any (·.norace)=false):stepG P main (G { b.at a todo with mode:= .returning } cs) w=.go (G { b.at ⟨a.tmps,ds⟩ todo with mode:= .returning } cs) (w.setChan c 0 #[] true s r tm) (gV c):=by
 have h1:(builtin .close #[ty] rt bs #[.chan (some c)]).run P w=.ok (.value (.tuple #[])) (w.setChan c 0 #[] true s r tm):=by
  unfold builtin;simp[go_sem,run_close_open _ _ hc,World.setChan]
 have h2:(builtin .close #[ty] rt bs #[.chan (some c)]).events P w #[]=gV c:=by
  unfold builtin;simp[go_sem,events_close_open _ _ hc,gV]
 have h3:seen P b.fn ((builtin .close #[ty] rt bs #[.chan (some c)]).events P w #[])=gV c:=by
  rw[h2];exact seen_eq hq (by intro e he f;simp[gV]at he;rcases he with rfl|rfl<;>simp)
 simp[G,stepG,unwind,callDeferred,Frame.at,hd,fX,invoke,h1,GStep.after]at h3 ⊢;exact h3
end Go.Ren
namespace Go.Ren
open Go
section
variable {P:Program}{ρ:Rn}
theorem ru:∀(n:Nat) (a:Addr) (acc:ByteArray),aa P ρ Eq (Extern.Bytes.loadBytes a n acc) (Extern.Bytes.loadBytes (ra ρ a) n acc)
 |0,a,acc=>aa.pure rfl
 |n+1,a,acc=>by
  unfold Extern.Bytes.loadBytes;refine aa.bind (vg a) ?_;rintro v _ rfl;cases v with
  |int k b=>
   cases k with
   |u8=>rw[rv];simp only;rw[jQ];exact ru n (a.add 1) _
   |_=>exact aa.stuck _
  |_=>exact aa.stuck _
theorem sQ (v:Value):aa P ρ Eq (Extern.Bytes.bytesOf v) (Extern.Bytes.bytesOf (rv ρ v)):=by
 cases v with
 |string s=>rw[rv];exact aa.pure rfl
 |slice a l c=>
  cases a with
  |none=>rw[rv];exact aa.pure rfl
  |some a=>rw[rv];exact ru l a _
 |_=>exact aa.stuck _
theorem LC (v:Value):aa P ρ Eq (Extern.Bytes.asByte v) (Extern.Bytes.asByte (rv ρ v)):=by
 cases v with
 |int k b=>
  rw[rv];cases k with
  |u8=>exact aa.pure rfl
  |_=>exact aa.stuck _
 |_=>exact aa.stuck _
theorem LD (n:Int):VV ρ (goInt n) (goInt n):=by simp[VV,goInt,rv]
theorem tQ (args:Array Value):aa P ρ (VV ρ) (Extern.BytealgIndexByte.indexByte args) (Extern.BytealgIndexByte.indexByte (args.map (rv ρ))):=by
 obtain⟨l⟩:=args;rcases l with _|⟨b,_|⟨c,_|⟨d,l⟩⟩⟩
 ·exact aa.stuck "bytealg.IndexByte: two arguments expected"
 ·exact aa.stuck "bytealg.IndexByte: two arguments expected"
 ·have h:∀b c,Extern.BytealgIndexByte.indexByte #[b,c]=(do
   let b ←Extern.Bytes.bytesOf b;let c ←Extern.Bytes.asByte c
   match(List.range b.size).find? λi=>b[i]! ==c with
   |some i=>pure (goInt i)
   |none=>pure (goInt (-1))):=λ_ _=>rfl
  have e:(Array.map (rv ρ) { toList:=[b,c] })=#[rv ρ b,rv ρ c]:=by simp
  rw[e,h,h];refine aa.bind (sQ b) ?_;rintro x _ rfl;refine aa.bind (LC c) ?_;rintro y _ rfl;split
  ·exact aa.pure (LD _)
  ·exact aa.pure (LD _)
 ·exact aa.stuck "bytealg.IndexByte: two arguments expected"
theorem LF (args:Array Value):aa P ρ (VV ρ) (Extern.AbiNoEscape.same args) (Extern.AbiNoEscape.same (args.map (rv ρ))):=by
 obtain⟨l⟩:=args;rcases l with _|⟨b,_|⟨c,l⟩⟩
 ·exact aa.stuck "abi.NoEscape, Escape: one argument expected"
 ·have h:∀b,Extern.AbiNoEscape.same #[b]=pure b:=λ_=>rfl;have e:(Array.map (rv ρ) { toList:=[b] })=#[rv ρ b]:=by simp
  rw[e,h,h];exact aa.pure rfl
 ·exact aa.stuck "abi.NoEscape, Escape: one argument expected"
theorem LG (hx:∀g,g<P.globals.size→g<ρ.d∨ρ g=g):aa P ρ Eq Extern.BytealgIndex.maxLen Extern.BytealgIndex.maxLen:=by
 unfold Extern.BytealgIndex.maxLen globalAddr;refine aa.bind (R:=λ(a b:Addr)=>b=a∧(a.block<ρ.d∨ρ a.block=a.block)) (aa.bind cI ?_) ?_
 ·rintro p p' ⟨rfl,rfl⟩;split
  ·rename_i g hg;refine aa.pure ?_;have:=Array.findIdx?_eq_some_iff_getElem.1 hg;exact⟨rfl,hx g this.1⟩
  ·exact aa.stuck _
 ·rintro a b ⟨rfl,h⟩;refine aa.bind (R:=VV ρ) ?_ ?_
  ·rcases h with h|h
   ·exact .inl h
   ·have e:ra ρ b=b:=by unfold ra;rw[h]
    have:=vg (P:=P) (ρ:=ρ) b;rwa[e]at this
  ·rintro v _ rfl;exact mB v
theorem LH (hx:∀g,g<P.globals.size→g<ρ.d∨ρ g=g)(args:Array Value):aa P ρ (VV ρ) (Extern.BytealgIndex.index args) (Extern.BytealgIndex.index (args.map (rv ρ))):=by
 obtain⟨l⟩:=args;rcases l with _|⟨b,_|⟨c,_|⟨d,l⟩⟩⟩
 ·exact aa.stuck "bytealg.Index: two arguments expected"
 ·exact aa.stuck "bytealg.Index: two arguments expected"
 ·have h:∀b c,Extern.BytealgIndex.index #[b,c]=(do
   let a ←Extern.Bytes.bytesOf b;let b ←Extern.Bytes.bytesOf c
   if b.size<2||(b.size:Int)>(←Extern.BytealgIndex.maxLen)then
    unsupported (.noEntry "extern/internal/bytealg.Index.length")
   if a.size≥2^32-15 then
    unsupported (.noEntry "extern/internal/bytealg.Index: a haystack of 2^32 - 15 bytes or more")
   match(List.range (a.size+1-b.size)).find? λi=>a.extract i (i+b.size)==b with
   |some i=>pure (goInt i)
   |none=>pure (goInt (-1))):=λ_ _=>rfl
  have e:(Array.map (rv ρ) { toList:=[b,c] })=#[rv ρ b,rv ρ c]:=by simp
  rw[e,h,h];refine aa.bind (sQ b) ?_;rintro x _ rfl;refine aa.bind (sQ c) ?_;rintro y _ rfl;refine aa.bind (LG hx) ?_;rintro m _ rfl;dsimp only;refine aa.ay (λ_=>?_) (λ_=>?_)
  ·exact trivial
  ·refine aa.ay (λ_=>?_) (λ_=>?_)
   ·exact trivial
   ·split
    ·exact aa.pure (by simp[VV,goInt,rv])
    ·exact aa.pure (by simp[VV,goInt,rv])
 ·exact aa.stuck "bytealg.Index: two arguments expected"
end
theorem od {cs:Array Value}(h:∀x∈cs,gH x):gH (.agg cs):=λρ=>by
 rw[rv];have h':∀x∈cs,rv ρ x=id x:=λx hx=>h x hx ρ;rw[dM h',Array.map_id]
theorem wH {v:Value}(h:gH v):∀x∈v.cells,gH x:=by
 intro x hx;cases v with
 |agg cs=>
  intro ρ;have:=h ρ;rw[rv]at this;simp only[Value.agg.injEq]at this;obtain⟨i,hi,rfl⟩:=zbp.1 (show x∈cs from hx);have h2:=congrArg (λa=>a[i]?) this;simp only[zal,zar hi,zaM,zap]at h2;exact h2
 |_=>simp only[Value.cells,zbb,zas,zbc,or_false]at hx;subst hx;exact h
theorem zg {α β:Type}(I:β→Prop){f:α→β→Option (ForInStep β)}(hs:∀a b s,I b→f a b=some s→I s.value):∀(l:List α) (init r:β),I init→forIn l init f=some r→I r
 |[],init,r,h0,h=>by
  simp only[List.forIn_nil,pure,zap]at h;exact h▸h0
 |a::l,init,r,h0,h=>by
  simp only[List.forIn_cons,bind,zay]at h;obtain⟨s,h1,h2⟩:=h;have hI:=hs a init s h0 h1;cases s with
  |done b=>simp only[pure,zap]at h2;exact h2▸hI
  |yield b=>exact zg I hs l b r hI h2
theorem ry {info:TypeId→Option TypeInfo}(hi:∀t i v,info t=some i→i.zero=some v→gH v){fs:Array Field}{i:TypeInfo}(h:Made.reckonStruct info fs=some i){v:Value}(hz:i.zero=some v):gH v:=by
 unfold Made.reckonStruct at h;simp only[bind,zay,pure,←zaZ]at h;obtain⟨a,ha,h⟩:=h;have key:∀arr,a.2.2.2.2.2.2.2.1=some arr→∀x∈arr,gH x:=by
  refine zg (λs=>∀arr,s.2.2.2.2.2.2.2.1=some arr→∀x∈arr,gH x) ?_ _ _ _ ?_ ha
  ·intro f b s hb hf;simp only[zay]at hf;obtain⟨j,hj,hf⟩:=hf;have fin:∀arr,(if b.2.1+j.size>Made.mostCells then none else b.2.2.2.2.2.2.2.1.bind λy=>j.zero.bind λz=>some (y++z.cells))=some arr→∀x∈arr,gH x:=by
    intro arr lz x hx;split at lz
    ·cases lz
    ·simp only[zay]at lz;obtain⟨y,hy,z,hz,e⟩:=lz;cases e;rcases Array.mem_append.1 hx with h1|h1
     ·exact hb y hy x h1
     ·exact wH (hi _ _ _ hj hz) x h1
   by_cases c1:j.str.isEmpty=true
   ·rw[if_pos c1]at hf;cases hf
   rw[if_neg c1]at hf;by_cases c2:f.embedded=true
   ·rw[if_pos c2]at hf;cases hf
   rw[if_neg c2]at hf;by_cases c3:f.tag.isEmpty=true
   ·rw[if_pos c3]at hf;by_cases c4:j.bytes=0
    ·simp only[zbk,if_pos c4]at hf;cases hf;exact fin
    ·simp only[zbk,if_neg c4]at hf;cases hf;exact fin
   ·rw[if_neg c3]at hf;rw[zay]at hf;obtain⟨tag,_,hf⟩:=hf;by_cases c4:j.bytes=0
    ·rw[if_pos c4]at hf;cases hf;exact fin
    ·rw[if_neg c4]at hf;cases hf;exact fin
  ·intro arr lz x hx;simp only[zap]at lz;subst lz;simp at hx
 split at h
 all_goals
  cases h;simp only[zam]at hz;obtain⟨arr,lz,rfl⟩:=hz;exact od (key arr lz)
theorem Ce {info:TypeId→Option TypeInfo}(hi:∀t i v,info t=some i→i.zero=some v→gH v){d:TypeDesc}{i:TypeInfo}(h:Made.reckon info d=some i){v:Value}(hz:i.zero=some v):gH v:=by
 have w0:∀(d:TypeDesc) (s:String) (z:Value) (c:Bool) (n:Nat),gH z→some (Made.word d s z c n)=some i→gH v:=by
  intro d s z c n hb e;cases e;simp only[Made.word]at hz;cases hz;exact hb
 unfold Made.reckon at h;split at h
 ·simp only[bind,zay,pure]at h;obtain⟨j,_,h⟩:=h;split at h
  ·cases h
  ·split at h
   ·cases h
   ·simp only[zay]at h;obtain⟨s,_,h⟩:=h;exact w0 _ _ _ _ _ (λρ=>by simp[rv]) h
  ·simp only[zay]at h;obtain⟨s,_,h⟩:=h;exact w0 _ _ _ _ _ (λρ=>by simp[rv]) h
 ·simp only[bind,zay,pure]at h;obtain⟨j,_,s,_,h⟩:=h;exact w0 _ _ _ _ _ (λρ=>by simp[rv]) h
 ·simp only[bind,zay,pure]at h;obtain⟨_,_,_,_,_,_,_,_,h⟩:=h;exact w0 _ _ _ _ _ (λρ=>by simp[rv]) h
 ·simp only[bind,zay,pure]at h;obtain⟨_,_,_,_,h⟩:=h;exact w0 _ _ _ _ _ (λρ=>by simp[rv]) h
 ·simp only[bind,zay,pure]at h;obtain⟨_,_,h⟩:=h;exact w0 _ _ _ _ _ (λρ=>by simp[rv]) h
 ·simp only[bind,zay,pure]at h;obtain⟨j,hj,s,_,h⟩:=h;cases h;simp only at hz;split at hz
  ·cases hz
  ·split at hz
   ·cases hz;exact od λx hx=>by simp at hx
   ·simp only[zam]at hz;obtain⟨zz,hzz,rfl⟩:=hz;refine od λx hx=>?_;rw[Array.mem_flatten]at hx;obtain⟨ys,h1,h2⟩:=hx;rw[Array.mem_replicate]at h1;obtain⟨_,rfl⟩:=h1;exact wH (hi _ _ _ hj hzz) x h2
 ·exact ry hi h hz
 ·cases h
theorem tR {T:Tables}(hT:∀(t:TypeId) (i:TypeInfo) (v:Value),T.types[t]?=some i→i.zero=some v→gH v):∀(n:Nat) (t:TypeId) (i:TypeInfo) (v:Value),Made.infoAt T n t=some i→i.zero=some v→gH v
 |0,t,i,v,h,_=>by simp[Made.infoAt]at h
 |n+1,t,i,v,h,hz=>by
  unfold Made.infoAt at h;split at h
  ·exact hT t i v h hz
  ·simp only[zay]at h;obtain⟨d,_,h⟩:=h;exact Ce (tR hT n) h hz
def yX:Value→Bool
 |.agg cs=>cs.toList.all jc
 |v=>jc v
def LI:Value→Bool
 |.tuple cs=>cs.toList.all yX
 |v=>yX v
def tyB (i:TypeInfo):Bool:=match i.zero with|some v=>LI v|none=>true
theorem wI {v:Value}(h:yX v=true):gH v:=by
 unfold yX at h;split at h
 ·rename_i cs;rw[zaE]at h;exact od λx hx=>ir (h x (Array.mem_toList_iff.2 hx))
 ·exact ir h
theorem EK {v:Value}(h:LI v=true):gH v:=by
 unfold LI at h;split at h
 ·rename_i cs;rw[zaE]at h;intro ρ;rw[rv];have h':∀x∈cs,rv ρ x=id x:=λx hx=>wI (h x (Array.mem_toList_iff.2 hx)) ρ;rw[dM h',Array.map_id]
 ·exact wI h
theorem GN {P:Program}(h:P.types.toList.all tyB=true):∀(t:TypeId) (i:TypeInfo) (v:Value),P.info? t=some i→i.zero=some v→∀ρ:Rn,rv ρ v=v:=by
 have hT:∀(t:TypeId) (i:TypeInfo) (v:Value),P.types[t]?=some i→i.zero=some v→gH v:=by
  intro t i v hi hz;rw[zaE]at h;have:=h i (Array.mem_toList_iff.2 (zaT hi));unfold tyB at this;rw[hz]at this;exact EK this
 intro t i v hi hz;unfold Tables.info? at hi;split at hi
 ·exact hT t i v hi hz
 ·exact tR hT _ t i v hi hz
end Go.Ren
namespace Go.Ren
open Go.Proofs.Tryz
open Go Go.Proofs
theorem II:prog.globals.size=4:=by kernel_rfl
def Lc:List Nat:=[44,63,73,74,75,76,120,121,127,128,147,148,149,150,151,152,168,169,170,171,172,174,186,187,188,189,191,197,198,199,200,201,202,214,215,223,224,225,226,227,243,247,248,249,250,251]
def Fc:FuncId→Bool:=λf=>Lc.any (·==f)
def Sc:Sd:=⟨λf=>f==149||f==187||f==186,4,4⟩
def Lz:List Nat:=[17,19,21,22,24,26,27,28,29,30,38,39,40,41,42,44,45,46,47,48,60,61,62,63,64,65,66,67,73,74,75,76,77,78,79,80,81,82,83,95,96,97,98,99,100,101,102,103,104,105,106,127,128,129,130,147,148,149,150,151,152,153,154,155,156,157,158,159,160,161,162,163,174,175,176,177,178,179,180,186,187,188,189,190,191,192,193,194,195,196,202,203,204,205,214,215,216,217,218,219,220,221,222,228,229,230,231,232,238,239,240,241,242,244,245,246]
def Fz:FuncId→Bool:=λf=>Lz.any (·==f)
def Sz:Sd:=⟨λf=>f==149||f==187||f==186,0,4⟩
instance acu:Shut prog Sc:=⟨II.symm,by rw[II];exact zaa _⟩
theorem OZ:Two prog Sz Sc:=⟨II.symm,by rw[II];decide,λ_ h=>h⟩
def Qz (F:FuncId→Bool)(S:Sd)(f:FuncId):Prop:=Gf prog S f∧∀fn c,prog.funcs[f]?=some fn→fn.body=some c→bh prog F S c=true
def qB (P:Program)(F:FuncId→Bool)(S:Sd):Option Func→Bool
 |some g=>!(g.name== "runtime.NumGoroutine")&&(match g.body with|some c=>bh P F S c|none=>false)
 |none=>false
theorem Sp {F:FuncId→Bool}{S:Sd}{f:FuncId}(h:qB prog F S prog.funcs[f]?=true):Qz F S f:=by
 cases hg:prog.funcs[f]? with
 |none=>rw[hg]at h;cases h
 |some g=>
  rw[hg]at h;simp only[qB,zac,Bool.not_eq_true']at h;obtain⟨hn,hc⟩:=h;cases hb:g.body with
  |none=>rw[hb]at hc;cases hc
  |some c0=>
   rw[hb]at hc;refine⟨⟨g,hg,hn,.inl (by rw[hb];rfl)⟩,λfn c h1 h2=>?_⟩;rw[hg]at h1;cases h1;rw[hb]at h2;cases h2;exact hc
theorem wJ {F:FuncId→Bool}{S:Sd}{f:FuncId}{g:Func}{e:Array Value→Sem Value}(h:prog.funcs[f]?=some g)(hn:(g.name== "runtime.NumGoroutine")=false)(hb:g.body.isNone=true)(hx:Extern.findNext g=none)(hf:Extern.find g=some e)(he:∀(ρ:Rn) (args:Array Value),qO S ρ→aa prog ρ (VV ρ) (e args) (e (args.map (rv ρ)))):Qz F S f:=by
 refine⟨⟨g,h,hn,.inr ⟨hb,hx,e,hf,λρ args _ hfx=>he ρ args hfx⟩⟩,λfn c h1 h2=>?_⟩;rw[h]at h1;cases h1;rw[h2]at hb;cases hb
theorem X8:Qz Fc Sc 202:=wJ (g:=f202) (e:=Extern.BytealgIndexByte.indexByte) (by kernel_rfl) (by kernel_rfl) (by kernel_rfl) (by kernel_rfl) (by kernel_rfl) λ_ args hx=>tQ args
theorem X9:Qz Fc Sc 215:=wJ (g:=f215) (e:=Extern.AbiNoEscape.same) (by kernel_rfl) (by kernel_rfl) (by kernel_rfl) (by kernel_rfl) (by kernel_rfl) λ_ args hx=>LF args
theorem Ya:Qz Fc Sc 248:=wJ (g:=f248) (e:=Extern.BytealgIndex.index) (by kernel_rfl) (by kernel_rfl) (by kernel_rfl) (by kernel_rfl) (by kernel_rfl) λ_ args hx=>LH (λg hg=>hx.l g (by rw[II]at hg;exact hg)) args
theorem Yb:Qz Fz Sz 202:=wJ (g:=f202) (e:=Extern.BytealgIndexByte.indexByte) (by kernel_rfl) (by kernel_rfl) (by kernel_rfl) (by kernel_rfl) (by kernel_rfl) λ_ args hx=>tQ args
theorem Yc:Qz Fz Sz 215:=wJ (g:=f215) (e:=Extern.AbiNoEscape.same) (by kernel_rfl) (by kernel_rfl) (by kernel_rfl) (by kernel_rfl) (by kernel_rfl) λ_ args hx=>LF args
theorem Sq:prog.types.toList.all tyB=true:=by kernel_rfl
theorem aaJ:(Lc.all λf=>f==202||f==215||f==248||qB prog Fc Sc prog.funcs[f]?)=true:=by kernel_rfl
theorem Sr (f:Nat)(hf:f∈Lc):Qz Fc Sc f:=by
 have h:=zaE.1 aaJ f hf;by_cases LJ:f=202
 ·subst LJ;exact X8
 by_cases LK:f=215
 ·subst LK;exact X9
 by_cases Yd:f=248
 ·subst Yd;exact Ya
 simp only[beq_eq_false_iff_ne.2 LJ,beq_eq_false_iff_ne.2 LK,beq_eq_false_iff_ne.2 Yd,Bool.false_or]at h;exact Sp h
theorem Ss {f:FuncId}(h:Fc f=true):f∈Lc:=by
 unfold Fc at h;rw[List.any_eq_true]at h;obtain⟨x,hx,e⟩:=h;rw[←(beq_iff_eq.1 e)];exact hx
theorem ma:jB prog Fc Sc:=by
 refine⟨λg hg=>?_,λf hf=>(Sr f (Ss hf)).1,λf fn c hf h1 h2=>(Sr f (Ss hf)).2 fn c h1 h2,GN Sq⟩;have p5:(g==149||g==187||g==186)=true:=hg;simp only[Bool.or_eq_true,beq_iff_eq]at p5;rcases p5 with(rfl|rfl)|rfl<;>rfl
theorem aaK:(Lz.all λf=>f==202||f==215||qB prog Fz Sz prog.funcs[f]?)=true:=by kernel_rfl
theorem Su (f:Nat)(hf:f∈Lz):Qz Fz Sz f:=by
 have h:=zaE.1 aaK f hf;by_cases LJ:f=202
 ·subst LJ;exact Yb
 by_cases LK:f=215
 ·subst LK;exact Yc
 simp only[beq_eq_false_iff_ne.2 LJ,beq_eq_false_iff_ne.2 LK,Bool.false_or]at h;exact Sp h
theorem Sv {f:FuncId}(h:Fz f=true):f∈Lz:=by
 unfold Fz at h;rw[List.any_eq_true]at h;obtain⟨x,hx,e⟩:=h;rw[←(beq_iff_eq.1 e)];exact hx
theorem dV:jB prog Fz Sz:=by
 refine⟨λg hg=>?_,λf hf=>(Su f (Sv hf)).1,λf fn c hf h1 h2=>(Su f (Sv hf)).2 fn c h1 h2,GN Sq⟩;have p5:(g==149||g==187||g==186)=true:=hg;simp only[Bool.or_eq_true,beq_iff_eq]at p5;rcases p5 with(rfl|rfl)|rfl<;>rfl
end Go.Ren
set_option linter.unusedSectionVars false
namespace Go.Ren
open Go.Proofs.Tryz
open Go Go.Conc Go.ConcX Go.RowKit Go.Conc.Lib Go.ConcX.Gen Go.Proofs
theorem Ye:prog.funcs[71]?=some f71:=by kernel_rfl
def LL:Frame:=baseD 69
def rz (n:Nat):Frame:={ (default:Frame)with fn:=n,defers:=[],mode:= .panicking [goexitEntry] }
theorem EL (T:Array Value):QuitsD prog 2 0 (G { LL.at ⟨T,[]⟩ []with mode:= .returning } [(rz prog.funcs.size)]):=by
 refine QuitsD.ctl (g':=G (rz prog.funcs.size) []) rfl (λw=>?_) ?_
 ·simp[G,stepG,unwind,doReturn,results,Frame.at,LL,baseD,rz,f69,seen,GStep.after,goexitEntry]
 refine QuitsD.ctl (g':={ G (rz prog.funcs.size) []with status:= .finished }) rfl (λw=>?_) ⟨rfl,rfl⟩;simp[G,stepG,unwind,rz,goexitEntry,Frame.catches];rfl
def wK (f:Func):Array Oper:=match f.body with|some (.seq _ (.region _ ops _))=>ops|_=>#[]
theorem Cf [Payload] {Wg C Low:Nat} [Shy Wg C] {vals:List Value}(hW:Wg<Low)(hC:C<Low)(hCW:C≠Wg)(T T':Array Value)(todo:List Item)(w:World)(hF:KCa cG.tWg Wg w∧Full C vals w):Goes prog false (RCa cG.tWg Wg Low) (DCs kI Wg C) (AtR0 prog cG.tWg Wg C Low vals) (4+23)
  (G { (base 71).at ⟨T',[]⟩ todo with mode:= .returning } [LL.at ⟨T,[dcall 70 #[.pointer (some ⟨Wg,0,none⟩)]]⟩ [.inRegion (wK f69) [2]],(rz prog.funcs.size)]) w:=by
 u_leave0 Ye (ka_rely hC hCW) hF
 u_c stepG_region_end (ka_rely hC hCW) hF
 u_c stepG_end (ka_rely hC hCW) hF
 u_in (ka_rely hC hCW) hF
 rw[stepG_unwind_enter rfl GK (nm_done cG) rfl];simp only[goes_go];refine⟨by u_nil,?_⟩;have hA:=@doneD _ cG prog wgz kI Wg C Low _ vals hW hC hCW;exact hA rfl (EL _) _ hF
theorem LM:(prog.funcs[71]?).any (·.norace)=false:=by kernel_rfl
theorem ye {Wg Low ch:Nat}{x y:sP Wg Low}{own:Nat→Prop}(O0:x.C≠ch)(IJ:y.C≠ch)(T T':Array Value)(todo:List Item)(ty rt:TypeId)(bs:Array Bool)(w:World)
 (hx:w.heap[x.C]?=some (.cells x.vals.toArray x.pl.ety))(hy:w.heap[y.C]?=some (.cells y.vals.toArray y.pl.ety)):
 wy prog ch (IE prog cG.tWg x y) own (G { (base 71).at ⟨T',[fX (.chan (some ch)) ty rt bs]⟩ todo with mode:= .returning } [LL.at ⟨T,[dcall 70 #[.pointer (some ⟨Wg,0,none⟩)]]⟩ [.inRegion (wK f69) [2]],(rz prog.funcs.size)]) w:=by
 refine⟨rfl,rfl,G { (base 71).at ⟨T',[]⟩ todo with mode:= .returning } [LL.at ⟨T,[dcall 70 #[.pointer (some ⟨Wg,0,none⟩)]]⟩ [.inRegion (wK f69) [2]],(rz prog.funcs.size)],rfl,λs r tm hc=>⟨p9 rfl hc LM,λEn=>⟨?_,?_⟩⟩⟩
 ·exact⟨_,@Cf x.pl Wg x.C Low (l9 Wg x.C Low nD x.hW x.hC) x.vals x.hW x.hC x.hCW T T' todo _ ⟨.inl En,λ_=>(kH O0).trans hx⟩⟩
 ·exact⟨_,@Cf y.pl Wg y.C Low (l9 Wg y.C Low nD y.hW y.hC) y.vals y.hW y.hC y.hCW T T' todo _ ⟨.inl En,λ_=>(kH IJ).trans hy⟩⟩
theorem LN {Wg Low ch:Nat}{x y:sP Wg Low}{ro own:Nat→Prop}(O0:x.C≠ch)(IJ:y.C≠ch)(yf:ro x.C)(Cg:ro y.C)(T T':Array Value)(k:List Item)(ty rt:TypeId)(bs:Array Bool)(w:World)
 (hx:w.heap[x.C]?=some (.cells x.vals.toArray x.pl.ety))(hy:w.heap[y.C]?=some (.cells y.vals.toArray y.pl.ety)):
 jT prog ro ch (IE prog cG.tWg x y) [] own (G ((base 71).at ⟨T',[fX (.chan (some ch)) ty rt bs]⟩ (.code .ret::k)) [LL.at ⟨T,[dcall 70 #[.pointer (some ⟨Wg,0,none⟩)]]⟩ [.inRegion (wK f69) [2]],(rz prog.funcs.size)]) w:=
 aj.silent rfl (λ_=>stepG_ret') (.stop λw₁ hr=>ye O0 IJ T T' _ ty rt bs w₁ ((hr.block _ (.inr yf)).trans hx) ((hr.block _ (.inr Cg)).trans hy))
end Go.Ren
namespace Go.Loop
def cT (c:Int):Bool:=decide (48≤c∧c≤57)
def gw (c:Int):Bool:=decide ((97≤c∧c≤122)∨(65≤c∧c≤90))
def kJ (c:Int):Bool:=decide (c=43∨c=45∨c=42∨c=47∨c=60∨c=62∨c=61∨c=63∨c=33∨c=46∨c=95)
def bt (c:Int):Bool:=gw c||cT c||kJ c
def LO (c:UInt8):Bool:=bt (c.toNat:Int)
def br (p:Int→Bool):List UInt8→Nat
 |[]=>0
 |c::r=>if p (c.toNat:Int)then br p r+1 else 0
def dn:List UInt8→Bool
 |[]=>false
 |c::r=>if c.toNat=43∨c.toNat=45 then(match r with|[]=>false|d::_=>cT (d.toNat:Int))else cT (c.toNat:Int)
def rA (l:List UInt8):Bool:=!l.isEmpty&&!(l==[46])&&!dn l&&l.all LO
def Ar (n d:Int):Bool:=decide (1≤d∧d≤1000000∧-1000000≤n∧n≤1000000∧Int.gcd n d=1)
theorem Ch (n d:Int)(hd:1≤d):(d/((Int.gcd n d:Nat):Int)==d)=decide (Int.gcd n d=1):=by
 have hp:0<Int.gcd n d:=zbJ _ (by omega);rw[zaz,beq_iff_eq,decide_eq_true_iff];constructor
 ·intro h;by_cases h1:Int.gcd n d=1
  ·exact h1
  ·exfalso;have h2:(2:Int)≤((Int.gcd n d:Nat):Int):=by omega
   have:d/((Int.gcd n d:Nat):Int)<d:=Int.ediv_lt_self_of_pos_of_ne_one (by omega) (by omega);omega
 ·intro h;rw[h];simp
theorem yg (c:UInt8)(r:List UInt8)(h1:¬(c.toNat:Int)=43)(h2:¬(c.toNat:Int)=45):dn (c::r)=cT (c.toNat:Int):=by
 simp only[dn];rw[if_neg (by omega)]
theorem pJ (c:UInt8)(h:(c.toNat:Int)=43∨(c.toNat:Int)=45):dn [c]=false:=by
 simp only[dn];rw[if_pos (by omega)]
theorem pK (c d:UInt8)(r:List UInt8)(h:(c.toNat:Int)=43∨(c.toNat:Int)=45):dn (c::d::r)=cT (d.toNat:Int):=by
 simp only[dn];rw[if_pos (by omega)]
theorem Ci (p:Int→Bool)(l:List UInt8):decide (br p l=l.length)=l.all (λc=>p (c.toNat:Int)):=by
 induction l with
 |nil=>rfl
 |cons c r ih=>
  simp only[br,zaf,zak];by_cases h:p (c.toNat:Int)=true
  ·simp only[h,if_true,zaW,←ih];rw[zaz];simp
  ·simp[h]
def nameOf (n:Int):List UInt8:=
 if n=32 then[115,112,97,99,101]else if n=10 then[110,101,119,108,105,110,101]else if n=9 then[116,97,98]
 else if n=0 then[110,117,108]else if n=127 then[100,101,108,101,116,101]else if n=27 then[101,115,99,97,112,101]else[]
def hasName (n:Int):Bool:=decide (n=32∨n=10∨n=9∨n=0∨n=127∨n=27)
def rB (n:Int):Bool:=hasName n||decide (33≤n∧n≤126)
def jU (l:List UInt8):Int:=
 if l=[115,112,97,99,101]then 32 else if l=[110,101,119,108,105,110,101]then 10 else if l=[116,97,98]then 9
 else if l=[110,117,108]then 0 else if l=[100,101,108,101,116,101]then 127 else if l=[101,115,99,97,112,101]then 27 else -1
structure Tok where
 kind:Nat
 from_:Nat
 dF:Nat
 text:List UInt8
 n:Int
 d:Int
 fault:Int
deriving DecidableEq
def aq (k a e:Nat):Tok:=⟨k,a,e,[],0,0,0⟩
def bY (a:Nat):Tok:=aq 1 a a
def b9 (s:List UInt8):Tok:=aq 0 s.length s.length
def Tok.lastB (t:Tok):Bool:=decide (t.kind=0∨t.kind=1)
def bK (c:UInt8):Bool:=decide (c.toNat=32∨c.toNat=9∨c.toNat=10)
def fQ:List UInt8→Nat
 |[]=>0
 |c::r=>if c=10 then 0 else fQ r+1
def cy:Nat→List UInt8→Nat×Bool
 |o,c::d::r=>
  if c=35∧d=124 then((cy (o+1) r).1+2,(cy (o+1) r).2)
  else if c=124∧d=35 then(if o≤1 then(2,true)else((cy (o-1) r).1+2,(cy (o-1) r).2))
  else((cy o (d::r)).1+1,(cy o (d::r)).2)
 |_,[_]=>(1,false)
 |_,[]=>(0,false)
def cg:List UInt8→Bool
 |c::d::_=>decide (c=35∧d=124)
 |_=>false
def bB:Nat→Bool→List UInt8→Nat×Bool
 |0,b,_=>(0,b)
 |_+1,b,[]=>(0,b)
 |n+1,b,c::r=>
  if bK c then((bB n b r).1+1,(bB n b r).2)
  else if c.toNat=59 then((bB n b (r.drop (fQ r))).1+(fQ r+1),(bB n b (r.drop (fQ r))).2)
  else if cg (c::r)then((bB n (cy 0 (c::r)).2 ((c::r).drop (cy 0 (c::r)).1)).1+(cy 0 (c::r)).1,(bB n (cy 0 (c::r)).2 ((c::r).drop (cy 0 (c::r)).1)).2)
  else(0,b)
def nt (s:List UInt8)(a:Nat):Nat:=a+(bB (s.drop a).length true (s.drop a)).1
def Cj (c:UInt8):Option UInt8:=if c=92∨c=34 then some c else if c=110 then some 10 else if c=116 then some 9 else none
inductive LP where
 |fin
 |bad
 |ok (e:Nat) (b:List UInt8)
def fx:Nat→List UInt8→List UInt8→LP
 |_,_,[]=> .fin
 |i,acc,[c]=>if c=34 then .ok (i+1) acc else .fin
 |i,acc,c::e::r=>if c=34 then .ok (i+1) acc else if c=92 then(match Cj e with|none=> .bad |some b=>fx (i+2) (acc++[b]) r)else fx (i+1) (acc++[c]) (e::r)
def lg (s:List UInt8)(a:Nat):Tok:=
 match fx (a+1) [] (s.drop (a+1))with
 |.fin=>b9 s
 |.bad=>bY a
 |.ok e b=>{ aq 8 a e with text:=b }
def rC (l:List UInt8):Option Int:=if 0≤jU l then some (jU l)else none
def fR (s:List UInt8)(a b:Nat):List UInt8:=(s.drop a).take (b-a)
def kK (s:List UInt8)(a:Nat):Tok:=
 if 1<br gw (s.drop (a+2))then
  (match rC (fR s (a+2) (a+2+br gw (s.drop (a+2))))with
   |none=>bY a
   |some k=>{ aq 9 a (a+2+br gw (s.drop (a+2)))with n:=k })
 else match s.drop (a+2)with
  |[]=>bY a
  |c::_=>if 33≤c.toNat∧c.toNat≤126 then { aq 9 a (a+3)with n:=(c.toNat:Int) } else bY a
def gz (n:Int)(l:List UInt8):Int:=l.foldl (λn c=>min (n*10+((c.toNat:Int)-48)) 1000001) n
def ae (l:List UInt8):Int:=gz 0 l
def eo (s:List UInt8)(a:Nat):Option Tok:=
 let k:=br cT (s.drop (a+1))
 if k=0∨3<k then none
 else match s.drop (a+1+k)with
  |[]=>none
  |c::_=>if c.toNat=61 then some { aq 10 a (a+1+k+1)with n:=ae (fR s (a+1) (a+1+k)) } else if c.toNat=35 then some { aq 11 a (a+1+k+1)with n:=ae (fR s (a+1) (a+1+k)) } else none
def dW (s:List UInt8)(a:Nat):Tok:=
 let e:=a+1+br bt (s.drop (a+1));let w:=fR s (a+1) e
 if w=[116]∨w=[116,114,117,101]then { aq 12 a e with n:=1 } else if w=[102]∨w=[102,97,108,115,101]then aq 12 a e else bY a
def gA (s:List UInt8)(a:Nat):Tok:=
 match s.drop (a+1)with
 |[]=>(eo s a).getD (dW s a)
 |c::_=>if c.toNat=40 then aq 5 a (a+2)else if c.toNat=59 then aq 6 a (a+2)else if c.toNat=92 then kK s a else(eo s a).getD (dW s a)
def qa:List UInt8→Option (List UInt8×List UInt8)
 |[]=>none
 |c::r=>if c.toNat=47 then some ([],r)else(qa r).map λp=>(c::p.1,p.2)
def aV (l:List UInt8):Bool:=!l.isEmpty&&l.all λc=>cT (c.toNat:Int)
def numberOf (neg:Bool)(l:List UInt8):Option (Int×Int×Int):=
 let p:=(qa l).getD (l,[49])
 if aV p.1&&aV p.2 then
  (let n:=ae p.1
   let d:=ae p.2
   if 1000000<n∨1000000<d then some (0,0,7)
   else if d=0 then some (0,0,3)
   else let m:=if neg then -n else n
    some (m.tdiv (Int.gcd m d),d/(Int.gcd m d),0))
 else none
def gW:List UInt8→Option (Int×Int×Int)
 |[]=>none
 |c::r=>if c.toNat=45 then numberOf true r else if c.toNat=43 then numberOf false r else numberOf false (c::r)
def jG (s:List UInt8)(a:Nat):Tok:=
 let e:=a+br bt (s.drop a);let w:=fR s a e
 if w=[46]then aq 7 a e
 else if !dn w then { aq 14 a e with text:=w }
 else match gW w with
  |none=>bY a
  |some (n,d,f)=>{ aq 13 a e with n:=n,d:=d,fault:=f }
def gf (s:List UInt8)(a:Nat):Tok:=
 match s.drop a with
 |[]=>b9 s
 |c::_=>
  if c.toNat=40 then aq 2 a (a+1)else if c.toNat=41 then aq 3 a (a+1)else if c.toNat=39 then aq 4 a (a+1)
  else if c.toNat=34 then lg s a else if c.toNat=35 then gA s a else if bt (c.toNat:Int)then jG s a else bY a
def ax (s:List UInt8)(a:Nat):Tok:=gf s (nt s a)
def aQ:Nat→List UInt8→Nat→List Tok
 |0,_,_=>[]
 |n+1,s,a=>if(ax s a).lastB then[ax s a]else ax s a::aQ n s (ax s a).dF
theorem rD:∀l:List UInt8,fQ l≤l.length
 |[]=>zaa _
 |c::r=>by
  have:=rD r;unfold fQ;split<;>simp<;>omega
theorem Ck (o:Nat)(l:List UInt8):(cy o l).1≤l.length:=by
 fun_induction cy o l<;>simp_all<;>omega
theorem zh (o:Nat)(l:List UInt8)(h:cg l=true):2≤(cy o l).1:=by
 match l,h with
 |c::d::r,h=>
  simp only[cg,decide_eq_true_eq]at h;unfold cy;simp[h]
theorem rE:∀(n:Nat) (b:Bool) (l:List UInt8),(bB n b l).1≤l.length
 |0,b,l=>by simp[bB]
 |n+1,b,[]=>by simp[bB]
 |n+1,b,c::r=>by
  have h1:=rE n b r;have h2:=rE n b (r.drop (fQ r));have h3:=rE n (cy 0 (c::r)).2 ((c::r).drop (cy 0 (c::r)).1);have h4:=rD r;have h5:=Ck 0 (c::r);unfold bB;split
  ·simp;omega
  ·split
   ·simp at h2 ⊢;omega
   ·split
    ·simp only[zah]at h3 ⊢;omega
    ·simp
theorem Cm {s:List UInt8}{a:Nat}(h:a≤s.length):a≤nt s a∧nt s a≤s.length:=by
 have:=rE (s.drop a).length true (s.drop a);unfold nt;simp only[zah]at this ⊢;omega
theorem jv (p:Int→Bool):∀l:List UInt8,br p l≤l.length
 |[]=>zaa _
 |c::r=>by
  have:=jv p r;unfold br;split<;>simp<;>omega
theorem wL:∀(i:Nat) (acc l:List UInt8) (e:Nat) (b:List UInt8),fx i acc l=.ok e b→i<e∧e≤i+l.length
 |i,acc,[],e,b,h=>by simp[fx]at h
 |i,acc,[c],e,b,h=>by
  unfold fx at h;split at h
  ·simp only[LP.ok.injEq]at h;obtain⟨rfl,_⟩:=h;simp
  ·simp at h
 |i,acc,c::x::r,e,b,h=>by
  unfold fx at h;split at h
  ·simp only[LP.ok.injEq]at h;obtain⟨rfl,_⟩:=h;simp
  ·split at h
   ·split at h
    ·simp at h
    ·have:=wL _ _ _ _ _ h;simp at this ⊢;omega
   ·have:=wL _ _ _ _ _ h;simp at this ⊢;omega
def wN (s:List UInt8)(a:Nat)(t:Tok):Prop:=t.from_≤s.length∧t.dF≤s.length∧(t.lastB=false→a<t.dF∧a≤t.from_)
theorem ie {s:List UInt8}{a b:Nat}(h:b≤s.length):wN s a (bY b):=⟨h,h,λe=>by simp[bY,aq,Tok.lastB]at e⟩
theorem Cn {s:List UInt8}{a:Nat}:wN s a (b9 s):=⟨zaa _,zaa _,λe=>by simp[b9,aq,Tok.lastB]at e⟩
theorem fH {s:List UInt8}{a:Nat}{t:Tok}(h1:t.from_=a)(h2:a<t.dF)(h3:t.dF≤s.length):wN s a t:=⟨by omega,h3,λ_=>⟨h2,by omega⟩⟩
theorem EM {s:List UInt8}{a:Nat}(h:a<s.length):wN s a (dW s a):=by
 have:=jv bt (s.drop (a+1));simp only[zah]at this;unfold dW;simp only;split
 ·exact fH rfl (by simp[aq];omega) (by simp[aq];omega)
 ·split
  ·exact fH rfl (by simp[aq];omega) (by simp[aq];omega)
  ·exact ie (by omega)
theorem EN {s:List UInt8}{a:Nat}(h:a<s.length):wN s a ((eo s a).getD (dW s a)):=by
 have:=jv cT (s.drop (a+1));simp only[zah]at this;have ht:=EM h;unfold eo;simp only;split
 ·exact ht
 ·split
  ·exact ht
  ·rename_i hd;have hl:a+1+br cT (s.drop (a+1))<s.length:=by
    have h2:=congrArg List.length hd;simp only[zah,zak]at h2;omega
   split
   ·exact fH rfl (by simp[aq];omega) (by simp[aq];omega)
   ·split
    ·exact fH rfl (by simp[aq];omega) (by simp[aq];omega)
    ·exact ht
theorem IK {s:List UInt8}{a:Nat}(h:a+1<s.length):wN s a (kK s a):=by
 have:=jv gw (s.drop (a+2));simp only[zah]at this;unfold kK;split
 ·split
  ·exact ie (by omega)
  ·exact fH rfl (by simp[aq];omega) (by simp[aq];omega)
 ·split
  ·exact ie (by omega)
  ·rename_i hd;have h2:=congrArg List.length hd;simp only[zah,zak]at h2;split
   ·exact fH rfl (by simp[aq]) (by simp[aq];omega)
   ·exact ie (by omega)
theorem IL {s:List UInt8}{a:Nat}(h:a<s.length):wN s a (gA s a):=by
 have hl:=EN h;unfold gA;split
 ·exact hl
 ·rename_i hd;have h2:=congrArg List.length hd;simp only[zah,zak]at h2;split
  ·exact fH rfl (by simp[aq]) (by simp[aq];omega)
  ·split
   ·exact fH rfl (by simp[aq]) (by simp[aq];omega)
   ·split
    ·exact IK (by omega)
    ·exact hl
theorem IM {s:List UInt8}{a:Nat}(h:a<s.length):wN s a (lg s a):=by
 unfold lg;split
 ·exact Cn
 ·exact ie (by omega)
 ·rename_i e b he;have:=wL _ _ _ _ _ he;simp only[zah]at this;exact fH rfl (by simp[aq];omega) (by simp[aq];omega)
theorem IP {s:List UInt8}{a:Nat}(h:a<s.length)(hp:0<br bt (s.drop a)):wN s a (jG s a):=by
 have:=jv bt (s.drop a);simp only[zah]at this;unfold jG;simp only;split
 ·exact fH rfl (by simp[aq];omega) (by simp[aq];omega)
 ·split
  ·exact fH rfl (by simp[aq];omega) (by simp[aq];omega)
  ·split
   ·exact ie (by omega)
   ·exact fH rfl (by simp[aq];omega) (by simp[aq];omega)
theorem O1 {s:List UInt8}{a:Nat}:wN s a (gf s a):=by
 unfold gf;split
 ·exact Cn
 ·rename_i c r hd;have h2:=congrArg List.length hd;simp only[zah,zak]at h2;have hlt:a<s.length:=by omega
  split
  ·exact fH rfl (by simp[aq]) (by simp[aq];omega)
  ·split
   ·exact fH rfl (by simp[aq]) (by simp[aq];omega)
   ·split
    ·exact fH rfl (by simp[aq]) (by simp[aq];omega)
    ·split
     ·exact IM hlt
     ·split
      ·exact IL hlt
      ·split
       ·rename_i hw;exact IP hlt (by rw[hd];simp[br,hw])
       ·exact ie (by omega)
theorem zi {s:List UInt8}{a:Nat}(h:a≤s.length):wN s a (ax s a):=by
 have h1:=Cm h;obtain⟨f1,f2,f3⟩:=O1 (s:=s) (a:=nt s a);exact⟨f1,f2,λe=>by have:=f3 e;unfold ax at *;omega⟩
end Go.Loop
