import Derived.Deep.DeepAppendWide
import Derived.Test.YtlhimdjkkiflhaaGreatDoorKnown12
set_option maxHeartbeats 8000000
set_option maxRecDepth 100000
set_option linter.unusedSectionVars false
namespace Go.Ren
open Go.Proofs.Tryz
open Go Go.Conc Go.ConcX Go.RowKit Go.Conc.Lib Go.ConcX.Gen Go.Proofs Go.Loop
section
variable {P:Program}{main:Bool}{ro own:Nat→Prop}{Stop:(Nat→Prop)→Goroutine→World→Prop}{W:World}{b:Frame}{a:Act}{ops:Array Oper}{i:Nat}{rest:List Nat}{o:Oper}{kk:List Item}{cs:List Frame}
theorem ai.FK (ho:ops[i]?=some o)(hw:Region.wanted o (yielded ops a.tmps)=true)(hk:b.kind≠.early){dd:Option Tmp}(hdd:o.dst=dd){e:TypeId}{x:Operand}(hop:o.op=.load e x){ad:Addr}(hx:a.eval x=.pointer (some ad))(hr:ro ad.block){v:Value}(hv:W.cell? ad=some v)
 (hl:∀(w:World),w.cell? ad=some v→(Instr.loadAt e (.pointer (some ad))).run P w=.ok v w∧∀ev∈(Instr.loadAt e (.pointer (some ad))).events P w #[],ev.loc=.cell ad∧ev.write=false)
 (k:ai P main ro Stop own (G (b.at (a.put dd v) (.inRegion ops rest::kk)) cs) W):ai P main ro Stop own (G (b.at a (.inRegion ops (i::rest)::kk)) cs) W:=by
 subst hdd;refine ai.step' rfl λaH hR=>?_;have hc:aH.cell? ad=some v:=by
  rw[←hv];simp only[World.cell?,hR.block _ (.inr hr)]
 obtain⟨h1,h2⟩:=hl aH hc;have hrun:(execOp a.eval o).run P aH=.ok (.value v) aH:=by
  unfold execOp;simp[hop,hx,h1]
 have ic:(execOp a.eval o).events P aH #[]=(Instr.loadAt e (.pointer (some ad))).events P aH #[]:=by
  unfold execOp;simp[hop,hx]
 refine⟨_,aH,_,stepG_value ho hw hk hrun,⟨rfl,rfl,rfl,zaa _,λ_ _ _=>rfl,λev he=>?_⟩,?_⟩
 ·unfold listed at he;rw[ic]at he;obtain⟨h3,h4⟩:=h2 ev (mem_seen he);unfold BJ;rw[h3];exact .inr ⟨hr,h4⟩
 ·rw[sO own rfl];exact k.rely hR
end
theorem Nt {e:TypeId}(he:e=9∨e=132)(w:World)(ad:Addr){v:Value}(h:w.cell? ad=some v):(Instr.loadAt e (.pointer (some ad))).run prog w=.ok v w∧∀ev∈(Instr.loadAt e (.pointer (some ad))).events prog w #[],ev.loc=.cell ad∧ev.write=false:=by
 rcases he with rfl|rfl
 ·refine⟨by simp[go_sem,Instr.loadAt,Instr.sureAddr,loadVar,isAgg,h],λev he=>?_⟩;have:(Instr.loadAt 9 (.pointer (some ad))).events prog w #[]=(load ad).events prog w #[]:=by simp[go_sem,Instr.loadAt,Instr.sureAddr,loadVar,isAgg]
  rw[this]at he;exact(events_load_at w ad _ #[] h ev he).resolve_left (by simp)
 ·refine⟨by simp[go_sem,Instr.loadAt,Instr.sureAddr,loadVar,isAgg,h],λev he=>?_⟩;have:(Instr.loadAt 132 (.pointer (some ad))).events prog w #[]=(load ad).events prog w #[]:=by simp[go_sem,Instr.loadAt,Instr.sureAddr,loadVar,isAgg]
  rw[this]at he;exact(events_load_at w ad _ #[] h ev he).resolve_left (by simp)
def sZ (Wg X Y:Nat):Deferred:={ target:= .fn (.func 69) #[.pointer (some ⟨Wg,0,none⟩),.pointer (some ⟨X,0,none⟩),.pointer (some ⟨Y,0,none⟩)],args:=#[] }
def Tb (Wg X Y:Nat):Array Value:=#[.pointer (some ⟨Wg,0,none⟩),.pointer (some ⟨X,0,none⟩),.pointer (some ⟨Y,0,none⟩),undef,undef,undef]
def yu (f:Func):Code:=f.body.getD .skip
theorem JO (Wg X Y:Nat)(w:World):stepG prog false (born prog (sZ Wg X Y)) w=.go (G (Ng.at ⟨Tb Wg X Y,[]⟩ [.code (yu f69)]) [(qY prog.funcs.size)]) w #[]:=by
 simp[born,stepG,unwind,callDeferred,sZ,invoke,callFunc,f69,GStep.after,G,Frame.enter,Ng,baseD,Frame.at,Tb,yu,qY,seen]
def YK (f:Func):Array Oper:=cC (aC (yu f))
def a26 (s:List UInt8)(ch:Nat):Act:=⟨#[.string ⟨⟨s⟩⟩,.chan (some ch)]++Array.replicate 14 undef,[]⟩
variable {Wg Low ch:Nat}{x y:sX Wg Low}{ro:Nat→Prop}
section
variable (QX:x.C≠ch)(JG:y.C≠ch)(ym:ro x.C)(Cy:ro y.C){s:List UInt8}
 (hN:∀(n:Nat) (w:World),n≤s.length→Calls prog 120 #[.string ⟨⟨s⟩⟩,.int .i64 n] w λe _=>∃v,e=.returned v∧v=bK (aZ s n))
 (hL:∀(t:Tok) (w:World),Calls prog 121 #[bK t] w λe _=>∃v,e=.returned v∧v=.bool t.lastB)
include QX JG ym Cy hN hL in
theorem FL (W:World)(hH:pP ro (λ_=>False) W)(hb:prog.globals.size≤W.heap.size)(hP:Hx x y W)(hx:W.cell? ⟨x.C,0,none⟩=some (.string ⟨⟨s⟩⟩))(hy:W.cell? ⟨y.C,0,none⟩=some (.chan (some ch))):jw prog ro ch (JE prog cg.tWg x y) ((aU (s.length+1) s 0).map bK) (λ_=>False) (born prog (sZ Wg x.C y.C)) W:=by
 rw[cY];refine ai.silent rfl (λ_=>JO _ _ _ _) ?_;refine ai.silent rfl (λ_=>stepG_seq (x:= .region 0 (YK f69) false) (y:= .region 1 (wF f69) false)) ?_;refine ai.silent rfl (λ_=>stepG_region) ?_;refine ai.silent rfl (λ_=>stepG_defer (ops:=YK f69) (i:=0) (rest:=[]) rfl rfl (by decide) rfl) ?_;refine ai.silent rfl (λ_=>stepG_region_end) ?_;refine ai.silent rfl (λ_=>stepG_region) ?_;have hm:Array.map (⟨Tb Wg x.C y.C,[]⟩:Act).eval #[Operand.tmp 0]=#[.pointer (some ⟨Wg,0,none⟩)]:=by simp[Act.eval,Tb]
 rw[hm];change ai _ _ _ _ _ (G (Ng.at ⟨Tb Wg x.C y.C,[dcall 70 #[.pointer (some ⟨Wg,0,none⟩)]]⟩ [.inRegion (wF f69) [0,1,2]]) [(qY prog.funcs.size)]) W;refine ai.FK (ops:=(wF f69)) (i:=0) (rest:=[1,2]) rfl rfl (by decide) (dd:=some 3) rfl (e:=9) (x:= .tmp 1) rfl (ad:=⟨x.C,0,none⟩) rfl ym hx (λw h=>Nt (.inl rfl) w _ h) ?_;refine ai.FK (ops:=(wF f69)) (i:=1) (rest:=[2]) rfl rfl (by decide) (dd:=some 4) rfl (e:=132) (x:= .tmp 2) rfl (ad:=⟨y.C,0,none⟩) rfl Cy hy (λw h=>Nt (.inr rfl) w _ h) ?_;refine ai.silent rfl (λ_=>jd (ops:=(wF f69)) (i:=2) (rest:=[]) (f:=71) (args:=#[.string ⟨⟨s⟩⟩,.chan (some ch)]) rfl rfl (by decide) rfl (by simp[Act.eval,Act.put,Tb])) ?_;have he:=enter_at (P:=prog) (f:=71) (c:=yu f71) #[.string ⟨⟨s⟩⟩,.chan (some ch)] YB rfl;rw[he];obtain⟨T,hT⟩:∃T:Array Value,T=(Act.put (Act.put ⟨Tb Wg x.C y.C,[dcall 70 #[.pointer (some ⟨Wg,0,none⟩)]]⟩ (some 3) (.string ⟨⟨s⟩⟩)) (some 4) (.chan (some ch))).tmps:=⟨_,rfl⟩;change ai _ _ _ _ _ (G ((base 71).at (a26 s ch) [.code (yu f71)]) [Ng.at ⟨(Act.put (Act.put ⟨Tb Wg x.C y.C,[dcall 70 #[.pointer (some ⟨Wg,0,none⟩)]]⟩ (some 3) (.string ⟨⟨s⟩⟩)) (some 4) (.chan (some ch))).tmps,[dcall 70 #[.pointer (some ⟨Wg,0,none⟩)]]⟩ [.inRegion (wF f69) [2]],(qY prog.funcs.size)]) W;rw[←hT];change ai _ _ _ _ _ (G ((base 71).at (a26 s ch) [.code (yu f71)]) (WL prog.funcs.size f69 Wg T)) W;refine ai.silent rfl (λ_=>stepG_seq (x:= .region 0 (YK f71) false) (y:=aL (yu f71))) ?_;refine ai.silent rfl (λ_=>stepG_region) ?_;have q0:(a26 s ch).eval (.tmp 0)=.string ⟨⟨s⟩⟩:=by simp[a26,Act.eval]
 have q1:(a26 s ch).eval (.tmp 1)=.chan (some ch):=by simp[a26,Act.eval]
 have qs:(a26 s ch).tmps.size=16:=by simp[a26]
 have qd:(a26 s ch).defers=[]:=rfl;generalize a26 s ch=a at *;refine ai.mv (ops:=YK f71) (i:=0) (rest:=[1]) rfl rfl (by decide) (dd:=some 6) rfl (.inl rfl) q1 ?_;have q6:(a.put (some 6) (.chan (some ch))).eval (.tmp 6)=.chan (some ch):=aW (by rw[qs];decide);have q0':(a.put (some 6) (.chan (some ch))).eval (.tmp 0)=.string ⟨⟨s⟩⟩:=(aD (by decide)).trans q0;have q1':(a.put (some 6) (.chan (some ch))).eval (.tmp 1)=.chan (some ch):=(aD (by decide)).trans q1;have qs':(a.put (some 6) (.chan (some ch))).tmps.size=16:=size_put.trans qs;have qd':(a.put (some 6) (.chan (some ch))).defers=[]:=ct.trans qd;generalize a.put (some 6) (.chan (some ch))=a1 at *;refine ai.silent rfl (λ_=>qU (ops:=YK f71) (i:=1) (rest:=[]) (x:=6) (ty:=206) rfl rfl (by decide) rfl) ?_;rw[q6,qd'];change ai _ _ _ _ _ (G ((base 71).at ⟨a1.tmps,[fx (.chan (some ch)) 206 0 #[false]]⟩ _) _) _;have p0:(⟨a1.tmps,[fx (.chan (some ch)) 206 0 #[false]]⟩:Act).eval (.tmp 0)=.string ⟨⟨s⟩⟩:=q0';have p1:(⟨a1.tmps,[fx (.chan (some ch)) 206 0 #[false]]⟩:Act).eval (.tmp 1)=.chan (some ch):=q1';have ps:(⟨a1.tmps,[fx (.chan (some ch)) 206 0 #[false]]⟩:Act).tmps.size=16:=qs';have pd:(⟨a1.tmps,[fx (.chan (some ch)) 206 0 #[false]]⟩:Act).defers=[fx (.chan (some ch)) 206 0 #[false]]:=rfl;generalize (⟨a1.tmps,[fx (.chan (some ch)) 206 0 #[false]]⟩:Act)=a2 at *;refine ai.silent rfl (λ_=>stepG_region_end) ?_;refine ai.silent rfl (λ_=>stepG_seq (x:= .region 1 (cC (aC (aL (yu f71)))) false) (y:=aL (aL (yu f71)))) ?_;refine ai.silent rfl (λ_=>stepG_region) ?_;refine ai.mv (ops:=cC (aC (aL (yu f71)))) (i:=0) (rest:=[]) rfl rfl (by decide) (dd:=some 4) rfl (.inr rfl) (v:= .int .i64 0) rfl ?_;have hSA:SA (a2.put (some 4) (.int .i64 0)) ch s 0 206 0 #[false]:=⟨size_put.trans ps,(aD (by decide)).trans p0,(aD (by decide)).trans p1,aW (by rw[ps];decide),ct.trans pd⟩;generalize a2.put (some 4) (.int .i64 0)=a3 at *;refine ai.silent rfl (λ_=>stepG_region_end) ?_;refine ai.silent rfl (λ_=>stepG_block (id:=0) (c:= .loop (CI f71))) ?_;refine ai.silent rfl (λ_=>stepG_loop) ?_;have:=JN QX JG ym Cy (T:=T) hN hL (s.length+1) 0 a3 W (λ_=>False) (zah _) (by omega) hSA hH hb hP;rw[cY]at this;exact this
end
end Go.Ren
set_option linter.unusedSectionVars false
namespace Go.Ren
open Go.Proofs.Tryz
open Go Go.Conc Go.ConcX Go.RowKit Go.Conc.Lib Go.ConcX.Gen Go.Proofs Go.Loop
theorem UD (t:Tok):Instr.fill (λi=>some (i*7,7)) (Array.map (λx=>(bK ⟨0,0,0,[],0,0,0⟩).cells[x%(bK ⟨0,0,0,[],0,0,0⟩).cells.size]!) (Array.range 7)) [(0,bK t)]=some (dQ t):=by kernel_rfl
theorem Q4 (t:Tok)(w:World):(Instr.buildSlice 85 1 #[(0,bK t)]).run prog w=.ok (.slice (some ⟨w.heap.size,0,none⟩) 1 1) (w.alloc (.cells (dQ t) 131)):=by
 obtain⟨i,hi,he⟩:=zai.1 pV;simp only[zab]at he;have hu:prog.underlying 85=some (.slice 131):=by kernel_rfl
 simp[Instr.buildSlice,run_underlying hu,sizeOf,typeInfo,hi,he.1,he.2,zeroValue,newRow,UD]
theorem Q5:(prog.info? 131).map (λi=>i.bytes)=some 64:=by kernel_rfl
theorem Nu {o:Oper}{x y:Operand}(hop:o.op=.call { callee:= .builtin .append,args:=#[x,y],argTypes:=#[85,85] }){ev:Operand→Value}{w:World}{v:Value}{n:Nat}{xs:List Value}(hown:w.ownsRow prog.globals.size 131 7 v n xs)(hb:prog.globals.size≤w.heap.size)(hn:n+1≤1000000)
 {t:Tok}{r:Nat}(hr:w.heap[r]?=some (.cells (dQ t) 131))(hx:ev x=v)(hy:ev y=.slice (some ⟨r,0,none⟩) 1 1):
 ∃v' w',(execOp ev o).run prog w=.ok (.value v') w'∧w'.ownsRow prog.globals.size 131 7 v' (n+1) (xs++(dQ t).toList):=by
 obtain⟨i,hi,he⟩:=zai.1 pV;simp only[zab]at he;have hu:prog.underlying 85=some (.slice 131):=by kernel_rfl
 have hby:i.bytes=64:=by have:=Q5;rw[hi]at this;simpa using this
 obtain⟨v',w',h1,h2,_⟩:=run_append_own_wide (P:=prog) (w:=w) prog.globals.size 85 o.type 131 i _ 7 64 hu hi he.2 he.1 hby rfl (by decide) v n xs hown ⟨r,0,none⟩ 1 1 (dQ t).toList rfl (λj u hj=>by
  rw[Addr.add_mid];simp only[World.cell?,hr];simpa using hj) (λu hu=>by
   have:=Nl t;rw[Array.all_eq_true_iff_forall_mem]at this;exact this u (by simpa using hu)) (by simp only[maxLen];omega) (by omega) hb
 refine⟨v',w',?_,h2⟩;unfold execOp;simp only[hop,resolve,invoke,builtin,Sem.run_bind,Sem.run_pure,Result.andThen_ok,zaZ,zan,zaO,hx,hy,h1]
def dC:Nat→Code→Code
 |0,c=>c
 |n+1,c=>dC n (aL c)
def D5 (f:Func):Code:=dC 5 (yu f)
def D6 (f:Func):Code:=dC 6 (yu f)
def D10 (f:Func):Code:=dC 7 (yu f)
def WV (f:Func):Code:=dC 8 (yu f)
def g5 (f:Func):Array Oper:=cC (aC (D5 f))
def g6 (f:Func):Array Oper:=cC (aC (aC (D6 f)))
def Lg (f:Func):Code:=YD (Q0 (aL (aC (D6 f))))
def g7 (f:Func):Array Oper:=cC (aC (Lg f))
def Mg (f:Func):Code:=Q0 (aL (aL (Lg f)))
def g8 (f:Func):Array Oper:=cC (aC (Mg f))
def g9 (f:Func):Array Oper:=cC (aL (Mg f))
def g10 (f:Func):Array Oper:=cC (aC (D10 f))
def g11 (f:Func):Array Oper:=cC (aC (WV f))
def kG (f:Func):List Item:=[.inLoop (Lg f),.inBlock 0,.code (D10 f)]
def s7:Tok:=⟨0,0,0,[],0,0,0⟩
structure YL (a:Act) (X Y Wg ch:Nat):Prop where
 size:a.tmps.size=20
 s1:a.eval (.tmp 1)=.pointer (some ⟨X,0,none⟩)
 s3:a.eval (.tmp 3)=.pointer (some ⟨Y,0,none⟩)
 s4:a.eval (.tmp 4)=.pointer (some ⟨Wg,0,none⟩)
 s10:a.eval (.tmp 10)=.chan (some ch)
 defers:a.defers=[]
variable {Wg Low ch X Y:Nat}{x y:sX Wg Low}{ro own:Nat→Prop}{cs:List Frame}
theorem YL.put {a:Act}(h:YL a X Y Wg ch){t:Tmp}{v:Value}(h1:t≠1)(h3:t≠3)(h4:t≠4)(h10:t≠10):YL (a.put (some t) v) X Y Wg ch:=
 ⟨size_put.trans h.size,(aD h1).trans h.s1,(aD h3).trans h.s3,(aD h4).trans h.s4,(aD h10).trans h.s10,ct.trans h.defers⟩
structure GR (ro:Nat→Prop) (X Y Wg ch:Nat) (xs:List Tok) (own:Nat→Prop) (a:Act) (W:World):Prop where
 ga:YL a X Y Wg ch
 row:∃ρ w v,At prog Sc ro ρ w W own∧a.eval (.tmp 5)=rv ρ v∧Cl prog Sc w v∧w.ownsRow prog.globals.size 131 7 v xs.length (xs.flatMap λt=>(dQ t).toList)
theorem Q6 (xs:List Tok)(t:Tok):(xs++[t]).flatMap (λt=>(dQ t).toList)=xs.flatMap (λt=>(dQ t).toList)++(dQ t).toList:=by simp
theorem Q7 (a:Act)(W:World)(h:a.eval (.tmp 10)=.chan (some ch)):(execOp a.eval (g7 f43)[0]).run prog W=.ok (.comm #[rcase ch (bK s7)] true (.recv true)) W∧(execOp a.eval (g7 f43)[0]).events prog W #[]=#[]:=by
 obtain⟨i,hi,he⟩:=zai.1 pV;simp only[zab]at he;obtain⟨dir,hu⟩:∃dir,prog.underlying 132=some (.chan dir 131):=⟨_,underlying132⟩;have hop:(g7 f43)[0].op=.recv 132 (.tmp 10) true:=rfl;constructor
 ·unfold execOp;simp[hop,run_underlying hu,zeroValue,typeInfo,hi,he.2,h,rcase,s7]
 ·unfold execOp;simp[hop,run_underlying hu,zeroValue,typeInfo,hi,he.2]
theorem Ic (a:Act)(W:World)(h:a.eval (.tmp 10)=.chan (some ch)):stepG prog true (G ((base 43).at a (.inRegion (g7 f43) [0,1]::.code (aL (Lg f43))::kG f43)) cs) W=.comm (core (G ((base 43).at a (.inRegion (g7 f43) [0,1]::.code (aL (Lg f43))::kG f43)) cs)) #[rcase ch (bK s7)] true (.recv true) W #[]:=by
 obtain⟨h1,h2⟩:=Q7 a W h;rw[stepG_comm (ops:=g7 f43) (i:=0) (rest:=[1]) rfl rfl (by decide) h1,listed_none h2];rfl
theorem GR.rely {W aH:World}{xs:List Tok}{a:Act}(h:GR ro X Y Wg ch xs own a W)(hr:bN ro own W aH):GR ro X Y Wg ch xs own a aH:=by
 obtain⟨ρ,w,v,hA,h5,fe,hrow⟩:=h.row;obtain⟨Q1,FJ⟩:=hA.rely hr;exact⟨h.ga,_,w,v,Q1,by rw[h5];exact(fe.agree FJ.agree (Cc hA.uy Q1.uy)).symm,fe,hrow⟩
theorem JP {Fin:(Nat→Prop)→Goroutine→World→Prop}(ts:List Tok)
 :∀(xs:List Tok) (own:Nat→Prop) (a:Act) (W:World),GR ro X Y Wg ch xs own a W→xs.length+ts.length≤1000000→
  (∀own a W,GR ro X Y Wg ch (xs++ts) own a W→Fin own (G ((base 43).at (a.put (some 11) (.tuple #[bK s7,.bool false])) (.inRegion (g7 f43) [1]::.code (aL (Lg f43))::kG f43)) cs) W)→
  kZ prog ro ch (bK s7) Fin (ts.map bK) own (G ((base 43).at a (.code (Lg f43)::kG f43)) cs) W:=by
 induction ts with
 |nil=>
  intro xs own a W h _ hF;rw[cv];refine ai.silent rfl (λ_=>stepG_seq (x:= .region 7 (g7 f43) false) (y:=aL (Lg f43))) ?_;refine ai.silent rfl (λ_=>stepG_region) ?_;refine .stop λaH hr=>?_;have h1:=h.rely hr;refine⟨rfl,Ic a aH h.ga.s10,?_⟩;show Fin own (G (((base 43).at a (.inRegion (g7 f43) [0,1]::.code (aL (Lg f43))::kG f43)).finish _) cs) aH;rw[Frame.finish_at];exact hF own a aH (by simpa using h1)
 |cons t ts ih=>
  intro xs own a W h hlen hF;rw[cv];refine ai.silent rfl (λ_=>stepG_seq (x:= .region 7 (g7 f43) false) (y:=aL (Lg f43))) ?_;refine ai.silent rfl (λ_=>stepG_region) ?_;refine .stop λaH hr=>?_;have h1:=h.rely hr;refine⟨rfl,Ic a aH h.ga.s10,?_⟩;show kZ _ _ _ _ _ _ own (G (((base 43).at a (.inRegion (g7 f43) [0,1]::.code (aL (Lg f43))::kG f43)).finish _) cs) aH;rw[Frame.finish_at,cv];change ai _ _ _ _ _ (G ((base 43).at (a.put (some 11) (.tuple #[bK t,.bool true])) (.inRegion (g7 f43) [1]::.code (aL (Lg f43))::kG f43)) cs) aH;clear h hr;obtain⟨hg,ρ,w,v,hA,h5,fe,hrow⟩:=h1;have hg1:=hg.put (t:=11) (v:= .tuple #[bK t,.bool true]) (by decide) (by decide) (by decide) (by decide);have LJ:(a.put (some 11) (.tuple #[bK t,.bool true])).eval (.tmp 11)=.tuple #[bK t,.bool true]:=aW (by rw[hg.size];decide);have k5:(a.put (some 11) (.tuple #[bK t,.bool true])).eval (.tmp 5)=rv ρ v:=(aD (by decide)).trans h5;generalize a.put (some 11) (.tuple #[bK t,.bool true])=a1 at *;refine ai.X5 (ops:=g7 f43) (i:=1) (rest:=[]) rfl rfl (by decide) (dd:=some 12) rfl rfl LJ (v:= .bool true) rfl ?_;have hg2:=hg1.put (t:=12) (v:= .bool true) (by decide) (by decide) (by decide) (by decide);have k12:(a1.put (some 12) (.bool true)).eval (.tmp 12)=.bool true:=aW (by rw[hg1.size];decide);replace LJ:(a1.put (some 12) (.bool true)).eval (.tmp 11)=.tuple #[bK t,.bool true]:=(aD (by decide)).trans LJ;replace k5:(a1.put (some 12) (.bool true)).eval (.tmp 5)=rv ρ v:=(aD (by decide)).trans k5;generalize a1.put (some 12) (.bool true)=a2 at *;refine ai.silent rfl (λ_=>stepG_region_end) ?_;refine ai.silent rfl (λ_=>stepG_seq (x:= .cond (.tmp 12) .skip (.exit 0)) (y:= .block 1 (Mg f43))) ?_;refine ai.silent rfl (λ_=>stepG_cond k12) ?_;refine ai.silent rfl (λ_=>stepG_skip) ?_;refine ai.silent rfl (λ_=>stepG_block) ?_;refine ai.silent rfl (λ_=>stepG_seq (x:= .region 8 (g8 f43) false) (y:= .region 9 (g9 f43) false)) ?_;refine ai.silent rfl (λ_=>stepG_region) ?_;refine ai.X5 (ops:=g8 f43) (i:=0) (rest:=[1,2]) rfl rfl (by decide) (dd:=some 13) rfl rfl LJ (v:=bK t) rfl ?_;have hg3:=hg2.put (t:=13) (v:=bK t) (by decide) (by decide) (by decide) (by decide);have k13:(a2.put (some 13) (bK t)).eval (.tmp 13)=bK t:=aW (by rw[hg2.size];decide);replace k5:(a2.put (some 13) (bK t)).eval (.tmp 5)=rv ρ v:=(aD (by decide)).trans k5;generalize a2.put (some 13) (bK t)=a3 at *;obtain⟨i76,UC,Nn⟩:=zai.1 pV;simp only[zab]at Nn;have hgw:prog.globals.size≤w.heap.size:=hA.uy.wr.big.p;refine ai.Mw lI (ops:=g8 f43) (i:=1) (rest:=[2]) rfl rfl (by decide) (dd:=some 6) rfl rfl UC Nn.2 hA ?_;intro w1 AG W2 acK e1 Q1 FJ;have hs1:w1.heap.size=w.heap.size:=by rw[e1]
  have Ie:rv AG v=rv ρ v:=fe.agree FJ.agree (Cc hA.uy Q1.uy);have Mm:Cl prog Sc w1 v:=by unfold Cl at fe ⊢;rw[hs1];exact fe
  have Tc:w1.ownsRow prog.globals.size 131 7 v xs.length (xs.flatMap λt=>(dQ t).toList):=by unfold World.ownsRow at hrow ⊢;rw[e1];exact hrow
  rw[←hs1];have hg4:=hg3.put (t:=6) (v:= .pointer (some ⟨AG w1.heap.size,0,none⟩)) (by decide) (by decide) (by decide) (by decide);have k6:(a3.put (some 6) (.pointer (some ⟨AG w1.heap.size,0,none⟩))).eval (.tmp 6)=.pointer (some ⟨AG w1.heap.size,0,none⟩):=aW (by rw[hg3.size];decide);replace k13:(a3.put (some 6) (.pointer (some ⟨AG w1.heap.size,0,none⟩))).eval (.tmp 13)=bK t:=(aD (by decide)).trans k13;replace k5:(a3.put (some 6) (.pointer (some ⟨AG w1.heap.size,0,none⟩))).eval (.tmp 5)=rv AG v:=((aD (by decide)).trans k5).trans Ie.symm;generalize a3.put (some 6) (.pointer (some ⟨AG w1.heap.size,0,none⟩))=a4 at *;have acS:prog.globals.size≤w1.heap.size:=by omega
  refine ai.storeT lI (ops:=g8 f43) (i:=2) (rest:=[]) rfl rfl (by decide) (dd:=none) rfl (s:=6) (t:=13) (by decide) rfl (c:=dQ ⟨0,0,0,[],0,0,0⟩) (c':=dQ t) (wJ _) rfl (Nl _) Q1 k6 (by rw[k13];exact(eA _ _).symm) (eA _ _) acS ?_;intro w2 Fp W3 acL e2 pW WO;rw[vZ];have hs2:w2.heap.size=w1.heap.size:=by rw[e2]
  have hr2:Fp w2.heap.size=AG w1.heap.size:=by rw[hs2];exact WO.agree _ (by rw[bD];omega)
  have hv2:rv Fp v=rv AG v:=Mm.agree (λr hr=>WO.agree r (by rw[bD];omega)) (Cc Q1.uy pW.uy);have Mn:Cl prog Sc w2 v:=by unfold Cl at Mm ⊢;rw[hs2];exact Mm
  have hrow2:w2.ownsRow prog.globals.size 131 7 v xs.length (xs.flatMap λt=>(dQ t).toList):=by unfold World.ownsRow at Tc ⊢;rw[e2];exact Tc
  rw[←hr2]at k6;rw[←hv2]at k5;have acT:prog.globals.size≤w2.heap.size:=by omega
  refine ai.silent rfl (λ_=>stepG_region_end) ?_;refine ai.silent rfl (λ_=>stepG_region) ?_;refine ai.mv (ops:=g9 f43) (i:=0) (rest:=[1,2,3,4]) rfl rfl (by decide) (dd:=some 14) rfl (.inl rfl) k5 ?_;have WT:=hg4.put (t:=14) (v:=rv Fp v) (by decide) (by decide) (by decide) (by decide);have UE:(a4.put (some 14) (rv Fp v)).eval (.tmp 14)=rv Fp v:=aW (by rw[hg4.size];decide);replace k6:(a4.put (some 14) (rv Fp v)).eval (.tmp 6)=.pointer (some ⟨Fp w2.heap.size,0,none⟩):=(aD (by decide)).trans k6;generalize a4.put (some 14) (rv Fp v)=a5 at *;refine ai.loadT lI (ops:=g9 f43) (i:=1) (rest:=[2,3,4]) rfl rfl (by decide) (dd:=some 15) rfl (s:=6) rfl underlying131 rfl (wJ _) pW k6 acT ?_;intro w3 Np W4 acM e3 uZ YF;have hs3:w3.heap.size=w2.heap.size:=by rw[e3]
  have hv3:rv Np v=rv Fp v:=Mn.agree (λr hr=>YF.agree r (by rw[bD];omega)) (Cc pW.uy uZ.uy);have UF:Cl prog Sc w3 v:=by unfold Cl at Mn ⊢;rw[hs3];exact Mn
  have hrow3:w3.ownsRow prog.globals.size 131 7 v xs.length (xs.flatMap λt=>(dQ t).toList):=by unfold World.ownsRow at hrow2 ⊢;rw[e3];exact hrow2
  rw[←hv3]at UE;have af9:prog.globals.size≤w3.heap.size:=by omega
  rw[show rv Np (.agg (dQ t))=bK t from eA _ _];have hg6:=WT.put (t:=15) (v:=bK t) (by decide) (by decide) (by decide) (by decide);have k15:(a5.put (some 15) (bK t)).eval (.tmp 15)=bK t:=aW (by rw[WT.size];decide);replace UE:(a5.put (some 15) (bK t)).eval (.tmp 14)=rv Np v:=(aD (by decide)).trans UE;generalize a5.put (some 15) (bK t)=a6 at *;have hrow4:(w3.alloc (.cells (dQ t) 131)).ownsRow prog.globals.size 131 7 v xs.length (xs.flatMap λt=>(dQ t).toList):=hrow3.alloc _;have UG:Cl prog Sc (w3.alloc (.cells (dQ t) 131)) v:=UF.mono (by rw[bD];omega);have acU:prog.globals.size≤(w3.alloc (.cells (dQ t) 131)).heap.size:=by rw[bD];omega
  generalize w3.alloc (.cells (dQ t) 131)=w4 at uZ hrow4 UG acU;refine ai.Mv lI (ops:=g9 f43) (i:=2) (rest:=[3,4]) (by rw[show(g9 f43)[2].op=.buildSlice 85 1 #[(0,.tmp 15)] from rfl];simp[fw,fV]) rfl rfl (by decide) (T:=λ_=>bK t) (λ_=>eA _ _) uZ ?_ (v:=λw₀=> .slice (some ⟨w₀.heap.size,0,none⟩) 1 1) (o':=λw₀=>w₀.alloc (.cells (dQ t) 131)) ?_ ?_
  ·have hop:(g9 f43)[2].op=.buildSlice 85 1 #[(0,.tmp 15)]:=rfl;unfold execOp;rw[hop];simp only[zaZ,zan,zaO,fh,k15,eA t Np]
  ·intro τ d;have hop:(g9 f43)[2].op=.buildSlice 85 1 #[(0,.tmp 15)]:=rfl;unfold execOp;simp only[hop,zaZ,zan,zaO,fh,Sem.run_bind,Q4,Result.andThen_ok,Sem.run_pure]
  intro w5 Ib W5 acO e5 Q3 hO5 YM;have hs5:w5.heap.size=w4.heap.size:=by rw[e5]
  have hv5:rv Ib v=rv Np v:=UG.agree hO5.agree (Cc uZ.uy Q3.uy);have Td:(w5.alloc (.cells (dQ t) 131)).ownsRow prog.globals.size 131 7 v xs.length (xs.flatMap λt=>(dQ t).toList):=by
   refine World.ownsRow.alloc ?_ _;unfold World.ownsRow at hrow4 ⊢;rw[e5];exact hrow4
  have YN:Cl prog Sc (w5.alloc (.cells (dQ t) 131)) v:=UG.mono (by rw[bD];omega);rw[←hv5]at UE;change ai _ _ _ _ _ (G ((base 43).at (a6.put (some 16) (rv Ib (.slice (some ⟨w5.heap.size,0,none⟩) 1 1))) _) _) _;have hg7:=hg6.put (t:=16) (v:=rv Ib (.slice (some ⟨w5.heap.size,0,none⟩) 1 1)) (by decide) (by decide) (by decide) (by decide);have k16:(a6.put (some 16) (rv Ib (.slice (some ⟨w5.heap.size,0,none⟩) 1 1))).eval (.tmp 16)=rv Ib (.slice (some ⟨w5.heap.size,0,none⟩) 1 1):=aW (by rw[hg6.size];decide);replace UE:(a6.put (some 16) (rv Ib (.slice (some ⟨w5.heap.size,0,none⟩) 1 1))).eval (.tmp 14)=rv Ib v:=(aD (by decide)).trans UE;generalize a6.put (some 16) (rv Ib (.slice (some ⟨w5.heap.size,0,none⟩) 1 1))=a7 at *;have wK:(w5.alloc (.cells (dQ t) 131)).heap[w5.heap.size]?=some (.cells (dQ t) 131):=by
   show(w5.heap.push _)[w5.heap.size]?=_;simp
  have YO:prog.globals.size≤(w5.alloc (.cells (dQ t) 131)).heap.size:=by rw[bD];omega
  generalize xV:w5.heap.size=r0 at *;generalize w5.alloc (.cells (dQ t) 131)=w6 at Q3 Td YN wK YM YO;have afY:xs.length+(ts.length+1)≤1000000:=by simpa using hlen
  refine ai.Hn lI (ops:=g9 f43) (i:=3) (rest:=[4]) (by rw[show(g9 f43)[3].op=.call { callee:= .builtin .append,args:=#[.tmp 14,.tmp 16],argTypes:=#[85,85] } from rfl];simp[fw,fV,oG]) rfl rfl (by decide) (T:=λs=>if s=14 then v else .slice (some ⟨r0,0,none⟩) 1 1) (λs=>?_) Q3.uy Q3.SV ?_ (Q:=λv' w'=>w'.ownsRow prog.globals.size 131 7 v' (xs.length+1) (xs.flatMap (λt=>(dQ t).toList)++(dQ t).toList)) (λτ d=>?_) ?_ Q3.hold
  ·by_cases h:s=14
   ·simp only[h,if_true];exact YN
   ·simp only[h,if_false];exact YM
  ·have hop:(g9 f43)[3].op=.call { callee:= .builtin .append,args:=#[.tmp 14,.tmp 16],argTypes:=#[85,85] }:=rfl;unfold execOp;simp only[hop,resolve,zaZ,zan,zaO,fh,UE,k16,if_true,show ¬(16=14) by decide,if_false]
  ·exact Nu (x:= .tmp 14) (y:= .tmp 16) rfl (w:=w6.re τ d) Td YO (by omega) wK rfl rfl
  intro v' w' ρ' W' own' hq QH _ _ hc' YP _ _ hH';change ai _ _ _ _ _ (G ((base 43).at (a7.put (some 17) (rv ρ' v')) _) _) _;have hg8:=hg7.put (t:=17) (v:=rv ρ' v') (by decide) (by decide) (by decide) (by decide);have k17:(a7.put (some 17) (rv ρ' v')).eval (.tmp 17)=rv ρ' v':=aW (by rw[hg7.size];decide);generalize a7.put (some 17) (rv ρ' v')=a8 at *;refine ai.mv (ops:=g9 f43) (i:=4) (rest:=[]) rfl rfl (by decide) (dd:=some 5) rfl (.inr rfl) k17 ?_;have hg9:=hg8.put (t:=5) (v:=rv ρ' v') (by decide) (by decide) (by decide) (by decide);have YQ:(a8.put (some 5) (rv ρ' v')).eval (.tmp 5)=rv ρ' v':=aW (by rw[hg8.size];decide);generalize a8.put (some 5) (rv ρ' v')=a9 at *;refine ai.silent rfl (λ_=>stepG_region_end) ?_;refine ai.silent rfl (λ_=>stepG_inBlock) ?_;refine ai.silent rfl (λ_=>stepG_inLoop) ?_;have WG:GR ro X Y Wg ch (xs++[t]) own' a9 W':=⟨hg9,ρ',w',v',⟨QH,YP,hH'⟩,YQ,hc',by rw[Q6];simpa using hq⟩;have:=ih (xs++[t]) own' a9 W' WG (by simp;omega) (by simpa using hF);rw[cv]at this;exact this
end Go.Ren
set_option linter.unusedSectionVars false
namespace Go.Ren
open Go.Proofs.Tryz
open Go Go.Conc Go.ConcX Go.RowKit Go.Conc.Lib Go.ConcX.Gen Go.Proofs Go.Loop
section
variable {P:Program}{main:Bool}{b:Frame}{a:Act}{ops:Array Oper}{i:Nat}{rest:List Nat}{o:Oper}{kk:List Item}{cs:List Frame}
theorem FM (ho:ops[i]?=some o)(hw:Region.wanted o (yielded ops a.tmps)=true)(hk:b.kind≠.early){dd:Option Tmp}(hdd:o.dst=dd){x:Operand}{j:Nat}(hop:o.op=.extract x j){vs:Array Value}{v:Value}(hx:a.eval x=.tuple vs)(hv:vs[j]?=some v)(w:World):stepG P main (G (b.at a (.inRegion ops (i::rest)::kk)) cs) w=.go (G (b.at (a.put dd v) (.inRegion ops rest::kk)) cs) w #[]:=by
 subst hdd;have hr:(execOp a.eval o).run P w=.ok (.value v) w:=by
  unfold execOp;simp[hop,hx,Instr.extract,hv]
 have he:(execOp a.eval o).events P w #[]=#[]:=by
  unfold execOp;simp[hop,hx,Instr.extract,hv]
 rw[stepG_value ho hw hk hr,listed_none he]
theorem Goes.silent {R:World→World→Prop}{D:World→World→Array Event→Prop}{Stop:Goroutine→World→Prop}(tr:∀a b c,R a b→R b c→R a c)(hd:∀w,D w w #[]){n:Nat}{g g':Goroutine}{w:World}(hs:g.status=.running)(h:∀w₁,stepG P main g w₁=.go g' w₁ #[])(k:Goes P main R D Stop n g' w):Goes P main R D Stop (n+1) g w:=
 Goes.step hs λw₁ h₁=>by rw[h w₁];exact⟨hd w₁,k.rely tr h₁⟩
end
variable {Wg Low ch X Y:Nat}{x y:sX Wg Low}{ro own:Nat→Prop}{cs:List Frame}
structure Off (Wg X Y:Nat) (w w':World):Prop where
 tape:w'.tape=w.tape
 os:w'.os=w.os
 output:w'.output=w.output
 size:w'.heap.size=w.heap.size
 block:∀k,k≠X→k≠Y→k≠Wg→w'.heap[k]?=w.heap[k]?
def zo (f:Func)(a:Act)(cs:List Frame):Goroutine:=G ((base 43).at (a.put (some 18) (.tuple #[])) (.inRegion (g10 f) []::.code (WV f)::[])) cs
def AL (f:Func)(a:Act):Frame:=(base 43).at a (.inRegion (g10 f) [0]::.code (WV f)::[])
theorem zq {pl:Payload}{ty:TypeId}{C:Nat} [Shy Wg C] {vals:List Value}(a b c:World)(h:RPa ty Wg C vals a b)(k:RPa ty Wg C vals b c):RPa ty Wg C vals a c:=
 RPa.trans h k
theorem FN (Wg:Nat):Frame.enter prog 72 #[.pointer (some ⟨Wg,0,none⟩)] .normal=(base cg.wait).at ⟨#[.pointer (some ⟨Wg,0,none⟩),undef,undef,undef,undef,undef,undef,undef,undef,undef,undef,undef,undef,undef,undef,undef,undef,undef,undef,undef,undef,undef,undef,undef,undef,undef,undef,undef,undef,undef,undef,undef,undef,undef,undef,undef,undef,undef,undef,undef,undef,undef,undef,undef,undef,undef,undef,undef,undef,undef,undef,undef,undef,undef,undef,undef,undef,undef,undef,undef,undef,undef,undef,undef,undef,undef,undef,undef,undef,undef,undef,undef,undef,undef,undef,undef,undef,undef,undef,undef,undef,undef,undef,undef],[]⟩ [.code (body_wait cg)]:=by
 rw[enter_at (P:=prog) (f:=72) (c:=body_wait cg) #[.pointer (some ⟨Wg,0,none⟩)] H8 (by kernel_rfl)];have:(#[Value.pointer (some ⟨Wg,0,none⟩)]++Array.replicate ((waitFn cg).ntmps - (#[Value.pointer (some ⟨Wg,0,none⟩)]:Array Value).size) undef)=#[.pointer (some ⟨Wg,0,none⟩),undef,undef,undef,undef,undef,undef,undef,undef,undef,undef,undef,undef,undef,undef,undef,undef,undef,undef,undef,undef,undef,undef,undef,undef,undef,undef,undef,undef,undef,undef,undef,undef,undef,undef,undef,undef,undef,undef,undef,undef,undef,undef,undef,undef,undef,undef,undef,undef,undef,undef,undef,undef,undef,undef,undef,undef,undef,undef,undef,undef,undef,undef,undef,undef,undef,undef,undef,undef,undef,undef,undef,undef,undef,undef,undef,undef,undef,undef,undef,undef,undef,undef,undef]:=by kernel_rfl
 rw[this]
theorem Nv (k:sX Wg Low){X Y:Nat}(hk:k.C=X∨k.C=Y)(a:Act)(h4:a.eval (.tmp 4)=.pointer (some ⟨Wg,0,none⟩))(W:World)(hK:k.Yu cg.tWg W):∃A,k.wait prog cg.tWg (λg w=>g=zo f43 a cs∧Off Wg X Y W w) A (G (AL f43 a) cs) W:=by
 letI:=k.pl
 letI:=lH Wg k.C Low (λg w=>g=zo f43 a cs∧Off Wg X Y W w) k.hW k.hC
 let F:World→Prop:=λw=>(∀b,b≠k.C→b≠Wg→w.heap[b]?=W.heap[b]?)∧w.heap.size=W.heap.size∧w.tape=W.tape∧w.os=W.os∧w.output=W.output;have hF2:∀w w',Aside2 k.C Wg w w'→F w→F w':=λw w' h f=>⟨λb h1 h2=>(h.block b h1 h2).trans (f.1 b h1 h2),h.size.trans f.2.1,h.tape.trans f.2.2.1,h.os.trans f.2.2.2.1,h.output.trans f.2.2.2.2⟩;refine⟨AnchW7 cg F Wg k.C k.vals (AL f43 a) cs,⟨k.hC,k.hCW,?_,?_,λ_ h=>h⟩,4,?_⟩
 ·rintro g w ⟨T,rfl,_⟩;rfl
 ·intro g w h;exact waitRound (L:=cg) (Low:=Low) (Mine:=j8) (Post:=λ_ _=>True) (mT:=0) (b₀:=base 43) (a₀:=a) (ops₀:=g10 f43) (i₀:=0) (rest₀:=[]) (k₀:=[.code (WV f43)]) wgz k.hCW hF2 (λw f _ _=>Goes.stop λw₁ h₁=>by
   obtain⟨d,rfl⟩:=h₁;refine⟨rfl,rfl,f.2.2.1,f.2.2.2.1,f.2.2.2.2,f.2.1,λb h1 h2 h3=>f.1 b ?_ h3⟩;rcases hk with e|e<;>rw[e]<;>assumption) g w h
 ·refine Goes.silent (g':=G (Frame.enter prog 72 #[.pointer (some ⟨Wg,0,none⟩)] .normal) (AL f43 a::cs)) (λa b c=>zq a b c) (λw=>⟨λ_ _=>rfl,by simp⟩) rfl (λw₁=>jd (ops:=g10 f43) (i:=0) (rest:=[]) (f:=72) rfl rfl (by decide) rfl (by simp[h4])) ?_;rw[FN];exact waitStart (L:=cg) (Low:=Low) (F:=F) (Mine:=j8) (b₀:=base 43) (a₀:=a) (ops₀:=g10 f43) (i₀:=0) (rest₀:=[]) (k₀:=[.code (WV f43)]) (cs:=cs) wgz hF2 W ⟨⟨λ_ _ _=>rfl,rfl,rfl,rfl,rfl⟩,hK⟩
theorem iR {k:sX Wg Low}{St A:Goroutine→World→Prop}{g g':Goroutine}{W:World}(hs:g.status=.running)(h:∀w₁,stepG prog true g w₁=.go g' w₁ #[])(hw:k.wait prog cg.tWg St A g' W):k.wait prog cg.tWg St A g W:=by
 letI:=k.pl
 letI:=lH Wg k.C Low St k.hW k.hC
 obtain⟨h1,m,h2⟩:=hw;exact⟨h1,m+1,Goes.silent (λa b c=>zq a b c) (λw=>⟨λ_ _=>rfl,by simp⟩) hs h h2⟩
def AO (ro:Nat→Prop)(X Y Wg ch:Nat)(ts:List Tok)(cs:List Frame)(own:Nat→Prop)(w':World)(g:Goroutine)(w:World):Prop:=
 ∃a,GR ro X Y Wg ch ts own a w'∧g=zo f43 a cs∧Off Wg X Y w' w
theorem FO {ts:List Tok}{a:Act}{W:World}(h:GR ro x.C y.C Wg ch ts own a W):M3 prog cg.tWg x y (AO ro x.C y.C Wg ch ts cs) own (G ((base 43).at (a.put (some 11) (.tuple #[bK s7,.bool false])) (.inRegion (g7 f43) [1]::.code (aL (Lg f43))::kG f43)) cs) W:=by
 intro hx hy;obtain⟨hg,ρ,w,v,hA,h5,fe,hrow⟩:=h;have hg1:=hg.put (t:=11) (v:= .tuple #[bK s7,.bool false]) (by decide) (by decide) (by decide) (by decide);have LJ:(a.put (some 11) (.tuple #[bK s7,.bool false])).eval (.tmp 11)=.tuple #[bK s7,.bool false]:=aW (by rw[hg.size];decide);have k5:(a.put (some 11) (.tuple #[bK s7,.bool false])).eval (.tmp 5)=rv ρ v:=(aD (by decide)).trans h5;generalize a.put (some 11) (.tuple #[bK s7,.bool false])=a1 at *;have hg2:=hg1.put (t:=12) (v:= .bool false) (by decide) (by decide) (by decide) (by decide);have k12:(a1.put (some 12) (.bool false)).eval (.tmp 12)=.bool false:=aW (by rw[hg1.size];decide);have YQ:(a1.put (some 12) (.bool false)).eval (.tmp 5)=rv ρ v:=(aD (by decide)).trans k5;have step:∀(k:sX Wg Low),(k.C=x.C∨k.C=y.C)→k.Yu cg.tWg W→∃A,k.wait prog cg.tWg (λg w=>g=zo f43 (a1.put (some 12) (.bool false)) cs∧Off Wg x.C y.C W w) A (G ((base 43).at a1 (.inRegion (g7 f43) [1]::.code (aL (Lg f43))::kG f43)) cs) W:=λk hk hK=>by
  obtain⟨A,hw⟩:=Nv (cs:=cs) k hk (a1.put (some 12) (.bool false)) hg2.s4 W hK;refine⟨A,?_⟩;refine iR rfl (λw₁=>FM (ops:=g7 f43) (i:=1) (rest:=[]) rfl rfl (by decide) (dd:=some 12) rfl rfl LJ (v:= .bool false) rfl w₁) ?_;generalize a1.put (some 12) (.bool false)=a2 at *;refine iR rfl (λ_=>stepG_region_end) ?_;refine iR rfl (λ_=>stepG_seq (x:= .cond (.tmp 12) .skip (.exit 0)) (y:= .block 1 (Mg f43))) ?_;refine iR rfl (λ_=>stepG_cond k12) ?_;refine iR rfl (λ_=>stepG_exit (id:=0) (k':=[.code (D10 f43)]) rfl) ?_;refine iR rfl (λ_=>stepG_seq (x:= .region 10 (g10 f43) false) (y:=WV f43)) ?_;refine iR rfl (λ_=>stepG_region) ?_;exact hw
 obtain⟨Ax,hwx⟩:=step x (.inl rfl) hx;obtain⟨Ay,hwy⟩:=step y (.inr rfl) hy;exact⟨_,Ax,Ay,hwx,hwy,λa' w' hst=>⟨Nat.le_of_eq hst.2.size.symm,_,⟨hg2,ρ,w,v,hA,YQ,fe,hrow⟩,hst.1,hst.2⟩⟩
end Go.Ren
