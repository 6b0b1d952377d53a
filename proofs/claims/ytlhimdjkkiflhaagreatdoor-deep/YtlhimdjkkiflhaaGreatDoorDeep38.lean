import Derived.Test.YtlhimdjkkiflhaaGreatDoorDeep37
namespace Go.Ren
open Go Go.Conc
section
variable {P:Program} {F:FuncId→Bool} {S:Sd} {Post:Value→World→Prop} {W:World}
def CoEndG (P:Program)(W:World)(lo n0:Nat)(r0:Rn)(Post:Value→World→Prop):CoGoal:=
 ⟨W,lo,n0,r0,fun m t=>∃ gs g W' sl q Shun,m=crowd gs W' sl∧gs[0]? =some g∧Leavers P t gs q∧Past Shun W'.heap.size t∧∀ d,AtEnd P Shun W'.heap.size Post g (W'.at d)⟩
theorem CoReach.last {lo n0:Nat}{r0:Rn}{b:Frame}{a:Act}{todo:List Item}{fn:Func}{v:Value}{w:World}(hn:b.kind= .normal)(hd:a.defers=[])(hf:P.funcs[b.fn]? =some fn)(hi:P.inits.idxOf? b.fn=none)
 (hr:∀ (ρ:Rn) (W:World),(results fn (a.rn ρ).tmps).run P W= .ok v W)(he:∀ (ρ:Rn) (W:World),(results fn (a.rn ρ).tmps).events P W #[]=#[])(hP:∀ W' ρ,OldW (CoEndG P W lo n0 r0 Post) W'→Sim P S ρ w W'→On0 n0 r0 w ρ→Post v W'):CoReach P S (CoEndG P W lo n0 r0 Post) (outFr b a todo) [] w:=by
 intro ρ W' gs sl t q Shun hS hc hcs h0 hL hPa hN hO hT hρ
 refine Reach.here ⟨gs,_,W',sl,q,Shun,rfl,h0,hL,hPa,fun d=>⟨rfl,v,#[],?_,by simp,hP _ ρ ⟨hO.tape,hO.os,hO.output,hO.size,hO.block⟩ ⟨⟨hS.wr.live,hS.wr.ok,hS.wr.dead,hS.wr.closed,hS.wr.next,hS.wr.low,hS.wr.big⟩,hS.inj,hS.glob,hS.f,hS.bigW⟩ hρ⟩⟩
 have h1:=hr ρ (W'.at d)
 have h2:=he ρ (W'.at d)
 simp[rfr,outFr,Frame.at,G,stepG,unwind,doReturn,hd,hn,hf,hi,GStep.after,seen] at h1 h2 ⊢
 unfold Act.rn at h1 h2
 simp[h1,h2]
theorem runNT_app {m m1:Machine}{t t1:Trace}{N:Nat}(h:runNT P N m t=(.next m1,t1))(K:Nat):runNT P (N+K) m t=runNT P K m1 t1:=by
 induction N generalizing m t with
 |zero=>
  simp only[runNT,Prod.mk.injEq,Stepped.next.injEq] at h
  obtain⟨rfl,rfl⟩:=h
  rw[Nat.zero_add]
 |succ N ih=>
  rw[show N+1+K=(N+K)+1 by omega]
  simp only[runNT] at h ⊢
  cases hs:stepT P m with
  |mk e ops=>
   rw[hs] at h
   cases e with
   |next m2=>exact ih h
   |_=>simp at h
theorem old_all {ρ r0:Rn}{w w0 W':World}(hS0:Sim P S r0 w0 W)(hO:OldW (CoEndG P W S.d w0.heap.size r0 Post) W')(hS:Sim P S ρ w W')(hρ:On0 w0.heap.size r0 w ρ)(hB:∀ r,r<w0.heap.size→w.heap[r]? =w0.heap[r]?){b:Nat}(hb:b<W.heap.size):W'.heap[b]? =W.heap[b]?:=by
 by_cases hm:(CoEndG P W S.d w0.heap.size r0 Post).mine b
 ·obtain⟨r,h1,h2,rfl⟩:=hm
  have h1':S.d≤r:=h1
  have h2':r<w0.heap.size:=h2
  have ho:w0.heap[r]? =some w0.heap[r]:=Array.getElem?_eq_getElem h2'
  have e1:=hS0.wr.live r _ h1' ho
  have e2:=hS.wr.live r _ h1' ((hB r h2').trans ho)
  rw[hρ.same r h2'] at e2
  show W'.heap[r0 r]? =W.heap[r0 r]?
  rw[e1,e2]
  congr 1
  exact agreeO (σ:=sg S S.d w0.heap.size) (fun x hx=>hρ.same x (sg_fix.1 hx).2) (fun x _=>by rw[hS.f,hS0.f]) (hS0.wr.closed r _ h1' ho)
 ·exact hO.block b hb hm
theorem runs_of_co {f:FuncId}{args:Array Value}{w0:World}{r0:Rn}(hS0:Sim P S r0 w0 W)(ha:∀ v∈args,rv (sg S S.d w0.heap.size) v=v)(h:CoReach P S (CoEndG P W S.d w0.heap.size r0 Post) (Frame.enter P f args .normal) [] w0):
 ∃ N last o w' t',runNT P (N+1) (solo (G (Frame.enter P f (args.map (rv r0)) .normal) []) W) #[]=(.ended o w',t')∧runN P N (solo (G (Frame.enter P f (args.map (rv r0)) .normal) []) W)= .next last∧step P last= .ended o w'∧Go.Conc.Good P Post last o w' t':=by
 have e1:rfr r0 (Frame.enter P f args .normal)=Frame.enter P f (args.map (rv r0)) .normal:=by
  rw[←enter_rfr]
 have hcl:ClFr P S w0.heap.size (Frame.enter P f args .normal):=cl_enter ha
 have hreach:=h r0 W #[G (Frame.enter P f (args.map (rv r0)) .normal) []] none #[] (fun _=>0) (fun _=>False) hS0 hcl (fun f hf=>by cases hf) (by rw[e1];rfl) (leavers_one P _) (past_nil.mono (Nat.zero_le _)) ⟨fun x ⟨r,_,h2,e⟩=>by rw[e];exact hS0.low h2,fun _ hx=>hx.elim,fun _ _ hx=>hx,fun _ hx=>hx.elim⟩ ⟨rfl,rfl,rfl,Nat.le_refl _,fun _ _ _=>rfl⟩ (fun x ⟨r,h1,h2,e⟩=> .inr ⟨r,h1,h2,e⟩) ⟨Nat.le_refl _,fun _ _=>rfl⟩
 obtain⟨N0,m,t,hrun,gs,g,W',sl,q,Shun,rfl,h0,hL,hPa,hE⟩:=hreach
 obtain⟨N,last,o,w',t',r1,r2,r3,r4⟩:=beside_ends (P:=P) (Post:=Post) (Shun:=Shun) (B:=W'.heap.size) (D:=fun _ _ _=>False) (sl:=sl) (n:=0) (fun _ _ _ hx=>hx.elim) h0 hL hPa (fun w₁ hw=>by obtain⟨d,rfl⟩:=hw;exact hE d)
 refine⟨N0+N,last,o,w',t',?_,?_,r3,r4⟩
 ·rw[show N0+N+1=N0+(N+1) by omega]
  exact(runNT_app hrun (N+1)).trans r1
 ·have:=congrArg Prod.fst (runNT_app hrun N)
  rw[runNT_fst,runNT_fst] at this
  exact this.trans r2
def pw1 (P:Program)(S:Sd)(W:World):World:={ W with heap:=(Array.range P.globals.size).map fun r=>if r<S.d then deadObj else(W.heap[r]?).getD deadObj }
theorem pw1_size (W:World):(pw1 P S W).heap.size=P.globals.size:=by simp[pw1]
theorem pw1_get (W:World){r:Nat}(h:r<P.globals.size):(pw1 P S W).heap[r]? =some (if r<S.d then deadObj else(W.heap[r]?).getD deadObj):=by
 simp only[pw1,Array.getElem?_map]
 rw[Array.getElem?_eq_getElem (by simpa using h)]
 simp
theorem pw1_live (hb:P.globals.size≤W.heap.size){r:Nat}(h1:S.d≤r)(h2:r<P.globals.size):(pw1 P S W).heap[r]? =W.heap[r]?:=by
 rw[pw1_get W h2,if_neg (by omega),Array.getElem?_eq_getElem (by omega:r<W.heap.size)]
 rfl
theorem pw1_sim (hd:S.d≤P.globals.size)(hg:S.g≤P.globals.size)(hb:P.globals.size≤W.heap.size)(hl:∀ r o,S.d≤r→r<P.globals.size→W.heap[r]? =some o→NewOk o∧∀ ρ:Rn,ro ρ o=o):Sim P S (extR idR P.globals.size W.heap.size) (pw1 P S W) W:=by
 have hs:=pw1_size (P:=P) (S:=S) W
 refine⟨⟨fun r o hge ho=>?_,fun r o ho=>?_,fun r hr=>?_,fun r o hge ho=>?_,fun r hr=>by rw[hs] at hr ⊢;exact extR_ge hr,fun r h1 h2=>?_,⟨by omega,by omega,Nat.zero_le _,by omega,hd,fun g h1 h2=>extR_lt (by omega),fun g h1=> .inr (extR_lt (by omega))⟩⟩,fun a b e=>?_,fun r=>?_,fun _=>rfl,hb⟩
 ·have hlt:=lt_of_some ho
  rw[hs] at hlt
  rw[pw1_live hb hge hlt] at ho
  rw[extR_lt hlt,(hl r o hge hlt ho).2]
  exact ho
 ·have hlt:=lt_of_some ho
  rw[hs] at hlt
  rcases Nat.lt_or_ge r S.d with h|h
  ·rw[pw1_get W hlt,if_pos h] at ho
   cases ho;trivial
  ·rw[pw1_live hb h hlt] at ho
   exact(hl r o h hlt ho).1
 ·rw[pw1_get W (by omega),if_pos hr]
 ·have hlt:=lt_of_some ho
  rw[hs] at hlt
  rw[pw1_live hb hge hlt] at ho
  exact(hl r o hge hlt ho).2 _
 ·rw[hs] at h2
  rw[extR_lt h2]
  show r<_
  omega
 ·rcases Nat.lt_or_ge a P.globals.size with ha|ha<;>rcases Nat.lt_or_ge b P.globals.size with hb'|hb'
  ·rw[extR_lt ha,extR_lt hb'] at e;exact e
  ·rw[extR_lt ha,extR_ge hb'] at e
   have:idR.b a=a:=rfl
   omega
  ·rw[extR_ge ha,extR_lt hb'] at e
   have:idR.b b=b:=rfl
   omega
  ·rw[extR_ge ha,extR_ge hb'] at e;omega
 ·rcases Nat.lt_or_ge r P.globals.size with ha|ha
  ·rw[extR_lt ha];exact Iff.rfl
  ·rw[extR_ge ha]
   constructor<;>intro<;>omega
end
end Go.Ren
namespace Go.Proofs.YtlhimdjkkiflhaaGreatDoor
open Go.RowKit Go.Loop
def pickI (c n:Int):Int:=if c<0 then(-(c+1)).tmod n else c.tmod n
theorem pickI_ge {c n:Int}:0≤pickI c n:=by
 unfold pickI
 split
 ·exact Int.tmod_nonneg _ (by omega)
 ·exact Int.tmod_nonneg _ (by omega)
theorem pickI_lt {c n:Int}(h:0<n):pickI c n<n:=by
 unfold pickI
 split
 ·exact Int.tmod_lt_of_pos _ h
 ·exact Int.tmod_lt_of_pos _ h
set_option maxHeartbeats 1000000 in
theorem pick_any (c n:Int)(w:World)(h1: -9223372036854775808≤c)(h2:c≤9223372036854775807)(hn:0<n)(hn2:n≤1000000):
 Calls Tryz.prog 17 #[.int .i64 c,.int .i64 n] w fun e w'=>e= .returned (.int .i64 (pickI c n))∧w'=w:=by
 have hz:¬ n=0:=by omega
 by_cases hc:c<0
 ·have hp:pickI c n=-((c+1).tmod n):=by unfold pickI;rw[if_pos hc,Int.neg_tmod]
  go_enter Tryz.func17,Tryz.ntmps17
  go_wp2
  all_goals
   go_ret
   exact⟨ret_int hp.symm,rfl⟩
 ·have hp:pickI c n=c.tmod n:=by unfold pickI;rw[if_neg hc]
  go_enter Tryz.func17,Tryz.ntmps17
  go_wp2
  all_goals
   go_ret
   exact⟨ret_int (by first|exact hp.symm|exact(Int.tmod_eq_emod_of_nonneg (by omega)).symm),rfl⟩
end Go.Proofs.YtlhimdjkkiflhaaGreatDoor
namespace Go.Ren
open Go Go.Conc Go.ConcX Go.RowKit Go.Proofs Go.Loop Go.Proofs.YtlhimdjkkiflhaaGreatDoor
def c7 (f:Func):Code:=f.body.getD .skip
def q7 (f:Func):Nat→Code
 |0=>c7 f
 |n+1=>Ren.sndC (q7 f n)
def p7 (f:Func)(n:Nat):Code:=Ren.fstC (q7 f n)
def o7 (f:Func):Array Oper:=Ren.opsC (p7 f 1)
def r7 (f:Func):Array Oper:=Ren.opsC (p7 f 10)
theorem fz7:Tryz.prog.funcs[7]? =some Tryz.f7:=by kernel_rfl
theorem c7_eq:Tryz.f7.body=some (.seq (p7 Tryz.f7 0) (.seq (.region 1 (o7 Tryz.f7) false) (q7 Tryz.f7 2))):=by kernel_rfl
theorem q7_2:q7 Tryz.f7 2= .seq (p7 Tryz.f7 2) (q7 Tryz.f7 3):=by kernel_rfl
theorem q7_3:q7 Tryz.f7 3= .seq (p7 Tryz.f7 3) (q7 Tryz.f7 4):=by kernel_rfl
theorem q7_4:q7 Tryz.f7 4= .seq (p7 Tryz.f7 4) (q7 Tryz.f7 5):=by kernel_rfl
theorem q7_5:q7 Tryz.f7 5= .seq (p7 Tryz.f7 5) (q7 Tryz.f7 6):=by kernel_rfl
theorem q7_6:q7 Tryz.f7 6= .seq (p7 Tryz.f7 6) (q7 Tryz.f7 7):=by kernel_rfl
theorem q7_7:q7 Tryz.f7 7= .seq (p7 Tryz.f7 7) (q7 Tryz.f7 8):=by kernel_rfl
theorem q7_8:q7 Tryz.f7 8= .seq (p7 Tryz.f7 8) (q7 Tryz.f7 9):=by kernel_rfl
theorem q7_9:q7 Tryz.f7 9= .seq (p7 Tryz.f7 9) (q7 Tryz.f7 10):=by kernel_rfl
theorem q7_10:q7 Tryz.f7 10= .seq (.region 15 (r7 Tryz.f7) false) (q7 Tryz.f7 11):=by kernel_rfl
theorem nt7:Tryz.f7.ntmps=79:=by kernel_rfl
theorem t79 (x0 x1 x2:Value):(#[x0,x1,x2]++Array.replicate (79-#[x0,x1,x2].size) undef:Array Value)=#[x0,x1,x2,undef,undef,undef,undef,undef,undef,undef,undef,undef,undef,undef,undef,undef,undef,undef,undef,undef,undef,undef,undef,undef,undef,undef,undef,undef,undef,undef,undef,undef,undef,undef,undef,undef,undef,undef,undef,undef,undef,undef,undef,undef,undef,undef,undef,undef,undef,undef,undef,undef,undef,undef,undef,undef,undef,undef,undef,undef,undef,undef,undef,undef,undef,undef,undef,undef,undef,undef,undef,undef,undef,undef,undef,undef,undef,undef,undef]:=by
 generalize undef=u
 simp[Array.replicate,List.replicate]
theorem enter7 (x0 x1 x2:Value):Frame.enter Tryz.prog 7 #[x0,x1,x2] .normal=(base 7).at ⟨#[x0,x1,x2,undef,undef,undef,undef,undef,undef,undef,undef,undef,undef,undef,undef,undef,undef,undef,undef,undef,undef,undef,undef,undef,undef,undef,undef,undef,undef,undef,undef,undef,undef,undef,undef,undef,undef,undef,undef,undef,undef,undef,undef,undef,undef,undef,undef,undef,undef,undef,undef,undef,undef,undef,undef,undef,undef,undef,undef,undef,undef,undef,undef,undef,undef,undef,undef,undef,undef,undef,undef,undef,undef,undef,undef,undef,undef,undef,undef],[]⟩ [.code (.seq (p7 Tryz.f7 0) (.seq (.region 1 (o7 Tryz.f7) false) (q7 Tryz.f7 2)))]:=by
 rw[enter_at _ fz7 c7_eq,nt7,t79]
theorem ok7_0:okCode Tryz.prog Fz Sz (p7 Tryz.f7 0)=true:=by kernel_rfl
theorem ok7_2:okCode Tryz.prog Fz Sz (p7 Tryz.f7 2)=true:=by kernel_rfl
theorem ok7_3:okCode Tryz.prog Fz Sz (p7 Tryz.f7 3)=true:=by kernel_rfl
theorem ok7_4:okCode Tryz.prog Fz Sz (p7 Tryz.f7 4)=true:=by kernel_rfl
theorem ok7_5:okCode Tryz.prog Fz Sz (p7 Tryz.f7 5)=true:=by kernel_rfl
theorem ok7_6:okCode Tryz.prog Fz Sz (p7 Tryz.f7 6)=true:=by kernel_rfl
theorem ok7_7:okCode Tryz.prog Fz Sz (p7 Tryz.f7 7)=true:=by kernel_rfl
theorem ok7_8:okCode Tryz.prog Fz Sz (p7 Tryz.f7 8)=true:=by kernel_rfl
theorem ok7_9:okCode Tryz.prog Fz Sz (p7 Tryz.f7 9)=true:=by kernel_rfl
theorem ok7_11:okCode Tryz.prog Fz Sz (q7 Tryz.f7 11)=true:=by kernel_rfl
theorem len7:(o7 Tryz.f7).size=2:=by kernel_rfl
theorem len7r:(r7 Tryz.f7).size=12:=by kernel_rfl
def op7 (f:Func)(i:Nat):Oper:=(o7 f)[i]!
def or7 (f:Func)(i:Nat):Oper:=(r7 f)[i]!
theorem at7_0:(o7 Tryz.f7)[0]? =some (op7 Tryz.f7 0):=by kernel_rfl
theorem op7_0:(op7 Tryz.f7 0).op= .call { callee:= .value (.func 20),args:=#[],argTypes:=#[] }:=by kernel_rfl
theorem gd7_0:(op7 Tryz.f7 0).guard=none:=by kernel_rfl
theorem ds7_0:((o7 Tryz.f7)[0]?).bind (·.dst)=some 18:=by kernel_rfl
theorem ok7r:([1].all fun i=>((o7 Tryz.f7)[i]?).all fun o=>okOp Tryz.prog Fz Sz o.op)=true:=by kernel_rfl
theorem bd20:(Tryz.prog.funcs[20]?).any (fun fn=>fn.body.isSome)=true:=by kernel_rfl
theorem nm20:(Tryz.prog.funcs[20]?).any (fun fn=>fn.name != "runtime.NumGoroutine")=true:=by kernel_rfl
theorem res7:Tryz.f7.results=#[.tmp 6]:=by kernel_rfl
theorem CoReach.awake' {Ψ:CoGoal}{cs:List Frame}{w:World}{b:Frame}{a:Act}{ops:Array Oper}{i:Nat}{rest:List Nat}{kk:List Item}(hp:YtlhimdjkkiflhaaGreatDoor.Pow w){d:Tmp}(hd:(ops[i]?).bind (·.dst)=some d){a':Act}(ha:a.put (some d) (.bool true)=a')(h:∀ w',HeapB w w'→CoReach Tryz.prog Sz Ψ (b.at a' (.inRegion ops rest::kk)) cs w'):
 CoReach Tryz.prog Sz Ψ (Frame.enter Tryz.prog 20 #[] .normal) (b.at a (.inRegion ops (i::rest)::kk)::cs) w:=
 CoReach.awake hp fun w' h1=>by rw[hd,ha];exact h w' h1
section
variable {Ψ:CoGoal} {w:World}
set_option maxRecDepth 100000 in
set_option maxHeartbeats 8000000 in
theorem CoReach.deep0 {n dep kind:Int}(hp:YtlhimdjkkiflhaaGreatDoor.Pow w)(h:∀ w',HeapB w w'→CoReach Tryz.prog Sz Ψ ((base 7).at ⟨#[.int .i64 n,.int .i64 dep,.int .i64 kind,undef,undef,undef,.bool false,.bool true,undef,undef,undef,undef,undef,undef,undef,undef,undef,undef,.bool true,undef,undef,undef,undef,undef,undef,undef,undef,undef,undef,undef,undef,undef,undef,undef,undef,undef,undef,undef,undef,undef,undef,undef,undef,undef,undef,undef,undef,undef,undef,undef,undef,undef,undef,undef,undef,undef,undef,undef,undef,undef,undef,undef,undef,undef,undef,undef,undef,undef,undef,undef,undef,undef,undef,undef,undef,undef,undef,undef,undef],[]⟩ [.code (q7 Tryz.f7 2)]) [] w'):
 CoReach Tryz.prog Sz Ψ (Frame.enter Tryz.prog 7 #[.int .i64 n,.int .i64 dep,.int .i64 kind] .normal) [] w:=by
 have mixed:Tryz.prog.follows Departure.mixedOrders=true:=by kernel_rfl
 have HH:Hid _:=h
 clear h
 rw[enter7]
 refine CoReach.seq ?_
 refine CoReach.code cloz ok7_0 rfl ⟨_,fz7⟩ rfl fun τ d=>?_
 have HB1:Hid (HeapB w (w.re τ d)):=⟨Nat.le_refl _,fun _ _=>rfl⟩
 have HP:Hid (YtlhimdjkkiflhaaGreatDoor.Pow (w.re τ d)):=Pow.heapB hp HB1.out
 clear hp
 generalize w.re τ d=w1 at *
 generalize hkk:([.code (.seq (.region 1 (o7 Tryz.f7) false) (q7 Tryz.f7 2))]:List Item)=kq
 dsimp only[p7,q7,c7,Ren.fstC,Tryz.f7,Option.getD]
 go_wp2_with fail
 subst hkk
 show CoReach _ _ _ _ _ _
 refine CoReach.seq ?_
 refine CoReach.region ?_
 rw[len7,show List.range 2=[0,1] from rfl]
 refine CoReach.enter' (f:=20) (xs:=#[]) (ats:=#[]) (args:=#[]) at7_0 gd7_0 (by decide) op7_0 bd20 nm20 (by simp) (by simp) ?_
 refine CoReach.awake' HP.out ds7_0 (a':=⟨#[.int .i64 n,.int .i64 dep,.int .i64 kind,undef,undef,undef,.bool false,undef,undef,undef,undef,undef,undef,undef,undef,undef,undef,undef,.bool true,undef,undef,undef,undef,undef,undef,undef,undef,undef,undef,undef,undef,undef,undef,undef,undef,undef,undef,undef,undef,undef,undef,undef,undef,undef,undef,undef,undef,undef,undef,undef,undef,undef,undef,undef,undef,undef,undef,undef,undef,undef,undef,undef,undef,undef,undef,undef,undef,undef,undef,undef,undef,undef,undef,undef,undef,undef,undef,undef,undef],[]⟩) (by simp[Act.put]) fun w2 hb2=>?_
 have HB2:Hid (HeapB w w2):=HB1.out.trans hb2
 clear HB1 hb2 HP
 refine CoReach.ops cloz rfl ⟨_,fz7⟩ rfl ok7r 1 ((o7 Tryz.f7).toList.drop 1) (by rw[List.length_drop,Array.length_toList,len7];rfl) (fun j=>by rw[List.getElem?_drop,Array.getElem?_toList]) fun τ' d'=>?_
 have HB3:Hid (HeapB w (w2.re τ' d')):=HeapB.heap HB2.out rfl
 clear HB2
 generalize w2.re τ' d'=w3 at *
 generalize hkk:([.code (q7 Tryz.f7 2)]:List Item)=kq
 dsimp only[o7,p7,q7,c7,Ren.opsC,Ren.fstC,Ren.sndC,Tryz.f7,Option.getD]
 simp only[List.drop_succ_cons,List.drop_zero]
 go_wp2_with fail
 subst hkk
 show CoReach _ _ _ _ _ _
 exact HH.out _ HB3.out
end
section
variable {Ψ:CoGoal} {w w1:World}
set_option maxRecDepth 100000 in
set_option maxHeartbeats 8000000 in
theorem CoReach.deep1_0 {n dep kind:Int}{K D:Nat}(hn:∀ w,Calls Tryz.prog 17 #[.int .i64 n,.int .i64 40] w fun e w'=>e= .returned (.int .i64 (K:Nat))∧w'=w)(hd:∀ w,Calls Tryz.prog 17 #[.int .i64 dep,.int .i64 31] w fun e w'=>e= .returned (.int .i64 (D:Nat))∧w'=w)
 (hk:∀ w,Calls Tryz.prog 17 #[.int .i64 kind,.int .i64 3] w fun e w'=>e= .returned (.int .i64 0)∧w'=w)(hb:HeapB w w1)
 (h:∀ w' v25 v26 v27 v28 v29 v30 v31 v32 v33 v34,HeapB w w'→CoReach Tryz.prog Sz Ψ ((base 7).at ⟨#[.int .i64 n,.int .i64 dep,.int .i64 kind,undef,undef,undef,.bool false,.bool true,.int .i64 (K:Nat),.int .i64 (D:Nat),.string ⟨⟨[40]⟩⟩,.string ⟨⟨[41]⟩⟩,.string ⟨⟨[]⟩⟩,.string ⟨⟨[120]⟩⟩,undef,undef,undef,undef,.bool true,.bool true,.bool false,.int .i64 n,.int .i64 (K:Nat),.int .i64 dep,.int .i64 (D:Nat),v25,v26,v27,v28,v29,v30,v31,v32,v33,v34,undef,undef,undef,undef,undef,undef,undef,undef,undef,undef,undef,undef,undef,undef,undef,undef,undef,undef,undef,undef,undef,undef,undef,undef,undef,undef,undef,undef,undef,undef,undef,undef,undef,undef,undef,undef,undef,undef,undef,undef,undef,undef,undef,undef],[]⟩ [.code (q7 Tryz.f7 9)]) [] w'):
 CoReach Tryz.prog Sz Ψ ((base 7).at ⟨#[.int .i64 n,.int .i64 dep,.int .i64 kind,undef,undef,undef,.bool false,.bool true,undef,undef,undef,undef,undef,undef,undef,undef,undef,undef,.bool true,undef,undef,undef,undef,undef,undef,undef,undef,undef,undef,undef,undef,undef,undef,undef,undef,undef,undef,undef,undef,undef,undef,undef,undef,undef,undef,undef,undef,undef,undef,undef,undef,undef,undef,undef,undef,undef,undef,undef,undef,undef,undef,undef,undef,undef,undef,undef,undef,undef,undef,undef,undef,undef,undef,undef,undef,undef,undef,undef,undef],[]⟩ [.code (q7 Tryz.f7 2)]) [] w1:=by
 have mixed:Tryz.prog.follows Departure.mixedOrders=true:=by kernel_rfl
 have HB1:Hid (HeapB w w1):=hb
 have HN:Hid _:=hn
 have HD:Hid _:=hd
 have HK:Hid _:=hk
 have HH:Hid _:=h
 clear hb hn hd hk h
 rw[q7_2]
 refine CoReach.seq ?_
 refine CoReach.code cloz ok7_2 rfl ⟨_,fz7⟩ rfl fun τ d=>?_
 have HB2:Hid (HeapB w (w1.re τ d)):=HeapB.heap HB1.out rfl
 clear HB1
 generalize w1.re τ d=w2 at *
 generalize hkk:([.code (q7 Tryz.f7 3)]:List Item)=kq
 dsimp only[p7,q7,c7,Ren.fstC,Ren.sndC,Tryz.f7,Option.getD]
 go_wp2_with fail
 subst hkk
 show CoReach _ _ _ _ _ _
 rw[q7_3]
 refine CoReach.seq ?_
 refine CoReach.code cloz ok7_3 rfl ⟨_,fz7⟩ rfl fun τ d=>?_
 have HB3:Hid (HeapB w (w2.re τ d)):=HeapB.heap HB2.out rfl
 clear HB2
 generalize w2.re τ d=w3 at *
 generalize hkk:([.code (q7 Tryz.f7 4)]:List Item)=kq
 dsimp only[p7,q7,c7,Ren.fstC,Ren.sndC,Tryz.f7,Option.getD]
 go_wp2_with fail
 refine Calls.mono (HN.out _) ?_
 rintro e w' ⟨rfl,hw⟩
 rw[hw]
 clear hw
 go_wp2_with fail
 subst hkk
 show CoReach _ _ _ _ _ _
 rw[q7_4]
 refine CoReach.seq ?_
 refine CoReach.code cloz ok7_4 rfl ⟨_,fz7⟩ rfl fun τ d=>?_
 have HB4:Hid (HeapB w (w3.re τ d)):=HeapB.heap HB3.out rfl
 clear HB3
 generalize w3.re τ d=w4 at *
 generalize hkk:([.code (q7 Tryz.f7 5)]:List Item)=kq
 dsimp only[p7,q7,c7,Ren.fstC,Ren.sndC,Tryz.f7,Option.getD]
 go_wp2_with fail
 refine Calls.mono (HD.out _) ?_
 rintro e w' ⟨rfl,hw⟩
 rw[hw]
 clear hw
 go_wp2_with fail
 subst hkk
 show CoReach _ _ _ _ _ _
 rw[q7_5]
 refine CoReach.seq ?_
 refine CoReach.code cloz ok7_5 rfl ⟨_,fz7⟩ rfl fun τ d=>?_
 have HB5:Hid (HeapB w (w4.re τ d)):=HeapB.heap HB4.out rfl
 clear HB4
 generalize w4.re τ d=w5 at *
 generalize hkk:([.code (q7 Tryz.f7 6)]:List Item)=kq
 dsimp only[p7,q7,c7,Ren.fstC,Ren.sndC,Tryz.f7,Option.getD]
 go_wp2_with fail
 refine Calls.mono (HK.out _) ?_
 rintro e w' ⟨rfl,hw⟩
 rw[hw]
 clear hw
 go_wp2_with fail
 subst hkk
 show CoReach _ _ _ _ _ _
 have HB5b:Hid (HeapB w (w5.alloc (.cells #[.string ⟨#[40]⟩,.string ⟨#[35,40]⟩,.string ⟨#[39]⟩] 9))):=HB5.out.trans (HeapB.of ((Below.refl _ _).alloc (Nat.le_refl _) _))
 clear HB5
 generalize w5.alloc (.cells #[.string ⟨#[40]⟩,.string ⟨#[35,40]⟩,.string ⟨#[39]⟩] 9)=w5b at HB5b ⊢
 rw[q7_6]
 refine CoReach.seq ?_
 refine CoReach.code cloz ok7_6 rfl ⟨_,fz7⟩ rfl fun τ d=>?_
 have HB6:Hid (HeapB w (w5b.re τ d)):=HeapB.heap HB5b.out rfl
 clear HB5b
 generalize w5b.re τ d=w6 at *
 generalize hkk:([.code (q7 Tryz.f7 7)]:List Item)=kq
 dsimp only[p7,q7,c7,Ren.fstC,Ren.sndC,Tryz.f7,Option.getD]
 go_wp2_with fail
 refine Calls.mono (HK.out _) ?_
 rintro e w' ⟨rfl,hw⟩
 rw[hw]
 clear hw
 go_wp2_with fail
 subst hkk
 show CoReach _ _ _ _ _ _
 have HB6b:Hid (HeapB w (w6.alloc (.cells #[.string ⟨#[41]⟩,.string ⟨#[41]⟩,.string ⟨#[]⟩] 9))):=HB6.out.trans (HeapB.of ((Below.refl _ _).alloc (Nat.le_refl _) _))
 clear HB6
 generalize w6.alloc (.cells #[.string ⟨#[41]⟩,.string ⟨#[41]⟩,.string ⟨#[]⟩] 9)=w6b at HB6b ⊢
 rw[q7_7]
 refine CoReach.seq ?_
 refine CoReach.code cloz ok7_7 rfl ⟨_,fz7⟩ rfl fun τ d=>?_
 have HB7:Hid (HeapB w (w6b.re τ d)):=HeapB.heap HB6b.out rfl
 clear HB6b
 generalize w6b.re τ d=w7 at *
 generalize hkk:([.code (q7 Tryz.f7 8)]:List Item)=kq
 dsimp only[p7,q7,c7,Ren.fstC,Ren.sndC,Tryz.f7,Option.getD]
 go_wp2_with fail
 subst hkk
 show CoReach _ _ _ _ _ _
 rw[q7_8]
 refine CoReach.seq ?_
 refine CoReach.code cloz ok7_8 rfl ⟨_,fz7⟩ rfl fun τ d=>?_
 have HB8:Hid (HeapB w (w7.re τ d)):=HeapB.heap HB7.out rfl
 clear HB7
 generalize w7.re τ d=w8 at *
 generalize hkk:([.code (q7 Tryz.f7 9)]:List Item)=kq
 dsimp only[p7,q7,c7,Ren.fstC,Ren.sndC,Tryz.f7,Option.getD]
 go_wp2_with fail
 subst hkk
 show CoReach _ _ _ _ _ _
 exact HH.out _ _ _ _ _ _ _ _ _ _ _ HB8.out
end
section
variable {Ψ:CoGoal} {w w1:World}
set_option maxRecDepth 100000 in
set_option maxHeartbeats 8000000 in
theorem CoReach.deep1_1 {n dep kind:Int}{K D:Nat}(hn:∀ w,Calls Tryz.prog 17 #[.int .i64 n,.int .i64 40] w fun e w'=>e= .returned (.int .i64 (K:Nat))∧w'=w)(hd:∀ w,Calls Tryz.prog 17 #[.int .i64 dep,.int .i64 31] w fun e w'=>e= .returned (.int .i64 (D:Nat))∧w'=w)
 (hk:∀ w,Calls Tryz.prog 17 #[.int .i64 kind,.int .i64 3] w fun e w'=>e= .returned (.int .i64 1)∧w'=w)(hb:HeapB w w1)
 (h:∀ w' v25 v26 v27 v28 v29 v30 v31 v32 v33 v34,HeapB w w'→CoReach Tryz.prog Sz Ψ ((base 7).at ⟨#[.int .i64 n,.int .i64 dep,.int .i64 kind,undef,undef,undef,.bool false,.bool true,.int .i64 (K:Nat),.int .i64 (D:Nat),.string ⟨⟨[35,40]⟩⟩,.string ⟨⟨[41]⟩⟩,.string ⟨⟨[]⟩⟩,.string ⟨⟨[120]⟩⟩,undef,undef,undef,undef,.bool true,.bool true,.bool false,.int .i64 n,.int .i64 (K:Nat),.int .i64 dep,.int .i64 (D:Nat),v25,v26,v27,v28,v29,v30,v31,v32,v33,v34,undef,undef,undef,undef,undef,undef,undef,undef,undef,undef,undef,undef,undef,undef,undef,undef,undef,undef,undef,undef,undef,undef,undef,undef,undef,undef,undef,undef,undef,undef,undef,undef,undef,undef,undef,undef,undef,undef,undef,undef,undef,undef,undef,undef],[]⟩ [.code (q7 Tryz.f7 9)]) [] w'):
 CoReach Tryz.prog Sz Ψ ((base 7).at ⟨#[.int .i64 n,.int .i64 dep,.int .i64 kind,undef,undef,undef,.bool false,.bool true,undef,undef,undef,undef,undef,undef,undef,undef,undef,undef,.bool true,undef,undef,undef,undef,undef,undef,undef,undef,undef,undef,undef,undef,undef,undef,undef,undef,undef,undef,undef,undef,undef,undef,undef,undef,undef,undef,undef,undef,undef,undef,undef,undef,undef,undef,undef,undef,undef,undef,undef,undef,undef,undef,undef,undef,undef,undef,undef,undef,undef,undef,undef,undef,undef,undef,undef,undef,undef,undef,undef,undef],[]⟩ [.code (q7 Tryz.f7 2)]) [] w1:=by
 have mixed:Tryz.prog.follows Departure.mixedOrders=true:=by kernel_rfl
 have HB1:Hid (HeapB w w1):=hb
 have HN:Hid _:=hn
 have HD:Hid _:=hd
 have HK:Hid _:=hk
 have HH:Hid _:=h
 clear hb hn hd hk h
 rw[q7_2]
 refine CoReach.seq ?_
 refine CoReach.code cloz ok7_2 rfl ⟨_,fz7⟩ rfl fun τ d=>?_
 have HB2:Hid (HeapB w (w1.re τ d)):=HeapB.heap HB1.out rfl
 clear HB1
 generalize w1.re τ d=w2 at *
 generalize hkk:([.code (q7 Tryz.f7 3)]:List Item)=kq
 dsimp only[p7,q7,c7,Ren.fstC,Ren.sndC,Tryz.f7,Option.getD]
 go_wp2_with fail
 subst hkk
 show CoReach _ _ _ _ _ _
 rw[q7_3]
 refine CoReach.seq ?_
 refine CoReach.code cloz ok7_3 rfl ⟨_,fz7⟩ rfl fun τ d=>?_
 have HB3:Hid (HeapB w (w2.re τ d)):=HeapB.heap HB2.out rfl
 clear HB2
 generalize w2.re τ d=w3 at *
 generalize hkk:([.code (q7 Tryz.f7 4)]:List Item)=kq
 dsimp only[p7,q7,c7,Ren.fstC,Ren.sndC,Tryz.f7,Option.getD]
 go_wp2_with fail
 refine Calls.mono (HN.out _) ?_
 rintro e w' ⟨rfl,hw⟩
 rw[hw]
 clear hw
 go_wp2_with fail
 subst hkk
 show CoReach _ _ _ _ _ _
 rw[q7_4]
 refine CoReach.seq ?_
 refine CoReach.code cloz ok7_4 rfl ⟨_,fz7⟩ rfl fun τ d=>?_
 have HB4:Hid (HeapB w (w3.re τ d)):=HeapB.heap HB3.out rfl
 clear HB3
 generalize w3.re τ d=w4 at *
 generalize hkk:([.code (q7 Tryz.f7 5)]:List Item)=kq
 dsimp only[p7,q7,c7,Ren.fstC,Ren.sndC,Tryz.f7,Option.getD]
 go_wp2_with fail
 refine Calls.mono (HD.out _) ?_
 rintro e w' ⟨rfl,hw⟩
 rw[hw]
 clear hw
 go_wp2_with fail
 subst hkk
 show CoReach _ _ _ _ _ _
 rw[q7_5]
 refine CoReach.seq ?_
 refine CoReach.code cloz ok7_5 rfl ⟨_,fz7⟩ rfl fun τ d=>?_
 have HB5:Hid (HeapB w (w4.re τ d)):=HeapB.heap HB4.out rfl
 clear HB4
 generalize w4.re τ d=w5 at *
 generalize hkk:([.code (q7 Tryz.f7 6)]:List Item)=kq
 dsimp only[p7,q7,c7,Ren.fstC,Ren.sndC,Tryz.f7,Option.getD]
 go_wp2_with fail
 refine Calls.mono (HK.out _) ?_
 rintro e w' ⟨rfl,hw⟩
 rw[hw]
 clear hw
 go_wp2_with fail
 subst hkk
 show CoReach _ _ _ _ _ _
 have HB5b:Hid (HeapB w (w5.alloc (.cells #[.string ⟨#[40]⟩,.string ⟨#[35,40]⟩,.string ⟨#[39]⟩] 9))):=HB5.out.trans (HeapB.of ((Below.refl _ _).alloc (Nat.le_refl _) _))
 clear HB5
 generalize w5.alloc (.cells #[.string ⟨#[40]⟩,.string ⟨#[35,40]⟩,.string ⟨#[39]⟩] 9)=w5b at HB5b ⊢
 rw[q7_6]
 refine CoReach.seq ?_
 refine CoReach.code cloz ok7_6 rfl ⟨_,fz7⟩ rfl fun τ d=>?_
 have HB6:Hid (HeapB w (w5b.re τ d)):=HeapB.heap HB5b.out rfl
 clear HB5b
 generalize w5b.re τ d=w6 at *
 generalize hkk:([.code (q7 Tryz.f7 7)]:List Item)=kq
 dsimp only[p7,q7,c7,Ren.fstC,Ren.sndC,Tryz.f7,Option.getD]
 go_wp2_with fail
 refine Calls.mono (HK.out _) ?_
 rintro e w' ⟨rfl,hw⟩
 rw[hw]
 clear hw
 go_wp2_with fail
 subst hkk
 show CoReach _ _ _ _ _ _
 have HB6b:Hid (HeapB w (w6.alloc (.cells #[.string ⟨#[41]⟩,.string ⟨#[41]⟩,.string ⟨#[]⟩] 9))):=HB6.out.trans (HeapB.of ((Below.refl _ _).alloc (Nat.le_refl _) _))
 clear HB6
 generalize w6.alloc (.cells #[.string ⟨#[41]⟩,.string ⟨#[41]⟩,.string ⟨#[]⟩] 9)=w6b at HB6b ⊢
 rw[q7_7]
 refine CoReach.seq ?_
 refine CoReach.code cloz ok7_7 rfl ⟨_,fz7⟩ rfl fun τ d=>?_
 have HB7:Hid (HeapB w (w6b.re τ d)):=HeapB.heap HB6b.out rfl
 clear HB6b
 generalize w6b.re τ d=w7 at *
 generalize hkk:([.code (q7 Tryz.f7 8)]:List Item)=kq
 dsimp only[p7,q7,c7,Ren.fstC,Ren.sndC,Tryz.f7,Option.getD]
 go_wp2_with fail
 subst hkk
 show CoReach _ _ _ _ _ _
 rw[q7_8]
 refine CoReach.seq ?_
 refine CoReach.code cloz ok7_8 rfl ⟨_,fz7⟩ rfl fun τ d=>?_
 have HB8:Hid (HeapB w (w7.re τ d)):=HeapB.heap HB7.out rfl
 clear HB7
 generalize w7.re τ d=w8 at *
 generalize hkk:([.code (q7 Tryz.f7 9)]:List Item)=kq
 dsimp only[p7,q7,c7,Ren.fstC,Ren.sndC,Tryz.f7,Option.getD]
 go_wp2_with fail
 subst hkk
 show CoReach _ _ _ _ _ _
 exact HH.out _ _ _ _ _ _ _ _ _ _ _ HB8.out
end
section
variable {Ψ:CoGoal} {w w1:World}
set_option maxRecDepth 100000 in
set_option maxHeartbeats 8000000 in
theorem CoReach.deep1_2 {n dep kind:Int}{K D:Nat}(hn:∀ w,Calls Tryz.prog 17 #[.int .i64 n,.int .i64 40] w fun e w'=>e= .returned (.int .i64 (K:Nat))∧w'=w)(hd:∀ w,Calls Tryz.prog 17 #[.int .i64 dep,.int .i64 31] w fun e w'=>e= .returned (.int .i64 (D:Nat))∧w'=w)
 (hk:∀ w,Calls Tryz.prog 17 #[.int .i64 kind,.int .i64 3] w fun e w'=>e= .returned (.int .i64 2)∧w'=w)(hb:HeapB w w1)
 (h:∀ w' v25 v26 v27 v28 v29 v30 v31 v32 v33 v34,HeapB w w'→CoReach Tryz.prog Sz Ψ ((base 7).at ⟨#[.int .i64 n,.int .i64 dep,.int .i64 kind,undef,undef,undef,.bool false,.bool true,.int .i64 (K:Nat),.int .i64 (D:Nat),.string ⟨⟨[39]⟩⟩,.string ⟨⟨[]⟩⟩,.string ⟨⟨[]⟩⟩,.string ⟨⟨[120]⟩⟩,undef,undef,undef,undef,.bool true,.bool true,.bool false,.int .i64 n,.int .i64 (K:Nat),.int .i64 dep,.int .i64 (D:Nat),v25,v26,v27,v28,v29,v30,v31,v32,v33,v34,undef,undef,undef,undef,undef,undef,undef,undef,undef,undef,undef,undef,undef,undef,undef,undef,undef,undef,undef,undef,undef,undef,undef,undef,undef,undef,undef,undef,undef,undef,undef,undef,undef,undef,undef,undef,undef,undef,undef,undef,undef,undef,undef,undef],[]⟩ [.code (q7 Tryz.f7 9)]) [] w'):
 CoReach Tryz.prog Sz Ψ ((base 7).at ⟨#[.int .i64 n,.int .i64 dep,.int .i64 kind,undef,undef,undef,.bool false,.bool true,undef,undef,undef,undef,undef,undef,undef,undef,undef,undef,.bool true,undef,undef,undef,undef,undef,undef,undef,undef,undef,undef,undef,undef,undef,undef,undef,undef,undef,undef,undef,undef,undef,undef,undef,undef,undef,undef,undef,undef,undef,undef,undef,undef,undef,undef,undef,undef,undef,undef,undef,undef,undef,undef,undef,undef,undef,undef,undef,undef,undef,undef,undef,undef,undef,undef,undef,undef,undef,undef,undef,undef],[]⟩ [.code (q7 Tryz.f7 2)]) [] w1:=by
 have mixed:Tryz.prog.follows Departure.mixedOrders=true:=by kernel_rfl
 have HB1:Hid (HeapB w w1):=hb
 have HN:Hid _:=hn
 have HD:Hid _:=hd
 have HK:Hid _:=hk
 have HH:Hid _:=h
 clear hb hn hd hk h
 rw[q7_2]
 refine CoReach.seq ?_
 refine CoReach.code cloz ok7_2 rfl ⟨_,fz7⟩ rfl fun τ d=>?_
 have HB2:Hid (HeapB w (w1.re τ d)):=HeapB.heap HB1.out rfl
 clear HB1
 generalize w1.re τ d=w2 at *
 generalize hkk:([.code (q7 Tryz.f7 3)]:List Item)=kq
 dsimp only[p7,q7,c7,Ren.fstC,Ren.sndC,Tryz.f7,Option.getD]
 go_wp2_with fail
 subst hkk
 show CoReach _ _ _ _ _ _
 rw[q7_3]
 refine CoReach.seq ?_
 refine CoReach.code cloz ok7_3 rfl ⟨_,fz7⟩ rfl fun τ d=>?_
 have HB3:Hid (HeapB w (w2.re τ d)):=HeapB.heap HB2.out rfl
 clear HB2
 generalize w2.re τ d=w3 at *
 generalize hkk:([.code (q7 Tryz.f7 4)]:List Item)=kq
 dsimp only[p7,q7,c7,Ren.fstC,Ren.sndC,Tryz.f7,Option.getD]
 go_wp2_with fail
 refine Calls.mono (HN.out _) ?_
 rintro e w' ⟨rfl,hw⟩
 rw[hw]
 clear hw
 go_wp2_with fail
 subst hkk
 show CoReach _ _ _ _ _ _
 rw[q7_4]
 refine CoReach.seq ?_
 refine CoReach.code cloz ok7_4 rfl ⟨_,fz7⟩ rfl fun τ d=>?_
 have HB4:Hid (HeapB w (w3.re τ d)):=HeapB.heap HB3.out rfl
 clear HB3
 generalize w3.re τ d=w4 at *
 generalize hkk:([.code (q7 Tryz.f7 5)]:List Item)=kq
 dsimp only[p7,q7,c7,Ren.fstC,Ren.sndC,Tryz.f7,Option.getD]
 go_wp2_with fail
 refine Calls.mono (HD.out _) ?_
 rintro e w' ⟨rfl,hw⟩
 rw[hw]
 clear hw
 go_wp2_with fail
 subst hkk
 show CoReach _ _ _ _ _ _
 rw[q7_5]
 refine CoReach.seq ?_
 refine CoReach.code cloz ok7_5 rfl ⟨_,fz7⟩ rfl fun τ d=>?_
 have HB5:Hid (HeapB w (w4.re τ d)):=HeapB.heap HB4.out rfl
 clear HB4
 generalize w4.re τ d=w5 at *
 generalize hkk:([.code (q7 Tryz.f7 6)]:List Item)=kq
 dsimp only[p7,q7,c7,Ren.fstC,Ren.sndC,Tryz.f7,Option.getD]
 go_wp2_with fail
 refine Calls.mono (HK.out _) ?_
 rintro e w' ⟨rfl,hw⟩
 rw[hw]
 clear hw
 go_wp2_with fail
 subst hkk
 show CoReach _ _ _ _ _ _
 have HB5b:Hid (HeapB w (w5.alloc (.cells #[.string ⟨#[40]⟩,.string ⟨#[35,40]⟩,.string ⟨#[39]⟩] 9))):=HB5.out.trans (HeapB.of ((Below.refl _ _).alloc (Nat.le_refl _) _))
 clear HB5
 generalize w5.alloc (.cells #[.string ⟨#[40]⟩,.string ⟨#[35,40]⟩,.string ⟨#[39]⟩] 9)=w5b at HB5b ⊢
 rw[q7_6]
 refine CoReach.seq ?_
 refine CoReach.code cloz ok7_6 rfl ⟨_,fz7⟩ rfl fun τ d=>?_
 have HB6:Hid (HeapB w (w5b.re τ d)):=HeapB.heap HB5b.out rfl
 clear HB5b
 generalize w5b.re τ d=w6 at *
 generalize hkk:([.code (q7 Tryz.f7 7)]:List Item)=kq
 dsimp only[p7,q7,c7,Ren.fstC,Ren.sndC,Tryz.f7,Option.getD]
 go_wp2_with fail
 refine Calls.mono (HK.out _) ?_
 rintro e w' ⟨rfl,hw⟩
 rw[hw]
 clear hw
 go_wp2_with fail
 subst hkk
 show CoReach _ _ _ _ _ _
 have HB6b:Hid (HeapB w (w6.alloc (.cells #[.string ⟨#[41]⟩,.string ⟨#[41]⟩,.string ⟨#[]⟩] 9))):=HB6.out.trans (HeapB.of ((Below.refl _ _).alloc (Nat.le_refl _) _))
 clear HB6
 generalize w6.alloc (.cells #[.string ⟨#[41]⟩,.string ⟨#[41]⟩,.string ⟨#[]⟩] 9)=w6b at HB6b ⊢
 rw[q7_7]
 refine CoReach.seq ?_
 refine CoReach.code cloz ok7_7 rfl ⟨_,fz7⟩ rfl fun τ d=>?_
 have HB7:Hid (HeapB w (w6b.re τ d)):=HeapB.heap HB6b.out rfl
 clear HB6b
 generalize w6b.re τ d=w7 at *
 generalize hkk:([.code (q7 Tryz.f7 8)]:List Item)=kq
 dsimp only[p7,q7,c7,Ren.fstC,Ren.sndC,Tryz.f7,Option.getD]
 go_wp2_with fail
 subst hkk
 show CoReach _ _ _ _ _ _
 rw[q7_8]
 refine CoReach.seq ?_
 refine CoReach.code cloz ok7_8 rfl ⟨_,fz7⟩ rfl fun τ d=>?_
 have HB8:Hid (HeapB w (w7.re τ d)):=HeapB.heap HB7.out rfl
 clear HB7
 generalize w7.re τ d=w8 at *
 generalize hkk:([.code (q7 Tryz.f7 9)]:List Item)=kq
 dsimp only[p7,q7,c7,Ren.fstC,Ren.sndC,Tryz.f7,Option.getD]
 go_wp2_with fail
 subst hkk
 show CoReach _ _ _ _ _ _
 exact HH.out _ _ _ _ _ _ _ _ _ _ _ HB8.out
end
section
variable {Ψ:CoGoal} {w w8:World}
theorem flat_snoc (o:List UInt8)(k:Nat):(List.replicate (k+1) o).flatten=(List.replicate k o).flatten++o:=by
 rw[List.replicate_succ'];simp
theorem flat_len (o:List UInt8)(k:Nat):(List.replicate k o).flatten.length=k*o.length:=by simp
set_option maxRecDepth 100000 in
set_option maxHeartbeats 8000000 in
theorem CoReach.deep2 {n dep kind:Int}{K D:Nat}{o c:List UInt8}{v25 v26 v27 v28 v29 v30 v31 v32 v33 v34:Value}(hK:K≤40)(ho:o.length≤2)(hc:c.length≤2)(hb:HeapB w w8)
 (h:∀ w' v38 v39 v40 v41 v42 v43 v44 v45,HeapB w w'→CoReach Tryz.prog Sz Ψ ((base 7).at ⟨#[.int .i64 n,.int .i64 dep,.int .i64 kind,undef,undef,undef,.bool false,.bool true,.int .i64 (K:Nat),.int .i64 (D:Nat),.string ⟨⟨o⟩⟩,.string ⟨⟨c⟩⟩,.string ⟨⟨(List.replicate K o).flatten⟩⟩,.string ⟨⟨120::(List.replicate K c).flatten⟩⟩,.int .i64 (K:Nat),undef,undef,undef,.bool true,.bool true,.bool false,.int .i64 n,.int .i64 (K:Nat),.int .i64 dep,.int .i64 (D:Nat),v25,v26,v27,v28,v29,v30,v31,v32,v33,v34,.int .i64 (K:Nat),.int .i64 (K:Nat),.bool false,v38,v39,v40,v41,v42,v43,v44,v45,undef,undef,undef,undef,undef,undef,undef,undef,undef,undef,undef,undef,undef,undef,undef,undef,undef,undef,undef,undef,undef,undef,undef,undef,undef,undef,undef,undef,undef,undef,undef,undef,undef],[]⟩ [.code (q7 Tryz.f7 10)]) [] w'):
 CoReach Tryz.prog Sz Ψ ((base 7).at ⟨#[.int .i64 n,.int .i64 dep,.int .i64 kind,undef,undef,undef,.bool false,.bool true,.int .i64 (K:Nat),.int .i64 (D:Nat),.string ⟨⟨o⟩⟩,.string ⟨⟨c⟩⟩,.string ⟨⟨[]⟩⟩,.string ⟨⟨[120]⟩⟩,undef,undef,undef,undef,.bool true,.bool true,.bool false,.int .i64 n,.int .i64 (K:Nat),.int .i64 dep,.int .i64 (D:Nat),v25,v26,v27,v28,v29,v30,v31,v32,v33,v34,undef,undef,undef,undef,undef,undef,undef,undef,undef,undef,undef,undef,undef,undef,undef,undef,undef,undef,undef,undef,undef,undef,undef,undef,undef,undef,undef,undef,undef,undef,undef,undef,undef,undef,undef,undef,undef,undef,undef,undef,undef,undef,undef,undef],[]⟩ [.code (q7 Tryz.f7 9)]) [] w8:=by
 have mixed:Tryz.prog.follows Departure.mixedOrders=true:=by kernel_rfl
 have HB8:Hid (HeapB w w8):=hb
 have HH:Hid _:=h
 clear hb h
 rw[q7_9]
 refine CoReach.seq ?_
 refine CoReach.code cloz ok7_9 rfl ⟨_,fz7⟩ rfl fun τ d=>?_
 have HB9:Hid (HeapB w (w8.re τ d)):=HeapB.heap HB8.out rfl
 clear HB8
 generalize w8.re τ d=w9 at *
 generalize hkk:([.code (q7 Tryz.f7 10)]:List Item)=kq
 dsimp only[p7,q7,c7,Ren.fstC,Ren.sndC,Tryz.f7,Option.getD]
 go_wp2_with fail
 go_loop [12,13,14] (fun s t i=>∃ k:Nat,k≤K∧i= .int .i64 k∧∃ ls lt:List UInt8,s= .string ⟨⟨ls⟩⟩∧t= .string ⟨⟨lt⟩⟩∧ls.length≤2*k∧lt.length≤1+2*k∧Hid (ls=(List.replicate k o).flatten∧lt=120::(List.replicate k c).flatten)) (fun _ _ i=>K-(intOf i).toNat)
 case atStart=>exact⟨0,Nat.zero_le _,rfl,[],[120],rfl,rfl,by simp,by simp,⟨rfl,rfl⟩⟩
 case round=>
  obtain⟨k,hk,rfl,ls,lt,rfl,rfl,hl1,hl2,hL⟩:=hrel
  have ks:=str_app
  by_cases hlt:k<K
  ·have H1:Hid _:=flat_snoc o k
   have H2:Hid _:=flat_snoc c k
   go_wp2_with fail
   go_round
   case rel=>exact⟨k+1,by omega,by go_num,_,_,rfl,rfl,by simp;omega,by simp;omega,⟨by rw[H1.out,hL.out.1],by rw[H2.out,hL.out.2];simp⟩⟩
   case measure=>simp[intOf];omega
  ·obtain rfl:k=K:=by omega
   go_wp2_with fail
   obtain⟨rfl,rfl⟩:=hL.out
   subst hkk
   show CoReach _ _ _ _ _ _
   exact HH.out _ _ _ _ _ _ _ _ _ HB9.out
end
end Go.Ren
