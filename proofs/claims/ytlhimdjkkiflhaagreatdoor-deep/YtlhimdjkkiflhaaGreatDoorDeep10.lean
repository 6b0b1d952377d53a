import Derived.Test.YtlhimdjkkiflhaaGreatDoorDeep09
namespace Go.Ren
open Go Go.Conc
section
variable {P:Program} {F:FuncId→Bool} {S:Sd} {Ψ:CoGoal} {fr fr':Frame} {cs cs':List Frame} {w w' W:World} {ρ:Rn} {b:Frame} {a:Act} {k:List Item}
theorem CoReach.ctl {k':List Item}(hst:∀ (a:Act) (cs:List Frame) W,stepG P true (G (b.at a k) cs) W= .go (G (b.at a k') cs) W #[])(h:CoReach P S Ψ (b.at a k') cs w):CoReach P S Ψ (b.at a k) cs w:=
 CoReach.silent (fr':=b.at a k') (cs':=cs) (fun ρ W=>by rw[rfr_at,rfr_at];exact hst _ _ _) (fun h1 h2=>⟨h1,h2⟩) h
theorem CoReach.seq {x y:Code}(h:CoReach P S Ψ (b.at a (.code x:: .code y::k)) cs w):CoReach P S Ψ (b.at a (.code (.seq x y)::k)) cs w:=CoReach.ctl (fun _ _ _=>stepG_seq) h
theorem CoReach.region {id:Nat}{ops:Array Oper}(h:CoReach P S Ψ (b.at a (.inRegion ops (List.range ops.size)::k)) cs w):CoReach P S Ψ (b.at a (.code (.region id ops false)::k)) cs w:=CoReach.ctl (fun _ _ _=>stepG_region) h
def outFr (b:Frame)(a:Act)(k:List Item):Frame:={ b.at a k with mode:= .returning }
theorem rfr_out:rfr ρ (outFr b a k)=outFr b (a.rn ρ) k:=rfl
theorem stepG_callP {main:Bool}{ops:Array Oper}{i:Nat}{rest:List Nat}{o:Oper}{kk:List Item}(ho:ops[i]? =some o)(hw:Region.wanted o (yielded ops a.tmps)=true)(hk:b.kind≠ .early){f:FuncId}{xs:Array Operand}{ats:Array TypeId}(hop:o.op= .call { callee:= .value (.func f),args:=xs,argTypes:=ats })
 (hbd:(P.funcs[f]?).any (fun fn=>fn.body.isSome)=true)(hnm:(P.funcs[f]?).any (fun fn=>fn.name != "runtime.NumGoroutine")=true):
 stepG P main (G (b.at a (.inRegion ops (i::rest)::kk)) cs) w= .go (G (Frame.enter P f (xs.map a.eval) .normal) (b.at a (.inRegion ops (i::rest)::kk)::cs)) w #[]:=by
 cases hf:P.funcs[f]? with
 |none=>rw[hf] at hbd;simp at hbd
 |some fn=>
  rw[hf] at hbd hnm
  simp only[Option.any_some] at hbd hnm
  obtain⟨cc,hcc⟩:=Option.isSome_iff_exists.1 hbd
  have hne:¬ fn.name= "runtime.NumGoroutine" :=by simpa using hnm
  have hr:(execOp a.eval o).run P w= .ok (.enter f (xs.map a.eval)) w:=by
   unfold execOp
   simp[hop,resolve,invoke,callFunc,hf,hcc,hne,Act.eval,Deferred.ofValue,go_sem]
  have he:(execOp a.eval o).events P w #[]=#[]:=by
   unfold execOp
   simp[hop,resolve,invoke,callFunc,hf,hcc,hne,Act.eval,Deferred.ofValue,go_sem]
  rw[stepG_enter ho hw hk hr,listed_none he]
theorem args_rn (hf:FixS S ρ){xs:Array Operand}(hx:xs.all (okX S)=true):xs.map (a.rn ρ).eval=(xs.map a.eval).map (rv ρ):=by
 rw[Array.map_map]
 refine Array.map_congr_left fun x hm=>?_
 have:=Array.all_eq_true_iff_forall_mem.1 hx x hm
 show(a.rn ρ).eval x=rv ρ (a.eval x)
 rw[eval_rn,eval_evOf]
 exact ev_map this hf
theorem args_cl {n:Nat}(hn:S.g≤n)(h:ClA P S n a){xs:Array Operand}(hx:xs.all (okX S)=true):∀ v∈xs.map a.eval,rv (sg S S.d n) v=v:=by
 intro v hv
 obtain⟨x,hm,rfl⟩:=Array.mem_map.1 hv
 have:=Array.all_eq_true_iff_forall_mem.1 hx x hm
 rw[eval_evOf]
 exact ev_cl hn (fun t=>h.get t) this
theorem cl_enter {n:Nat}{f:FuncId}{args:Array Value}(h:∀ v∈args,rv (sg S S.d n) v=v):ClFr P S n (Frame.enter P f args .normal):=by
 have e:rfr (sg S S.d n) (Frame.enter P f args .normal)=Frame.enter P f args .normal:=by
  rw[←enter_rfr,map_fix.2 h]
 exact cl_of_rfr e
theorem CoReach.silentF (hst:∀ ρ:Rn,FixS S ρ→∀ W,stepG P true (G (rfr ρ fr) (cs.map (rfr ρ))) W= .go (G (rfr ρ fr') (cs'.map (rfr ρ))) W #[])
 (hcl:S.g≤w.heap.size→ClFr P S w.heap.size fr→(∀ f∈cs,ClFr P S w.heap.size f)→ClFr P S w.heap.size fr'∧∀ f∈cs',ClFr P S w.heap.size f)(k:CoReach P S Ψ fr' cs' w):CoReach P S Ψ fr cs w:=
 CoReach.walk fun ρ W hS hc hcs=>by
  obtain⟨h1,h2⟩:=hcl hS.wr.big.g hc hcs
  exact Walks.silent rfl (fun W₁=>hst ρ hS.fix W₁) (Walks.co k hS (fun _ h=>h) h1 h2 (On0.refl _ _))
theorem CoReach.enter {ops:Array Oper}{i:Nat}{rest:List Nat}{o:Oper}{kk:List Item}(ho:ops[i]? =some o)(hw:Region.wanted o (yielded ops a.tmps)=true)(hk:b.kind≠ .early){f:FuncId}{xs:Array Operand}{ats:Array TypeId}(hop:o.op= .call { callee:= .value (.func f),args:=xs,argTypes:=ats })
 (hbd:(P.funcs[f]?).any (fun fn=>fn.body.isSome)=true)(hnm:(P.funcs[f]?).any (fun fn=>fn.name != "runtime.NumGoroutine")=true)(hx:xs.all (okX S)=true)
 (h:CoReach P S Ψ (Frame.enter P f (xs.map a.eval) .normal) (b.at a (.inRegion ops (i::rest)::kk)::cs) w):CoReach P S Ψ (b.at a (.inRegion ops (i::rest)::kk)) cs w:=by
 refine CoReach.silentF (fun ρ hρ W=>?_) (fun h0 h1 h2=>⟨cl_enter (args_cl (P:=P) h0 h1 hx),fun g hg=>?_⟩) h
 ·rw[List.map_cons,rfr_at,←enter_rfr,←args_rn hρ hx]
  refine stepG_callP ho ?_ hk hop hbd hnm
  show Region.wanted o (yielded ops (a.tmps.map (rv ρ)))=true
  rw[show yielded ops (a.tmps.map (rv ρ))=yielded ops a.tmps from funext fun j=>yielded_rfr ops a.tmps j]
  exact hw
 ·rcases List.mem_cons.1 hg with rfl|hg
  ·exact h1
  ·exact h2 g hg
end
def compR (ρ σ:Rn):Rn:={ b:=fun r=>ρ (σ r),f:=fun x=>ρ.f (σ.f x),d:=ρ.d }
theorem map_map_congr {f g h:Value→Value}{cs:Array Value}(e:∀ x∈cs,f (g x)=h x):(cs.map g).map f=cs.map h:=by
 rw[Array.map_map]
 exact Array.map_congr_left fun x hx=>e x hx
theorem rv_comp (ρ σ:Rn):∀ v:Value,rv ρ (rv σ v)=rv (compR ρ σ) v
 | .pointer none=>by simp[rv]
 | .pointer (some a)=>by simp[rv,ra,compR]
 | .slice none _ _=>by simp[rv]
 | .slice (some a) l c=>by simp[rv,ra,compR]
 | .map none=>by simp[rv]
 | .map (some r)=>by simp[rv,compR]
 | .chan none=>by simp[rv]
 | .chan (some r)=>by simp[rv,compR]
 | .func fn first captured=>by
   simp only[rv,Value.func.injEq]
   refine⟨rfl,map_map_congr fun x hx=>?_,map_map_congr fun x hx=>?_⟩
   ·have:=Array.sizeOf_lt_of_mem hx
    exact rv_comp ρ σ x
   ·have:=Array.sizeOf_lt_of_mem hx
    exact rv_comp ρ σ x
 | .iface t v=>by simp only[rv,Value.iface.injEq,true_and];exact rv_comp ρ σ v
 | .agg cs=>by
   simp only[rv,Value.agg.injEq]
   refine map_map_congr fun x hx=>?_
   have:=Array.sizeOf_lt_of_mem hx
   exact rv_comp ρ σ x
 | .tuple cs=>by
   simp only[rv,Value.tuple.injEq]
   refine map_map_congr fun x hx=>?_
   have:=Array.sizeOf_lt_of_mem hx
   exact rv_comp ρ σ x
 | .bool _=>by simp[rv]
 | .int _ _=>by simp[rv]
 | .float _ _=>by simp[rv]
 | .complex _ _ _=>by simp[rv]
 | .string _=>by simp[rv]
 | .nilFunc=>by simp[rv]
 | .nilIface=>by simp[rv]
termination_by v=>SizeOf.sizeOf v
theorem ro_comp (ρ σ:Rn)(o:Obj):ro ρ (ro σ o)=ro (compR ρ σ) o:=by
 cases o with
 |cells c t f=>simp only[ro,Obj.cells.injEq,and_true];exact map_map_congr fun x _=>rv_comp ρ σ x
 |pending c t=>simp only[ro,Obj.pending.injEq,and_true];exact map_map_congr fun x _=>rv_comp ρ σ x
 |chan a b c d e f=>simp only[ro,Obj.chan.injEq,true_and,and_true];exact map_map_congr fun x _=>rv_comp ρ σ x
 |view a t=>simp[ro,ra,compR]
 |number a t=>simp[ro,ra,compR]
 |map es c=>
  simp only[ro,Obj.map.injEq,and_true,Array.map_map]
  refine Array.map_congr_left fun e _=>?_
  simp[rv_comp]
 |_=>rfl
theorem newOk_ro {ρ:Rn}{o:Obj}(h:NewOk o):NewOk (ro ρ o):=by
 cases o<;>first|exact h|trivial
def shR (g0 n:Nat):Rn:={ b:=fun r=>if g0≤r then n+(r-g0) else r,f:=id,d:=0 }
def mrR (ρ ρ₂:Rn)(g0 n m N:Nat):Rn:={ b:=fun r=>if r<n then ρ r else if r<n+(m-g0) then ρ₂ (g0+(r-n)) else N+(r-(n+(m-g0))),f:=ρ.f,d:=ρ.d }
def mrW (P:Program)(w w₂:World):World:={ w with heap:=w.heap++(w₂.heap.extract P.globals.size w₂.heap.size).map (ro (shR P.globals.size w.heap.size)) }
structure Two (P:Program) (S S₂:Sd):Prop where
 z:S₂.d=P.globals.size
 dp:S.d≤P.globals.size
 f:∀ g,S₂ g=true→S g=true
section
variable {P:Program} {S S₂:Sd} {ρ ρ₂:Rn} {w w₂ W:World}
theorem mr_size (h:P.globals.size≤w₂.heap.size):(mrW P w w₂).heap.size=w.heap.size+(w₂.heap.size-P.globals.size):=by
 simp only[mrW,Array.size_append,Array.size_map,Array.size_extract]
 omega
theorem mr_old {r:Nat}(h:r<w.heap.size):(mrW P w w₂).heap[r]? =w.heap[r]?:=by
 simp only[mrW]
 rw[Array.getElem?_append_left h]
theorem mr_new {r:Nat}(h1:P.globals.size≤r)(h2:r<w₂.heap.size):(mrW P w w₂).heap[w.heap.size+(r-P.globals.size)]? =(w₂.heap[r]?).map (ro (shR P.globals.size w.heap.size)):=by
 simp only[mrW]
 rw[Array.getElem?_append_right (by omega),Array.getElem?_map,show w.heap.size+(r-P.globals.size)-w.heap.size=r-P.globals.size by omega,Array.getElem?_extract,if_pos (by omega),show P.globals.size+(r-P.globals.size)=r by omega]
theorem mr_inv {r:Nat}{o:Obj}(hb:P.globals.size≤w₂.heap.size)(h:(mrW P w w₂).heap[r]? =some o):(r<w.heap.size∧w.heap[r]? =some o)∨∃ r₂ o₂,P.globals.size≤r₂∧r₂<w₂.heap.size∧r=w.heap.size+(r₂-P.globals.size)∧w₂.heap[r₂]? =some o₂∧o=ro (shR P.globals.size w.heap.size) o₂:=by
 rcases Nat.lt_or_ge r w.heap.size with hlt|hge
 ·rw[mr_old hlt] at h;exact .inl ⟨hlt,h⟩
 ·right
  have hs:=(Array.getElem?_eq_some_iff.1 h).1
  rw[mr_size hb] at hs
  have h2:P.globals.size+(r-w.heap.size)<w₂.heap.size:=by omega
  have e:r=w.heap.size+(P.globals.size+(r-w.heap.size)-P.globals.size):=by omega
  rw[e,mr_new (by omega) h2] at h
  obtain⟨o₂,h3,h4⟩:=Option.map_eq_some_iff.1 h
  exact⟨_,o₂,by omega,h2,e,h3,h4.symm⟩
theorem mr_rv (T:Two P S S₂)(h:Sim P S ρ w W)(h₂:Sim P S₂ ρ₂ w₂ W){v:Value}(hc:Cl P S₂ w₂ v):rv (mrR ρ ρ₂ P.globals.size w.heap.size w₂.heap.size W.heap.size) (rv (shR P.globals.size w.heap.size) v)=rv ρ₂ v:=by
 rw[rv_comp]
 refine agree (σ:=sg S₂ S₂.d w₂.heap.size) (fun r hr=>?_) (fun x _=>?_) v hc
 ·obtain⟨h1,h2⟩:=sg_fix.1 hr
  rw[T.z] at h1
  simp only[compR,shR,mrR,if_pos h1]
  rw[if_neg (by omega),if_pos (by omega)]
  congr 1
  omega
 ·simp only[compR,shR,mrR,id]
  rw[h.f,h₂.f]
theorem mr_ro (T:Two P S S₂)(h:Sim P S ρ w W)(h₂:Sim P S₂ ρ₂ w₂ W){o:Obj}(hc:ro (sg S₂ S₂.d w₂.heap.size) o=o):ro (mrR ρ ρ₂ P.globals.size w.heap.size w₂.heap.size W.heap.size) (ro (shR P.globals.size w.heap.size) o)=ro ρ₂ o:=by
 rw[ro_comp]
 refine agreeO (σ:=sg S₂ S₂.d w₂.heap.size) (fun r hr=>?_) (fun x _=>?_) hc
 ·obtain⟨h1,h2⟩:=sg_fix.1 hr
  rw[T.z] at h1
  simp only[compR,shR,mrR,if_pos h1]
  rw[if_neg (by omega),if_pos (by omega)]
  congr 1
  omega
 ·simp only[compR,shR,mrR,id]
  rw[h.f,h₂.f]
theorem sh_cl (T:Two P S S₂)(hb:P.globals.size≤w.heap.size)(hb₂:P.globals.size≤w₂.heap.size){v:Value}(hc:Cl P S₂ w₂ v):Cl P S (mrW P w w₂) (rv (shR P.globals.size w.heap.size) v):=by
 unfold Cl
 rw[rv_comp]
 refine agree (σ:=sg S₂ S₂.d w₂.heap.size) (fun r hr=>?_) (fun x hx=>?_) v hc
 ·obtain⟨h1,h2⟩:=sg_fix.1 hr
  rw[T.z] at h1
  simp only[compR,shR,if_pos h1]
  exact sg_fix.2 ⟨by have:=T.dp;omega,by rw[mr_size hb₂];omega⟩
 ·simp only[compR,shR,id]
  obtain⟨g,rfl,hg⟩:=sg_fixF.1 hx
  exact sg_fixF.2 ⟨g,rfl,T.f g hg⟩
theorem sh_clO (T:Two P S S₂)(hb:P.globals.size≤w.heap.size)(hb₂:P.globals.size≤w₂.heap.size){o:Obj}(hc:ro (sg S₂ S₂.d w₂.heap.size) o=o):ro (sg S S.d (mrW P w w₂).heap.size) (ro (shR P.globals.size w.heap.size) o)=ro (shR P.globals.size w.heap.size) o:=by
 rw[ro_comp]
 refine agreeO (σ:=sg S₂ S₂.d w₂.heap.size) (fun r hr=>?_) (fun x hx=>?_) hc
 ·obtain⟨h1,h2⟩:=sg_fix.1 hr
  rw[T.z] at h1
  simp only[compR,shR,if_pos h1]
  exact sg_fix.2 ⟨by have:=T.dp;omega,by rw[mr_size hb₂];omega⟩
 ·simp only[compR,shR,id]
  obtain⟨g,rfl,hg⟩:=sg_fixF.1 hx
  exact sg_fixF.2 ⟨g,rfl,T.f g hg⟩
theorem Sim.merge (T:Two P S S₂)(h:Sim P S ρ w W)(h₂:Sim P S₂ ρ₂ w₂ W)(hd:∀ b,Touch S.d ρ w b→¬ Touch S₂.d ρ₂ w₂ b):Sim P S (mrR ρ ρ₂ P.globals.size w.heap.size w₂.heap.size W.heap.size) (mrW P w w₂) W:=by
 have hb:=h.wr.big.p
 have hb₂:=h₂.wr.big.p
 have hdp:=T.dp
 have hz:=T.z
 have hs:=mr_size (w:=w) hb₂
 have hag:∀ r,r<w.heap.size→mrR ρ ρ₂ P.globals.size w.heap.size w₂.heap.size W.heap.size r=ρ r:=fun r hr=>by simp only[mrR,if_pos hr]
 have hag₂:∀ r,P.globals.size≤r→r<w₂.heap.size→mrR ρ ρ₂ P.globals.size w.heap.size w₂.heap.size W.heap.size (w.heap.size+(r-P.globals.size))=ρ₂ r:=fun r h1 h2=>by
  simp only[mrR]
  rw[if_neg (by omega),if_pos (by omega)]
  congr 1
  omega
 have hnx:∀ r,w.heap.size+(w₂.heap.size-P.globals.size)≤r→mrR ρ ρ₂ P.globals.size w.heap.size w₂.heap.size W.heap.size r=W.heap.size+(r-(w.heap.size+(w₂.heap.size-P.globals.size))):=fun r hr=>by
  simp only[mrR]
  rw[if_neg (by omega),if_neg (by omega)]
 have cs:∀ r,r<w.heap.size∨(∃ r₂,P.globals.size≤r₂∧r₂<w₂.heap.size∧r=w.heap.size+(r₂-P.globals.size))∨w.heap.size+(w₂.heap.size-P.globals.size)≤r:=fun r=>by
  rcases Nat.lt_or_ge r w.heap.size with h1|h1
  ·exact .inl h1
  ·rcases Nat.lt_or_ge r (w.heap.size+(w₂.heap.size-P.globals.size)) with h2|h2
   ·exact .inr (.inl ⟨P.globals.size+(r-w.heap.size),by omega,by omega,by omega⟩)
   ·exact .inr (.inr h2)
 refine⟨⟨fun r o hge ho=>?_,fun r o ho=>?_,fun r hr=>?_,fun r o hge ho=>?_,fun r hr=>?_,fun r h1 h2=>?_,?_⟩,fun a b e=>?_,fun r=>?_,h.f,h.bigW⟩
 ·rcases mr_inv hb₂ ho with⟨h1,h2⟩|⟨r₂,o₂,h1,h2,rfl,h3,rfl⟩
  ·rw[hag r h1,h.wr.live r o hge h2]
   congr 1
   exact agreeO (σ:=sg S S.d w.heap.size) (fun x hx=>(hag x (sg_fix.1 hx).2).symm) (fun _ _=>rfl) (h.wr.closed r o hge h2)
  ·rw[hag₂ r₂ h1 h2,mr_ro T h h₂ (h₂.wr.closed r₂ o₂ (by omega) h3)]
   exact h₂.wr.live r₂ o₂ (by omega) h3
 ·rcases mr_inv hb₂ ho with⟨h1,h2⟩|⟨r₂,o₂,h1,h2,rfl,h3,rfl⟩
  ·exact h.wr.ok r o h2
  ·exact newOk_ro (h₂.wr.ok r₂ o₂ h3)
 ·rw[mr_old (by omega)];exact h.wr.dead r hr
 ·rcases mr_inv hb₂ ho with⟨h1,h2⟩|⟨r₂,o₂,h1,h2,rfl,h3,rfl⟩
  ·have:=h.wr.closed r o hge h2
   have e:=agreeO (σ:=sg S S.d w.heap.size) (ρ:=sg S S.d (mrW P w w₂).heap.size) (ρ':=sg S S.d w.heap.size) (fun x hx=>by
    rw[hx];exact sg_fix.2 ⟨(sg_fix.1 hx).1,by have:=(sg_fix.1 hx).2;rw[hs];omega⟩) (fun x hx=>by rw[hx];exact sg_fixF.2 (sg_fixF.1 hx)) this
   rw[e];exact this
  ·exact sh_clO T hb hb₂ (h₂.wr.closed r₂ o₂ (by omega) h3)
 ·rw[hs] at hr ⊢;exact hnx r hr
 ·rw[hs] at h2
  rcases cs r with h3|⟨r₂,h3,h4,rfl⟩|h3
  ·rw[hag r h3];exact h.wr.low r h1 h3
  ·rw[hag₂ r₂ h3 h4];exact h₂.wr.low r₂ (by omega) h4
  ·omega
 ·rw[hs]
  exact⟨by omega,by have:=h.wr.big.g;omega,h.wr.big.r,by omega,hdp,fun g h1 h2=>by rw[hag g (by have:=h.wr.big.g;omega)];exact h.wr.big.fg g h1 h2,fun g h1=>by rw[hag g (by omega)];exact h.wr.big.fl g h1⟩
 ·rcases cs a with ha|⟨a₂,ha1,ha2,rfl⟩|ha<;>rcases cs b with hb'|⟨b₂,hb1,hb2,rfl⟩|hb'
  ·rw[hag a ha,hag b hb'] at e;exact h.inj a b e
  ·rw[hag a ha,hag₂ b₂ hb1 hb2] at e
   rcases Nat.lt_or_ge a P.globals.size with hl|hl
   ·have g1:=(h.glob a).2 hl
    rw[e] at g1
    have:=(h₂.glob b₂).1 g1
    omega
   ·exact absurd ⟨b₂,by omega,hb2,e⟩ (hd (ρ a) ⟨a,by omega,ha,rfl⟩)
  ·rw[hag a ha,hnx b hb'] at e;have:=h.low ha;omega
  ·rw[hag₂ a₂ ha1 ha2,hag b hb'] at e
   rcases Nat.lt_or_ge b P.globals.size with hl|hl
   ·have g1:=(h.glob b).2 hl
    rw[←e] at g1
    have:=(h₂.glob a₂).1 g1
    omega
   ·exact absurd ⟨a₂,by omega,ha2,e.symm⟩ (hd (ρ b) ⟨b,by omega,hb',rfl⟩)
  ·rw[hag₂ a₂ ha1 ha2,hag₂ b₂ hb1 hb2] at e
   have:=h₂.inj a₂ b₂ e
   omega
  ·rw[hag₂ a₂ ha1 ha2,hnx b hb'] at e;have:=h₂.low ha2;omega
  ·rw[hnx a ha,hag b hb'] at e;have:=h.low hb';omega
  ·rw[hnx a ha,hag₂ b₂ hb1 hb2] at e;have:=h₂.low hb2;omega
  ·rw[hnx a ha,hnx b hb'] at e;omega
 ·rcases cs r with h3|⟨r₂,h3,h4,rfl⟩|h3
  ·rw[hag r h3];exact h.glob r
  ·rw[hag₂ r₂ h3 h4]
   have:=h₂.glob r₂
   constructor
   ·intro q;have:=this.1 q;omega
   ·intro q;omega
  ·rw[hnx r h3]
   have:=h.bigW
   constructor<;>intro<;>omega
theorem touch_merge (T:Two P S S₂)(hb₂:P.globals.size≤w₂.heap.size){b:Nat}(ht:Touch S.d (mrR ρ ρ₂ P.globals.size w.heap.size w₂.heap.size W.heap.size) (mrW P w w₂) b):Touch S.d ρ w b∨Touch S₂.d ρ₂ w₂ b:=by
 obtain⟨r,h1,h2,rfl⟩:=ht
 rw[mr_size hb₂] at h2
 rcases Nat.lt_or_ge r w.heap.size with hlt|hge
 ·exact .inl ⟨r,h1,hlt,by simp only[mrR,if_pos hlt]⟩
 ·refine .inr ⟨P.globals.size+(r-w.heap.size),by have:=T.z;omega,by omega,?_⟩
  simp only[mrR]
  rw[if_neg (by omega),if_pos (by omega)]
theorem mr_row {base:Nat}{e:TypeId}{z:Nat}{v:Value}{n:Nat}{xs:List Value}(hb:P.globals.size≤base)(h:w₂.ownsRow base e z v n xs)(hx:∀ x∈xs,rv (shR P.globals.size w.heap.size) x=x):(mrW P w w₂).ownsRow w.heap.size e z (rv (shR P.globals.size w.heap.size) v) n xs:=by
 refine⟨h.1,?_⟩
 rcases h.2 with⟨rfl,h0⟩|⟨g,cap,cur,rfl,h1,h2,h3,h4,h5,h6⟩
 ·exact .inl ⟨by simp[rv],h0⟩
 ·refine .inr ⟨w.heap.size+(g-P.globals.size),cap,cur.map (rv (shR P.globals.size w.heap.size)),?_,by omega,?_,h3,h4,by simpa using h5,?_⟩
  ·simp only[rv,Option.map_some,ra,shR,if_pos (show P.globals.size≤g by omega)]
  ·rw[mr_new (by omega) (Array.getElem?_eq_some_iff.1 h2).1,h2];rfl
  ·rw[Array.toList_map,←List.map_take,h6]
   conv=>rhs;rw[←List.map_id xs]
   exact List.map_congr_left fun x hm=>hx x hm
end
structure OkHd (P:Program) (F:FuncId→Bool) (S:Sd) (fr:Frame):Prop where
 defers:fr.defers=[]
 mode:fr.mode= .run∨fr.mode= .returning
 kind:fr.kind= .normal
 round:fr.roundOf=none
 todo:(fr.todo.take 1).all (okItem P F S)=true
 fn:∃ f,P.funcs[fr.fn]? =some f
section
variable {P:Program} {F:FuncId→Bool} {S:Sd} {main:Bool} {cs:List Frame}
theorem stepG_psemH {fr fr':Frame}{above above':List Frame}(h:OkHd P F S fr){w w':World}{es:Array Event}(hr:(psem P fr above).runT P w #[]=(.ok (fr',above') w',es)):
 stepG P main (G fr (above++cs)) w= .go (G fr' (above'++cs)) w' (seen P fr.fn es):=by
 obtain⟨fn0,tmps,todo,defers,mode,kind,rnd⟩:=fr
 obtain⟨hd,hm,hk,hrd,hand,hFn⟩:=h
 simp only at hd hm hk hrd hand hFn
 subst hd hk hrd
 have none_:seen P fn0 #[]=#[]:=by simp[seen]
 rcases hm with rfl|rfl
 ·match todo,hand,hr with
  |[],hand,hr=>
   simp only[psem,pure,Sem.runT,Prod.mk.injEq,Result.ok.injEq] at hr
   obtain⟨⟨⟨rfl,rfl⟩,rfl⟩,rfl⟩:=hr
   simp[G,stepG,stepG.exec,none_]
  | .code .ret::k,hand,hr=>
    simp only[psem,pure,Sem.runT,Prod.mk.injEq,Result.ok.injEq] at hr
    obtain⟨⟨⟨rfl,rfl⟩,rfl⟩,rfl⟩:=hr
    simp[G,stepG,stepG.exec,none_]
  | .code .skip::k,hand,hr=>
    simp only[psem,pure,Sem.runT,Prod.mk.injEq,Result.ok.injEq] at hr
    obtain⟨⟨⟨rfl,rfl⟩,rfl⟩,rfl⟩:=hr
    simp[G,stepG,stepG.exec,none_]
  | .inBlock _::k,hand,hr=>
    simp only[psem,pure,Sem.runT,Prod.mk.injEq,Result.ok.injEq] at hr
    obtain⟨⟨⟨rfl,rfl⟩,rfl⟩,rfl⟩:=hr
    simp[G,stepG,stepG.exec,none_]
  | .code (.seq a b)::k,hand,hr=>
    simp only[psem,pure,Sem.runT,Prod.mk.injEq,Result.ok.injEq] at hr
    obtain⟨⟨⟨rfl,rfl⟩,rfl⟩,rfl⟩:=hr
    simp[G,stepG,stepG.exec,none_]
  | .code (.block id a)::k,hand,hr=>
    simp only[psem,pure,Sem.runT,Prod.mk.injEq,Result.ok.injEq] at hr
    obtain⟨⟨⟨rfl,rfl⟩,rfl⟩,rfl⟩:=hr
    simp[G,stepG,stepG.exec,none_]
  | .code (.loop a)::k,hand,hr=>
    simp only[psem,pure,Sem.runT,Prod.mk.injEq,Result.ok.injEq] at hr
    obtain⟨⟨⟨rfl,rfl⟩,rfl⟩,rfl⟩:=hr
    simp[G,stepG,stepG.exec,none_]
  | .inLoop a::k,hand,hr=>
    simp only[psem,pure,Sem.runT,Prod.mk.injEq,Result.ok.injEq] at hr
    obtain⟨⟨⟨rfl,rfl⟩,rfl⟩,rfl⟩:=hr
    simp[G,stepG,stepG.exec,none_]
  | .inRegion _ []::k,hand,hr=>
    simp only[psem,pure,Sem.runT,Prod.mk.injEq,Result.ok.injEq] at hr
    obtain⟨⟨⟨rfl,rfl⟩,rfl⟩,rfl⟩:=hr
    simp[G,stepG,stepG.exec,none_]
  | .code (.cond c a b)::k,hand,hr=>
    simp only[psem] at hr
    generalize hq:Frame.eval _ c=q at hr
    cases q with
    |bool t=>
     simp only[pure,Sem.runT,Prod.mk.injEq,Result.ok.injEq] at hr
     obtain⟨⟨⟨rfl,rfl⟩,rfl⟩,rfl⟩:=hr
     simp[G,stepG,stepG.exec,none_,hq]
    |_=>simp[stuck] at hr
  | .code (.exit id)::k,hand,hr=>
    simp only[psem] at hr
    cases he:exitTo id k with
    |none=>rw[he] at hr;simp[stuck] at hr
    |some k'=>
     rw[he] at hr
     simp only[pure,Sem.runT,Prod.mk.injEq,Result.ok.injEq] at hr
     obtain⟨⟨⟨rfl,rfl⟩,rfl⟩,rfl⟩:=hr
     simp[G,stepG,stepG.exec,none_,he]
  | .code (.region id ops draw)::k,hand,hr=>
    cases draw with
    |false=>
     simp only[psem,pure,Sem.runT,Prod.mk.injEq,Result.ok.injEq,Bool.false_eq_true,if_false] at hr
     obtain⟨⟨⟨rfl,rfl⟩,rfl⟩,rfl⟩:=hr
     simp[G,stepG,stepG.exec,none_]
    |true=>
     simp only[psem,if_true,bind,choose,Sem.bind,Sem.runT,Question.forced,Bool.false_eq_true,if_false,pure,Prod.mk.injEq,Result.ok.injEq,Question.cut] at hr
     obtain⟨⟨⟨rfl,rfl⟩,rfl⟩,rfl⟩:=hr
     simp[G,stepG,stepG.exec,none_,choose,Sem.run,Question.forced,Question.cut]
  | .inRegion ops (i::rest)::k,hand,hr=>
    simp only[psem] at hr
    by_cases hw:((ops[i]?).map (Region.wanted · (yielded ops tmps))).getD false=true
    ·rw[if_pos hw] at hr
     cases ho:ops[i]? with
     |none=>rw[ho] at hr;simp[stuck] at hr
     |some o=>
      rw[ho] at hr
      dsimp only at hr
      have hstep:stepG P main (G ⟨fn0,tmps,.inRegion ops (i::rest)::k,[],.run,.normal,none⟩ (above++cs)) w=
       stepG.apply P true ⟨fn0,tmps,.inRegion ops (i::rest)::k,[],.run,.normal,none⟩ (above++cs) none (execOp (Frame.eval ⟨fn0,tmps,.inRegion ops (i::rest)::k,[],.run,.normal,none⟩) o) w:=by
       rw[ho] at hw
       have hw':Region.wanted o (yielded ops tmps)=true:=by simpa using hw
       simp[G,stepG,stepG.exec,stepG.oper,Frame.oper?,ho,hw']
      rw[hstep]
      generalize hex:(execOp (Frame.eval ⟨fn0,tmps,.inRegion ops (i::rest)::k,[],.run,.normal,none⟩) o)=ex at hr
      rw[runT_bind] at hr
      cases hrun:ex.runT P w #[] with
      |mk r es1=>
       rw[hrun] at hr
       cases r with
       |halt hh w1=>simp at hr
       |ok nx w1=>
        dsimp only at hr
        cases nx<;>simp only[pure,stuck,Sem.runT,Prod.mk.injEq,Result.ok.injEq,reduceCtorEq,false_and] at hr
        all_goals
         obtain⟨⟨⟨rfl,rfl⟩,rfl⟩,rfl⟩:=hr
         have h1:=congrArg Prod.fst hrun
         have h2:=congrArg Prod.snd hrun
         simp at h1 h2
         simp[stepG.apply,h1,h2,G,GStep.after]
    ·rw[if_neg hw] at hr
     simp only[pure,Sem.runT,Prod.mk.injEq,Result.ok.injEq] at hr
     obtain⟨⟨⟨rfl,rfl⟩,rfl⟩,rfl⟩:=hr
     simp only[Bool.not_eq_true] at hw
     simp[G,stepG,stepG.exec,none_,hw,Frame.finish]
  | .code (.rangeFunc ..)::k,hand,hr=>simp[okItem,okCode] at hand
  | .code (.scope ..)::k,hand,hr=>simp[okItem,okCode] at hand
  | .code (.label ..)::k,hand,hr=>simp[okItem,okCode] at hand
  | .code (.goto ..)::k,hand,hr=>simp[okItem,okCode] at hand
  | .code (.refuse ..)::k,hand,hr=>simp[psem,stuck] at hr
  | .inScope c::k,hand,hr=>simp[okItem] at hand
  | .inRangeFunc c::k,hand,hr=>simp[okItem] at hand
  | .endRangeFunc c::k,hand,hr=>simp[okItem] at hand
  | .beginRound::k,hand,hr=>simp[okItem] at hand
  | .call ..::k,hand,hr=>simp[okItem] at hand
  | .extern ..::k,hand,hr=>simp[okItem] at hand
 ·obtain⟨fn,h1⟩:=hFn
  simp only[psem,h1] at hr
  rw[runT_bind] at hr
  cases hrun:(results fn tmps).runT P w #[] with
  |mk r es1=>
   rw[hrun] at hr
   cases r with
   |halt hh w1=>simp at hr
   |ok v w1=>
    dsimp only at hr
    cases above with
    |nil=>simp[stuck] at hr
    |cons c rest=>
     simp only[pure,Sem.runT,Prod.mk.injEq,Result.ok.injEq] at hr
     obtain⟨⟨⟨rfl,rfl⟩,rfl⟩,rfl⟩:=hr
     have q1:=congrArg Prod.fst hrun
     have q2:=congrArg Prod.snd hrun
     simp at q1 q2
     simp[G,stepG,unwind,h1,q1,q2,doReturn,GStep.after]
end
abbrev mk0:Item:= .code (.refuse default)
def tsub (k:List Item)(x:Frame):Frame:={ x with todo:=x.todo.dropLast++k }
def subL (k:List Item):List Frame→List Frame
 |[]=>[]
 |[x]=>[tsub k x]
 |c::d::r=>c::subL k (d::r)
structure Bot (x:Frame) (l:List Item):Prop where
 todo:x.todo=l++[mk0]
 run:x.mode= .run
theorem dropLast_mk (l:List Item):(l++[mk0]).dropLast=l:=by simp
theorem exitTo_tail {id:Nat}(k:List Item):∀ {l k':List Item},exitTo id (l++[mk0])=some k'→∃ l',k'=l'++[mk0]∧exitTo id (l++k)=some (l'++k)
 |[],k',h=>by simp[exitTo,mk0] at h
 | .inBlock id'::l,k',h=>by
   simp only[List.cons_append,exitTo] at h ⊢
   split at h
   ·rename_i e
    rw[if_pos e]
    cases h
    exact⟨l,rfl,rfl⟩
   ·rename_i e
    rw[if_neg e]
    exact exitTo_tail k h
 | .code c::l,k',h=>by simp only[List.cons_append,exitTo] at h ⊢;exact exitTo_tail k h
 | .inLoop c::l,k',h=>by simp only[List.cons_append,exitTo] at h ⊢;exact exitTo_tail k h
 | .inRegion ..::l,k',h=>by simp only[List.cons_append,exitTo] at h ⊢;exact exitTo_tail k h
 | .inScope c::l,k',h=>by simp only[List.cons_append,exitTo] at h ⊢;exact exitTo_tail k h
 | .inRangeFunc c::l,k',h=>by simp only[List.cons_append,exitTo] at h ⊢;exact exitTo_tail k h
 | .endRangeFunc c::l,k',h=>by simp only[List.cons_append,exitTo] at h ⊢;exact exitTo_tail k h
 | .beginRound::l,k',h=>by simp only[List.cons_append,exitTo] at h ⊢;exact exitTo_tail k h
 | .call ..::l,k',h=>by simp only[List.cons_append,exitTo] at h ⊢;exact exitTo_tail k h
 | .extern ..::l,k',h=>by simp only[List.cons_append,exitTo] at h ⊢;exact exitTo_tail k h
section
variable {P:Program} {F:FuncId→Bool} {S:Sd} {w w1:World} {es:Array Event}
theorem finish_tail (k:List Item){x:Frame}{h:Item}{l:List Item}(hb:x.todo=h::l++[mk0])(hh:okItem P F S h=true)(v:Value):(tsub k x).finish v=tsub k (x.finish v)∧(x.finish v).fn=x.fn∧(x.finish v).mode=x.mode∧∃ h',(x.finish v).todo=h'::l++[mk0]:=by
 obtain⟨fn0,tmps,todo,defers,mode,kind,rnd⟩:=x
 simp only at hb
 subst hb
 have dl:∀ (a:Item),((a::(l++[mk0])).dropLast++k)=a::(l++k):=fun a=>by
  rw[show a::(l++[mk0])=(a::l)++[mk0] from rfl,dropLast_mk];rfl
 cases h with
 |inRegion ops idx=>
  cases idx with
  |nil=>exact⟨by simp only[Frame.finish,tsub,List.cons_append,dl],rfl,rfl,_,rfl⟩
  |cons i rest=>exact⟨by simp only[Frame.finish,tsub,List.cons_append,dl],rfl,rfl,_,rfl⟩
 |code c=>exact⟨by simp only[Frame.finish,tsub,List.cons_append,dl],rfl,rfl,_,rfl⟩
 |inBlock id=>exact⟨by simp only[Frame.finish,tsub,List.cons_append,dl],rfl,rfl,_,rfl⟩
 |inLoop c=>exact⟨by simp only[Frame.finish,tsub,List.cons_append,dl],rfl,rfl,_,rfl⟩
 |_=>simp[okItem] at hh
theorem psem_bot (k:List Item){x:Frame}{h:Item}{l:List Item}(hb:Bot x (h::l))(hh:okItem P F S h=true){f1:Frame}{a1:List Frame}(hr:(psem P x []).runT P w #[]=(.ok (f1,a1) w1,es)):
 (∃ l1,Bot f1 l1∧f1.fn=x.fn∧a1=[]∧(psem P (tsub k x) []).runT P w #[]=(.ok (tsub k f1,[]) w1,es))∨
 (f1={ x with mode:= .returning }∧a1=[]∧(psem P (tsub k x) []).runT P w #[]=(.ok (tsub k f1,[]) w1,es))∨
 (a1=[x]∧(psem P (tsub k x) []).runT P w #[]=(.ok (f1,[tsub k x]) w1,es)):=by
 obtain⟨fn0,tmps,todo,defers,mode,kind,rnd⟩:=x
 obtain⟨ht,hm⟩:=hb
 simp only at ht hm
 subst ht hm
 have dl:∀ (a:Item),((a::(l++[mk0])).dropLast++k)=a::(l++k):=fun a=>by
  rw[show a::(l++[mk0])=(a::l)++[mk0] from rfl,dropLast_mk];rfl
 have dl0:(l++[mk0]).dropLast++k=l++k:=by rw[dropLast_mk]
 simp only[List.cons_append,tsub,dl] at hr ⊢
 match h,hh,hr with
 | .code .ret,_,hr=>
   simp only[psem,pure,Sem.runT,Prod.mk.injEq,Result.ok.injEq] at hr
   obtain⟨⟨⟨rfl,rfl⟩,rfl⟩,rfl⟩:=hr
   exact .inr (.inl ⟨rfl,rfl,by simp only[psem,pure,Sem.runT,dl]⟩)
 | .code .skip,_,hr=>
   simp only[psem,pure,Sem.runT,Prod.mk.injEq,Result.ok.injEq] at hr
   obtain⟨⟨⟨rfl,rfl⟩,rfl⟩,rfl⟩:=hr
   exact .inl ⟨l,⟨rfl,rfl⟩,rfl,rfl,by simp only[psem,pure,Sem.runT,dl0]⟩
 | .inBlock _,_,hr=>
   simp only[psem,pure,Sem.runT,Prod.mk.injEq,Result.ok.injEq] at hr
   obtain⟨⟨⟨rfl,rfl⟩,rfl⟩,rfl⟩:=hr
   exact .inl ⟨l,⟨rfl,rfl⟩,rfl,rfl,by simp only[psem,pure,Sem.runT,dl0]⟩
 | .code (.seq a b),_,hr=>
   simp only[psem,pure,Sem.runT,Prod.mk.injEq,Result.ok.injEq] at hr
   obtain⟨⟨⟨rfl,rfl⟩,rfl⟩,rfl⟩:=hr
   refine .inl ⟨.code a:: .code b::l,⟨rfl,rfl⟩,rfl,rfl,?_⟩
   have:(Item.code a::Item.code b::(l++[mk0])).dropLast++k= .code a:: .code b::(l++k):=by rw[show Item.code a::Item.code b::(l++[mk0])=(Item.code a::Item.code b::l)++[mk0] from rfl,dropLast_mk];rfl
   simp only[psem,pure,Sem.runT,this]
 | .code (.block id a),_,hr=>
   simp only[psem,pure,Sem.runT,Prod.mk.injEq,Result.ok.injEq] at hr
   obtain⟨⟨⟨rfl,rfl⟩,rfl⟩,rfl⟩:=hr
   refine .inl ⟨.code a:: .inBlock id::l,⟨rfl,rfl⟩,rfl,rfl,?_⟩
   have:(Item.code a::Item.inBlock id::(l++[mk0])).dropLast++k= .code a:: .inBlock id::(l++k):=by rw[show Item.code a::Item.inBlock id::(l++[mk0])=(Item.code a::Item.inBlock id::l)++[mk0] from rfl,dropLast_mk];rfl
   simp only[psem,pure,Sem.runT,this]
 | .code (.loop a),_,hr=>
   simp only[psem,pure,Sem.runT,Prod.mk.injEq,Result.ok.injEq] at hr
   obtain⟨⟨⟨rfl,rfl⟩,rfl⟩,rfl⟩:=hr
   refine .inl ⟨.code a:: .inLoop a::l,⟨rfl,rfl⟩,rfl,rfl,?_⟩
   have:(Item.code a::Item.inLoop a::(l++[mk0])).dropLast++k= .code a:: .inLoop a::(l++k):=by rw[show Item.code a::Item.inLoop a::(l++[mk0])=(Item.code a::Item.inLoop a::l)++[mk0] from rfl,dropLast_mk];rfl
   simp only[psem,pure,Sem.runT,this]
 | .inLoop a,_,hr=>
   simp only[psem,pure,Sem.runT,Prod.mk.injEq,Result.ok.injEq] at hr
   obtain⟨⟨⟨rfl,rfl⟩,rfl⟩,rfl⟩:=hr
   refine .inl ⟨.code a:: .inLoop a::l,⟨rfl,rfl⟩,rfl,rfl,?_⟩
   have:(Item.code a::Item.inLoop a::(l++[mk0])).dropLast++k= .code a:: .inLoop a::(l++k):=by rw[show Item.code a::Item.inLoop a::(l++[mk0])=(Item.code a::Item.inLoop a::l)++[mk0] from rfl,dropLast_mk];rfl
   simp only[psem,pure,Sem.runT,this]
 | .inRegion _ [],_,hr=>
   simp only[psem,pure,Sem.runT,Prod.mk.injEq,Result.ok.injEq] at hr
   obtain⟨⟨⟨rfl,rfl⟩,rfl⟩,rfl⟩:=hr
   exact .inl ⟨l,⟨rfl,rfl⟩,rfl,rfl,by simp only[psem,pure,Sem.runT,dl0]⟩
 | .code (.cond c a b),_,hr=>
   simp only[psem] at hr ⊢
   have ev:Frame.eval ⟨fn0,tmps,.code (.cond c a b)::(l++k),defers,.run,kind,rnd⟩ c=Frame.eval ⟨fn0,tmps,.code (.cond c a b)::(l++[mk0]),defers,.run,kind,rnd⟩ c:=by cases c<;>rfl
   rw[ev]
   generalize Frame.eval ⟨fn0,tmps,.code (.cond c a b)::(l++[mk0]),defers,.run,kind,rnd⟩ c=q at hr ⊢
   cases q with
   |bool t=>
    simp only[pure,Sem.runT,Prod.mk.injEq,Result.ok.injEq] at hr
    obtain⟨⟨⟨rfl,rfl⟩,rfl⟩,rfl⟩:=hr
    exact .inl ⟨.code (if t then a else b)::l,⟨rfl,rfl⟩,rfl,rfl,by simp only[pure,Sem.runT,dl]⟩
   |_=>simp[stuck] at hr
 | .code (.exit id),_,hr=>
   simp only[psem] at hr ⊢
   cases he:exitTo id (l++[mk0]) with
   |none=>rw[he] at hr;simp[stuck] at hr
   |some k'=>
    rw[he] at hr
    obtain⟨l',rfl,h2⟩:=exitTo_tail k he
    rw[h2]
    simp only[pure,Sem.runT,Prod.mk.injEq,Result.ok.injEq] at hr
    obtain⟨⟨⟨rfl,rfl⟩,rfl⟩,rfl⟩:=hr
    exact .inl ⟨l',⟨rfl,rfl⟩,rfl,rfl,by simp only[pure,Sem.runT,dropLast_mk]⟩
 | .code (.region id ops draw),_,hr=>
   cases draw with
   |false=>
    simp only[psem,pure,Sem.runT,Prod.mk.injEq,Result.ok.injEq,Bool.false_eq_true,if_false] at hr ⊢
    obtain⟨⟨⟨rfl,rfl⟩,rfl⟩,rfl⟩:=hr
    exact .inl ⟨.inRegion ops (List.range ops.size)::l,⟨rfl,rfl⟩,rfl,rfl,by simp only[dl,and_self]⟩
   |true=>
    simp only[psem,if_true,bind,choose,Sem.bind,Sem.runT,Question.forced,Bool.false_eq_true,if_false,pure,Prod.mk.injEq,Result.ok.injEq,Question.cut] at hr ⊢
    obtain⟨⟨⟨rfl,rfl⟩,rfl⟩,rfl⟩:=hr
    exact .inl ⟨.inRegion ops _::l,⟨rfl,rfl⟩,rfl,rfl,by simp only[dl,and_self]⟩
 | .inRegion ops (i::rest),_,hr=>
   simp only[psem] at hr ⊢
   have ev:Frame.eval ⟨fn0,tmps,.inRegion ops (i::rest)::(l++k),defers,.run,kind,rnd⟩=Frame.eval ⟨fn0,tmps,.inRegion ops (i::rest)::(l++[mk0]),defers,.run,kind,rnd⟩:=by funext c;cases c<;>rfl
   rw[ev]
   have fin:∀ v,(⟨fn0,tmps,.inRegion ops (i::rest)::(l++k),defers,.run,kind,rnd⟩:Frame).finish v=tsub k ((⟨fn0,tmps,.inRegion ops (i::rest)::(l++[mk0]),defers,.run,kind,rnd⟩:Frame).finish v):=fun v=>by
    simp only[Frame.finish,tsub,dl]
   have bot:∀ v,Bot ((⟨fn0,tmps,.inRegion ops (i::rest)::(l++[mk0]),defers,.run,kind,rnd⟩:Frame).finish v) (.inRegion ops rest::l):=fun v=>⟨rfl,rfl⟩
   by_cases hw:((ops[i]?).map (Region.wanted · (yielded ops tmps))).getD false=true
   ·rw[if_pos hw] at hr ⊢
    cases ho:ops[i]? with
    |none=>rw[ho] at hr;simp[stuck] at hr
    |some o=>
     rw[ho] at hr
     dsimp only at hr ⊢
     generalize (execOp (Frame.eval ⟨fn0,tmps,.inRegion ops (i::rest)::(l++[mk0]),defers,.run,kind,rnd⟩) o)=ex at hr ⊢
     rw[runT_bind] at hr ⊢
     cases hrun:ex.runT P w #[] with
     |mk r es1=>
      rw[hrun] at hr
      cases r with
      |halt hh w1=>simp at hr
      |ok nx w1=>
       dsimp only at hr ⊢
       cases nx with
       |value v=>
        simp only[pure,Sem.runT,Prod.mk.injEq,Result.ok.injEq] at hr
        obtain⟨⟨⟨rfl,rfl⟩,rfl⟩,rfl⟩:=hr
        exact .inl ⟨_,bot v,rfl,rfl,by simp only[pure,Sem.runT,fin];rfl⟩
       |skip=>
        simp only[pure,Sem.runT,Prod.mk.injEq,Result.ok.injEq] at hr
        obtain⟨⟨⟨rfl,rfl⟩,rfl⟩,rfl⟩:=hr
        exact .inl ⟨_,bot undef,rfl,rfl,by simp only[pure,Sem.runT,fin];rfl⟩
       |enter f args=>
        simp only[pure,Sem.runT,Prod.mk.injEq,Result.ok.injEq] at hr
        obtain⟨⟨⟨rfl,rfl⟩,rfl⟩,rfl⟩:=hr
        exact .inr (.inr ⟨rfl,rfl⟩)
       |_=>simp[stuck] at hr
   ·rw[if_neg hw] at hr ⊢
    simp only[pure,Sem.runT,Prod.mk.injEq,Result.ok.injEq] at hr
    obtain⟨⟨⟨rfl,rfl⟩,rfl⟩,rfl⟩:=hr
    exact .inl ⟨_,bot undef,rfl,rfl,by simp only[pure,Sem.runT,fin];rfl⟩
 | .code (.rangeFunc ..),hh,hr=>simp[okItem,okCode] at hh
 | .code (.scope ..),hh,hr=>simp[okItem,okCode] at hh
 | .code (.label ..),hh,hr=>simp[okItem,okCode] at hh
 | .code (.goto ..),hh,hr=>simp[okItem,okCode] at hh
 | .code (.refuse ..),hh,hr=>simp[psem,stuck] at hr
 | .inScope c,hh,hr=>simp[okItem] at hh
 | .inRangeFunc c,hh,hr=>simp[okItem] at hh
 | .endRangeFunc c,hh,hr=>simp[okItem] at hh
 | .beginRound,hh,hr=>simp[okItem] at hh
 | .call ..,hh,hr=>simp[okItem] at hh
 | .extern ..,hh,hr=>simp[okItem] at hh
end
section
variable {P:Program} {F:FuncId→Bool} {S:Sd} {w w1:World} {es:Array Event}
theorem psem_up {f:Frame}{c:Frame}{r:List Frame}{f1:Frame}{a1:List Frame}(hr:(psem P f (c::r)).runT P w #[]=(.ok (f1,a1) w1,es)):
 (∃ p,a1=p++c::r∧∀ ab,(psem P f ab).runT P w #[]=(.ok (f1,p++ab) w1,es))∨(∃ v,f1=c.finish v∧a1=r∧∀ c' r',(psem P f (c'::r')).runT P w #[]=(.ok (c'.finish v,r') w1,es)):=by
 obtain⟨fn0,tmps,todo,defers,mode,kind,rnd⟩:=f
 by_cases hm:mode= .run
 ·left
  subst hm
  match todo,hr with
  |[],hr=>
   simp only[psem,pure,Sem.runT,Prod.mk.injEq,Result.ok.injEq] at hr
   obtain⟨⟨⟨rfl,rfl⟩,rfl⟩,rfl⟩:=hr
   exact⟨[],rfl,fun ab=>rfl⟩
  | .code .ret::k,hr=>
    simp only[psem,pure,Sem.runT,Prod.mk.injEq,Result.ok.injEq] at hr
    obtain⟨⟨⟨rfl,rfl⟩,rfl⟩,rfl⟩:=hr
    exact⟨[],rfl,fun ab=>rfl⟩
  | .code .skip::k,hr=>
    simp only[psem,pure,Sem.runT,Prod.mk.injEq,Result.ok.injEq] at hr
    obtain⟨⟨⟨rfl,rfl⟩,rfl⟩,rfl⟩:=hr
    exact⟨[],rfl,fun ab=>rfl⟩
  | .inBlock _::k,hr=>
    simp only[psem,pure,Sem.runT,Prod.mk.injEq,Result.ok.injEq] at hr
    obtain⟨⟨⟨rfl,rfl⟩,rfl⟩,rfl⟩:=hr
    exact⟨[],rfl,fun ab=>rfl⟩
  | .code (.seq a b)::k,hr=>
    simp only[psem,pure,Sem.runT,Prod.mk.injEq,Result.ok.injEq] at hr
    obtain⟨⟨⟨rfl,rfl⟩,rfl⟩,rfl⟩:=hr
    exact⟨[],rfl,fun ab=>rfl⟩
  | .code (.block id a)::k,hr=>
    simp only[psem,pure,Sem.runT,Prod.mk.injEq,Result.ok.injEq] at hr
    obtain⟨⟨⟨rfl,rfl⟩,rfl⟩,rfl⟩:=hr
    exact⟨[],rfl,fun ab=>rfl⟩
  | .code (.loop a)::k,hr=>
    simp only[psem,pure,Sem.runT,Prod.mk.injEq,Result.ok.injEq] at hr
    obtain⟨⟨⟨rfl,rfl⟩,rfl⟩,rfl⟩:=hr
    exact⟨[],rfl,fun ab=>rfl⟩
  | .inLoop a::k,hr=>
    simp only[psem,pure,Sem.runT,Prod.mk.injEq,Result.ok.injEq] at hr
    obtain⟨⟨⟨rfl,rfl⟩,rfl⟩,rfl⟩:=hr
    exact⟨[],rfl,fun ab=>rfl⟩
  | .inRegion _ []::k,hr=>
    simp only[psem,pure,Sem.runT,Prod.mk.injEq,Result.ok.injEq] at hr
    obtain⟨⟨⟨rfl,rfl⟩,rfl⟩,rfl⟩:=hr
    exact⟨[],rfl,fun ab=>rfl⟩
  | .code (.cond c a b)::k,hr=>
    simp only[psem] at hr ⊢
    generalize Frame.eval _ c=q at hr ⊢
    cases q with
    |bool t=>
     simp only[pure,Sem.runT,Prod.mk.injEq,Result.ok.injEq] at hr
     obtain⟨⟨⟨rfl,rfl⟩,rfl⟩,rfl⟩:=hr
     exact⟨[],rfl,fun ab=>rfl⟩
    |_=>simp[stuck] at hr
  | .code (.exit id)::k,hr=>
    simp only[psem] at hr ⊢
    cases he:exitTo id k with
    |none=>rw[he] at hr;simp[stuck] at hr
    |some k'=>
     rw[he] at hr
     simp only[pure,Sem.runT,Prod.mk.injEq,Result.ok.injEq] at hr
     obtain⟨⟨⟨rfl,rfl⟩,rfl⟩,rfl⟩:=hr
     exact⟨[],rfl,fun ab=>rfl⟩
  | .code (.region id ops draw)::k,hr=>
    cases draw with
    |false=>
     simp only[psem,pure,Sem.runT,Prod.mk.injEq,Result.ok.injEq,Bool.false_eq_true,if_false] at hr
     obtain⟨⟨⟨rfl,rfl⟩,rfl⟩,rfl⟩:=hr
     exact⟨[],rfl,fun ab=>rfl⟩
    |true=>
     simp only[psem,if_true,bind,choose,Sem.bind,Sem.runT,Question.forced,Bool.false_eq_true,if_false,pure,Prod.mk.injEq,Result.ok.injEq,Question.cut] at hr
     obtain⟨⟨⟨rfl,rfl⟩,rfl⟩,rfl⟩:=hr
     exact⟨[],rfl,fun ab=>by simp only[psem,if_true,bind,choose,Sem.bind,Sem.runT,Question.forced,Bool.false_eq_true,if_false,pure,Question.cut,List.nil_append]⟩
  | .inRegion ops (i::rest)::k,hr=>
    simp only[psem] at hr ⊢
    by_cases hw:((ops[i]?).map (Region.wanted · (yielded ops tmps))).getD false=true
    ·rw[if_pos hw] at hr
     cases ho:ops[i]? with
     |none=>rw[ho] at hr;simp[stuck] at hr
     |some o=>
      rw[ho] at hr hw
      dsimp only at hr ⊢
      simp only[if_pos hw]
      generalize (execOp (Frame.eval ⟨fn0,tmps,.inRegion ops (i::rest)::k,defers,.run,kind,rnd⟩) o)=ex at hr ⊢
      rw[runT_bind] at hr
      simp only[runT_bind]
      cases hrun:ex.runT P w #[] with
      |mk q es1=>
       rw[hrun] at hr
       cases q with
       |halt hh w1=>simp at hr
       |ok nx w1=>
        dsimp only at hr ⊢
        cases nx with
        |value v=>
         simp only[pure,Sem.runT,Prod.mk.injEq,Result.ok.injEq] at hr
         obtain⟨⟨⟨rfl,rfl⟩,rfl⟩,rfl⟩:=hr
         exact⟨[],rfl,fun ab=>rfl⟩
        |skip=>
         simp only[pure,Sem.runT,Prod.mk.injEq,Result.ok.injEq] at hr
         obtain⟨⟨⟨rfl,rfl⟩,rfl⟩,rfl⟩:=hr
         exact⟨[],rfl,fun ab=>rfl⟩
        |enter f args=>
         simp only[pure,Sem.runT,Prod.mk.injEq,Result.ok.injEq] at hr
         obtain⟨⟨⟨rfl,rfl⟩,rfl⟩,rfl⟩:=hr
         exact⟨[⟨fn0,tmps,.inRegion ops (i::rest)::k,defers,.run,kind,rnd⟩],rfl,fun ab=>rfl⟩
        |_=>simp[stuck] at hr
    ·rw[if_neg hw] at hr
     simp only[if_neg hw]
     simp only[pure,Sem.runT,Prod.mk.injEq,Result.ok.injEq] at hr
     obtain⟨⟨⟨rfl,rfl⟩,rfl⟩,rfl⟩:=hr
     exact⟨[],rfl,fun ab=>rfl⟩
  | .code (.rangeFunc ..)::k,hr=>simp[psem,stuck] at hr
  | .code (.scope ..)::k,hr=>simp[psem,stuck] at hr
  | .code (.label ..)::k,hr=>simp[psem,stuck] at hr
  | .code (.goto ..)::k,hr=>simp[psem,stuck] at hr
  | .code (.refuse ..)::k,hr=>simp[psem,stuck] at hr
  | .inScope c::k,hr=>simp[psem,stuck] at hr
  | .inRangeFunc c::k,hr=>simp[psem,stuck] at hr
  | .endRangeFunc c::k,hr=>simp[psem,stuck] at hr
  | .beginRound::k,hr=>simp[psem,stuck] at hr
  | .call ..::k,hr=>simp[psem,stuck] at hr
  | .extern ..::k,hr=>simp[psem,stuck] at hr
 ·right
  have key:∀ ab,psem P ⟨fn0,tmps,todo,defers,mode,kind,rnd⟩ ab=match P.funcs[fn0]? with
   |some fn=>do
    let v ←results fn tmps
    match ab with
    |c::rest=>pure (c.finish v,rest)
    |[]=>stuck ""
   |none=>stuck "" :=fun ab=>by
   cases mode with
   |run=>exact absurd rfl hm
   |_=>rfl
  rw[key] at hr
  simp only[key]
  cases hf:P.funcs[fn0]? with
  |none=>rw[hf] at hr;simp[stuck] at hr
  |some fn=>
   rw[hf] at hr
   dsimp only at hr ⊢
   rw[runT_bind] at hr
   simp only[runT_bind]
   cases hrun:(results fn tmps).runT P w #[] with
   |mk q es1=>
    rw[hrun] at hr
    cases q with
    |halt hh w1=>simp at hr
    |ok v w1=>
     simp only[pure,Sem.runT,Prod.mk.injEq,Result.ok.injEq] at hr
     obtain⟨⟨⟨rfl,rfl⟩,rfl⟩,rfl⟩:=hr
     exact⟨v,rfl,rfl,fun c' r'=>rfl⟩
theorem psem_out {f:Frame}(hm:f.mode≠ .run){f1:Frame}{a1:List Frame}(hr:(psem P f []).runT P w #[]=(.ok (f1,a1) w1,es)):False:=by
 obtain⟨fn0,tmps,todo,defers,mode,kind,rnd⟩:=f
 have key:psem P ⟨fn0,tmps,todo,defers,mode,kind,rnd⟩ []=match P.funcs[fn0]? with
  |some fn=>do
   let _ ←results fn tmps
   stuck ""
  |none=>stuck "" :=by
  cases mode with
  |run=>exact absurd rfl hm
  |_=>rfl
 rw[key] at hr
 cases hf:P.funcs[fn0]? with
 |none=>rw[hf] at hr;simp[stuck] at hr
 |some fn=>
  rw[hf] at hr
  dsimp only at hr
  rw[runT_bind] at hr
  cases hrun:(results fn tmps).runT P w #[] with
  |mk q es1=>
   rw[hrun] at hr
   cases q with
   |halt hh w1=>simp at hr
   |ok v w1=>simp[stuck] at hr
end
end Go.Ren
