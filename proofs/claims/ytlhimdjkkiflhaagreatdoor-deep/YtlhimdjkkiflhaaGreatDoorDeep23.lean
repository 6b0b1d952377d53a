import Derived.Test.YtlhimdjkkiflhaaGreatDoorDeep22
namespace Go.Proofs.YtlhimdjkkiflhaaGreatDoor
open Go.RowKit Go.Loop
set_option maxHeartbeats 4000000 in
theorem next_any (s:ByteArray)(a:Nat)(w:World)(hs:s.size≤1000000)(ha:a≤s.size):
 Calls Tryz.prog 120 #[.string s,.int .i64 a] w fun e w'=>e= .returned (tkV (nextP s.data.toList a))∧Below w.heap.size w w':=by
 have hsk:=skipP_le (s:=s.data.toList) (a:=a) (by rw[len_data];exact ha)
 rw[len_data] at hsk
 have hT:Hid (nextP s.data.toList a=tokAt s.data.toList (skipP s.data.toList a)):=rfl
 have hk0:Hid ((a:Int)+(skW true (s.data.toList.drop a)).1=(skipP s.data.toList a:Nat)):=by
  show _=_
  unfold skipP skW
  omega
 obtain⟨b,hk⟩:∃ b,Hid (skW true (s.data.toList.drop a)=(skipP s.data.toList a-a,b)):=⟨(skW true (s.data.toList.drop a)).2,by
  show _=_
  have:=hk0.out
  apply Prod.ext
  ·show(skW true (s.data.toList.drop a)).1=_;omega
  ·rfl⟩
 generalize skipP s.data.toList a=k at *
 clear hk0
 have hka:((a:Int)+((k-a:Nat):Int))=k:=by omega
 by_cases hlt:k<s.size
 ·have hd:=drop_cons s k hlt
  have hT2:Hid (nextP s.data.toList a=if s[k].toNat=40 then tok0 2 k (k+1) else if s[k].toNat=41 then tok0 3 k (k+1) else if s[k].toNat=39 then tok0 4 k (k+1) else if s[k].toNat=34 then textP s.data.toList k else if s[k].toNat=35 then hashP s.data.toList k else if wordB (s[k].toNat :Int) then wordP s.data.toList k else wrongP k):=by
   show _=_
   rw[hT.out]
   unfold tokAt
   rw[hd]
  clear hT hd
  have qe:((k:Int)==(s.size:Int))=false:=by rw[beq_eq_false_iff_ne];omega
  by_cases h40:(s[k].toNat :Int)=40
  ·have e:Hid (nextP s.data.toList a=tok0 2 k (k+1)):=by show _=_;rw[hT2.out,if_pos (by omega)]
   clear hT2
   go_enter Tryz.func120,Tryz.ntmps120
   go_wp2_with fail
   refine(skip_any _ _ _ hs ha).mono ?_
   rw[hk.out];rintro e w' ⟨rfl,rfl⟩
   go_wp2_with fail
   refine bodyPost_ret (v:=tkV (tok0 2 k (k+1))) (by simp[results,Tryz.results120,tkV,tok0,go_sem]) rfl ⟨by rw[e.out],?_⟩
   (repeat (first|with_reducible refine Below.setCell ?_ (by simp) _|with_reducible refine Below.alloc ?_ (by simp) _));with_reducible exact Below.refl _ _
  have q40:((s[k].toNat :Int)==40)=false:=by rw[beq_eq_false_iff_ne];exact h40
  by_cases h41:(s[k].toNat :Int)=41
  ·have e:Hid (nextP s.data.toList a=tok0 3 k (k+1)):=by show _=_;rw[hT2.out,if_neg (by omega),if_pos (by omega)]
   clear hT2
   clear q40
   go_enter Tryz.func120,Tryz.ntmps120
   go_wp2_with fail
   refine(skip_any _ _ _ hs ha).mono ?_
   rw[hk.out];rintro e w' ⟨rfl,rfl⟩
   go_wp2_with fail
   refine bodyPost_ret (v:=tkV (tok0 3 k (k+1))) (by simp[results,Tryz.results120,tkV,tok0,go_sem]) rfl ⟨by rw[e.out],?_⟩
   (repeat (first|with_reducible refine Below.setCell ?_ (by simp) _|with_reducible refine Below.alloc ?_ (by simp) _));with_reducible exact Below.refl _ _
  have q41:((s[k].toNat :Int)==41)=false:=by rw[beq_eq_false_iff_ne];exact h41
  by_cases h39:(s[k].toNat :Int)=39
  ·have e:Hid (nextP s.data.toList a=tok0 4 k (k+1)):=by show _=_;rw[hT2.out,if_neg (by omega),if_neg (by omega),if_pos (by omega)]
   clear hT2
   clear q40 q41
   go_enter Tryz.func120,Tryz.ntmps120
   go_wp2_with fail
   refine(skip_any _ _ _ hs ha).mono ?_
   rw[hk.out];rintro e w' ⟨rfl,rfl⟩
   go_wp2_with fail
   refine bodyPost_ret (v:=tkV (tok0 4 k (k+1))) (by simp[results,Tryz.results120,tkV,tok0,go_sem]) rfl ⟨by rw[e.out],?_⟩
   (repeat (first|with_reducible refine Below.setCell ?_ (by simp) _|with_reducible refine Below.alloc ?_ (by simp) _));with_reducible exact Below.refl _ _
  have q39:((s[k].toNat :Int)==39)=false:=by rw[beq_eq_false_iff_ne];exact h39
  by_cases h34:(s[k].toNat :Int)=34
  ·have e:Hid (nextP s.data.toList a=textP s.data.toList k):=by show _=_;rw[hT2.out,if_neg (by omega),if_neg (by omega),if_neg (by omega),if_pos (by omega)]
   clear hT2 q40 q41 q39
   go_enter Tryz.func120,Tryz.ntmps120
   go_wp2_with fail
   refine(skip_any _ _ _ hs ha).mono ?_
   rw[hk.out];rintro e w' ⟨rfl,rfl⟩
   go_wp2_with fail
   refine(scanText_any _ _ _ hs hlt).mono ?_
   rintro e w1 ⟨rfl,hb⟩
   obtain⟨⟨x0,x1,x2,x3,x4,x5,x6⟩,f0,f1,f2,f3,f4,f5,f6⟩:=cells7 (b:=w.heap.size) hb (heap_alloc_new w _)
   have HB:Hid (Below w.heap.size w w1):=((Below.refl _ w).alloc (Nat.le_refl _) _).trans (hb.mono (by simp))
   clear hb
   unfold tkV
   go_wp2_with fail
   exact bodyPost_ret (v:=tkV (textP s.data.toList k)) (by simp[results,Tryz.results120,tkV,go_sem, *]) rfl ⟨by rw[e.out],below7 HB.out _ _ _ _ _ _ _⟩
  have q34:((s[k].toNat :Int)==34)=false:=by rw[beq_eq_false_iff_ne];exact h34
  by_cases h35:(s[k].toNat :Int)=35
  ·have e:Hid (nextP s.data.toList a=hashP s.data.toList k):=by show _=_;rw[hT2.out,if_neg (by omega),if_neg (by omega),if_neg (by omega),if_neg (by omega),if_pos (by omega)]
   clear hT2 q40 q41 q39 q34
   go_enter Tryz.func120,Tryz.ntmps120
   go_wp2_with fail
   refine(skip_any _ _ _ hs ha).mono ?_
   rw[hk.out];rintro e w' ⟨rfl,rfl⟩
   go_wp2_with fail
   refine(scanHash_any _ _ _ hs hlt).mono ?_
   rintro e w1 ⟨rfl,hb⟩
   obtain⟨⟨x0,x1,x2,x3,x4,x5,x6⟩,f0,f1,f2,f3,f4,f5,f6⟩:=cells7 (b:=w.heap.size) hb (heap_alloc_new w _)
   have HB:Hid (Below w.heap.size w w1):=((Below.refl _ w).alloc (Nat.le_refl _) _).trans (hb.mono (by simp))
   clear hb
   unfold tkV
   go_wp2_with fail
   exact bodyPost_ret (v:=tkV (hashP s.data.toList k)) (by simp[results,Tryz.results120,tkV,go_sem, *]) rfl ⟨by rw[e.out],below7 HB.out _ _ _ _ _ _ _⟩
  have q35:((s[k].toNat :Int)==35)=false:=by rw[beq_eq_false_iff_ne];exact h35
  cases hw:wordB (s[k].toNat :Int)
  ·have e:Hid (nextP s.data.toList a=wrongP k):=by show _=_;rw[hT2.out,if_neg (by omega),if_neg (by omega),if_neg (by omega),if_neg (by omega),if_neg (by omega),hw];rfl
   have hw':Hid _:=hw
   clear hT2 hw
   go_enter Tryz.func120,Tryz.ntmps120
   go_wp2_with fail
   refine(skip_any _ _ _ hs ha).mono ?_
   rw[hk.out];rintro e w' ⟨rfl,rfl⟩
   go_wp2_with fail
   refine(isWordByte_any _ _ (by omega) (by have:=s[k].toNat_lt;omega)).mono ?_
   rw[hw'.out];rintro e w' ⟨rfl,rfl⟩
   go_wp2_with fail
   refine(wrong_any _ _).mono ?_
   rintro e w1 ⟨rfl,hb⟩
   obtain⟨⟨x0,x1,x2,x3,x4,x5,x6⟩,f0,f1,f2,f3,f4,f5,f6⟩:=cells7 (b:=w.heap.size) hb (heap_alloc_new w _)
   have HB:Hid (Below w.heap.size w w1):=((Below.refl _ w).alloc (Nat.le_refl _) _).trans (hb.mono (by simp))
   clear hb
   unfold tkV
   go_wp2_with fail
   exact bodyPost_ret (v:=tkV (wrongP k)) (by simp[results,Tryz.results120,tkV,go_sem, *]) rfl ⟨by rw[e.out],below7 HB.out _ _ _ _ _ _ _⟩
  ·have e:Hid (nextP s.data.toList a=wordP s.data.toList k):=by show _=_;rw[hT2.out,if_neg (by omega),if_neg (by omega),if_neg (by omega),if_neg (by omega),if_neg (by omega),hw];rfl
   have hw':Hid _:=hw
   clear hT2 hw
   go_enter Tryz.func120,Tryz.ntmps120
   go_wp2_with fail
   refine(skip_any _ _ _ hs ha).mono ?_
   rw[hk.out];rintro e w' ⟨rfl,rfl⟩
   go_wp2_with fail
   refine(isWordByte_any _ _ (by omega) (by have:=s[k].toNat_lt;omega)).mono ?_
   rw[hw'.out];rintro e w' ⟨rfl,rfl⟩
   go_wp2_with fail
   refine(scanWord_any _ _ _ hs hlt hw'.out).mono ?_
   rintro e w1 ⟨rfl,hb⟩
   obtain⟨⟨x0,x1,x2,x3,x4,x5,x6⟩,f0,f1,f2,f3,f4,f5,f6⟩:=cells7 (b:=w.heap.size) hb (heap_alloc_new w _)
   have HB:Hid (Below w.heap.size w w1):=((Below.refl _ w).alloc (Nat.le_refl _) _).trans (hb.mono (by simp))
   clear hb
   unfold tkV
   go_wp2_with fail
   exact bodyPost_ret (v:=tkV (wordP s.data.toList k)) (by simp[results,Tryz.results120,tkV,go_sem, *]) rfl ⟨by rw[e.out],below7 HB.out _ _ _ _ _ _ _⟩
 ·have hkk:k=s.size:=by omega
  have e:Hid (nextP s.data.toList a=endP s.data.toList):=by
   show _=_
   rw[hT.out]
   unfold tokAt
   rw[show s.data.toList.drop k=[] from List.drop_of_length_le (by rw[len_data];omega)]
  have qe:((k:Int)==(s.size:Int))=true:=by rw[beq_iff_eq];omega
  clear hT
  go_enter Tryz.func120,Tryz.ntmps120
  go_wp2_with fail
  refine(skip_any _ _ _ hs ha).mono ?_
  rw[hk.out];rintro e w' ⟨rfl,rfl⟩
  go_wp2_with fail
  refine(endOf_any _ _).mono ?_
  rintro e w1 ⟨rfl,hb⟩
  obtain⟨⟨x0,x1,x2,x3,x4,x5,x6⟩,f0,f1,f2,f3,f4,f5,f6⟩:=cells7 (b:=w.heap.size) hb (heap_alloc_new w _)
  have HB:Hid (Below w.heap.size w w1):=((Below.refl _ w).alloc (Nat.le_refl _) _).trans (hb.mono (by simp))
  clear hb
  unfold tkV
  go_wp2_with fail
  exact bodyPost_ret (v:=tkV (endP s.data.toList)) (by simp[results,Tryz.results120,tkV,go_sem, *]) rfl ⟨by rw[e.out],below7 HB.out _ _ _ _ _ _ _⟩
end Go.Proofs.YtlhimdjkkiflhaaGreatDoor
namespace Go.Ren
open Go Go.Conc Go.ConcX Go.RowKit Go.Proofs Go.Loop
theorem next_lone (s:List UInt8)(hs:s.length≤1000)(n:Nat)(w:World)(hn:n≤s.length):Calls Tryz.prog 120 #[.string ⟨⟨s⟩⟩,.int .i64 n] w fun e _=>∃ v,e= .returned v∧v=tokV (nextP s n):=
 (Go.Proofs.YtlhimdjkkiflhaaGreatDoor.next_any ⟨⟨s⟩⟩ n w (by show s.length≤_;omega) hn).mono fun e w' h=>⟨_,h.1,rfl⟩
theorem last_lone (t:Tok)(w:World):Calls Tryz.prog 121 #[tokV t] w fun e _=>∃ v,e= .returned v∧v= .bool t.lastB:=
 (Go.Proofs.YtlhimdjkkiflhaaGreatDoor.last_any t w).mono fun _e _w' h=>⟨_,h,rfl⟩
theorem gather_any {s:List UInt8}{c:Frame}{cs:List Frame}{Shun:Loc→Prop}{gs:Array Goroutine}{w0:World}{sl:Option (Nat×Nat)}{t:Trace}{q:Nat→Nat}(hlen:s.length≤1000)(hb:Tryz.prog.globals.size≤w0.heap.size)(h0:gs[0]? =some (G (Frame.enter Tryz.prog 43 #[.string ⟨⟨s⟩⟩] .normal) (c::cs)))(hLv:Leavers Tryz.prog t gs q)(hP:Past Shun w0.heap.size t)(hS:∀ l,Shun l→l.low w0.heap.size):
 Reach Tryz.prog (crowd gs w0 sl) t (Gathered Shun (gatherP (s.length+1) s 0) c cs gs.size w0):=
 gather_reach (fun n w hn=>next_lone s hlen n w hn) last_lone hlen hb h0 hLv hP hS
section
variable {Ψ:CoGoal} {cs:List Frame} {w:World} {b:Frame} {a:Act} {ops:Array Oper} {i:Nat} {rest:List Nat} {kk:List Item}
theorem inB_or {o1 o2 o3:Nat→Prop}(h:∀ x,o1 x→o2 x∨o3 x){l:Loc}(hl:InB o1 l):InB o2 l∨InB o3 l:=by
 cases l with
 |cell a=>exact h _ hl
 |obj r=>exact h _ hl
 |_=>exact .inl hl
theorem inB_lowC {o:Nat→Prop}{n:Nat}(h:∀ x,o x→x<n){l:Loc}(hl:InB o l):l.low n:=by
 cases l with
 |cell a=>exact h _ hl
 |obj r=>exact h _ hl
 |_=>exact hl.elim
theorem CoReach.gather {s:List UInt8}(hlen:s.length≤1000)(h:∀ v w',Below w.heap.size w w'→w'.ownsRow w.heap.size 131 7 v (gatherP (s.length+1) s 0).length ((gatherP (s.length+1) s 0).flatMap fun t=>(tokC t).toList)→
 CoReach Tryz.prog Sz Ψ (b.at (a.put ((ops[i]?).bind (·.dst)) v) (.inRegion ops rest::kk)) cs w'):
 CoReach Tryz.prog Sz Ψ (Frame.enter Tryz.prog 43 #[.string ⟨⟨s⟩⟩] .normal) (b.at a (.inRegion ops (i::rest)::kk)::cs) w:=by
 intro ρ W gs sl t q Shun hS hc hcs h0 hL hP hN hO hT hρ0
 have e0:rfr ρ (Frame.enter Tryz.prog 43 #[.string ⟨⟨s⟩⟩] .normal)=Frame.enter Tryz.prog 43 #[.string ⟨⟨s⟩⟩] .normal:=by
  rw[←enter_rfr];simp[rv]
 rw[e0,List.map_cons] at h0
 refine(gather_any hlen hS.bigW h0 hL hP hN.low).bind ?_
 rintro m t' ⟨gs',W',sl',q',ρ₂,w₂,v,Shun',rfl,_,h0',hL',hP',hlow',hold',hnew',hS₂,hcl,hrow,htou,hsz,hblk,htape,hos,hout⟩
 have hS₁:=hS.grow hsz fun x hx=>hblk x (hN.olt x hx)
 have ht1:Touch Sz.d (extR ρ w.heap.size W'.heap.size) w=Touch Sz.d ρ w:=touch_ext
 have hag1:∀ r,r<w.heap.size→extR ρ w.heap.size W'.heap.size r=ρ r:=fun r hr=>extR_lt hr
 generalize extR ρ w.heap.size W'.heap.size=ρ₁ at *
 have hS₃:=Sim.merge twoz hS₁ hS₂ (fun x h1 h2=>by
  have k1:=hN.olt x (by rw[←ht1];exact h1)
  have k2:=htou x h2
  omega)
 have hb₂:=hS₂.wr.big.p
 have hs₃:=mr_size (w:=w) hb₂
 have hrv:=mr_rv twoz hS₁ hS₂ hcl
 have htm:∀ x,Touch Sz.d (mrR ρ₁ ρ₂ Tryz.prog.globals.size w.heap.size w₂.heap.size W'.heap.size) (mrW Tryz.prog w w₂) x→Touch Sz.d ρ w x∨Touch Sc.d ρ₂ w₂ x:=fun x hx=>by
  have:=touch_merge twoz hb₂ hx
  rwa[ht1] at this
 have hag3:∀ r,r<w.heap.size→mrR ρ₁ ρ₂ Tryz.prog.globals.size w.heap.size w₂.heap.size W'.heap.size r=ρ r:=fun r hr=>by
  rw[←hag1 r hr];simp only[mrR,if_pos hr]
 generalize mrR ρ₁ ρ₂ Tryz.prog.globals.size w.heap.size w₂.heap.size W'.heap.size=ρ₃ at *
 have hbelow:Below w.heap.size w (mrW Tryz.prog w w₂):=⟨rfl,rfl,rfl,by omega,fun r hr=>mr_old hr⟩
 have hrow3:=mr_row (w:=w) (Nat.le_refl _) hrow (fun x hx=>by
  obtain⟨tk,_,hx⟩:=List.mem_flatMap.1 hx
  simp[tokC] at hx
  rcases hx with rfl|rfl|rfl|rfl|rfl|rfl|rfl<;>simp[rv])
 have hcl3:=sh_cl twoz (w:=w) hS.wr.big.p hb₂ hcl
 have hf3:∀ x,ρ₃.f x=ρ.f x:=fun x=>by rw[hS₃.f,hS.f]
 refine h _ _ hbelow hrow3 ρ₃ W' gs' sl' t' q' Shun' hS₃ ?_ (fun f hf=>cl_mono (by omega) (hcs f (List.mem_cons_of_mem _ hf))) ?_ hL' hP' ⟨fun x hx=>?_,fun _ hx=>hx.elim,fun l hl hsh=>?_,hlow'⟩ ⟨htape.trans hO.tape,hos.trans hO.os,hout.trans hO.output,Nat.le_trans hO.size hsz,fun r hr hm=>(hblk r (Nat.lt_of_lt_of_le hr hO.size)).trans (hO.block r hr hm)⟩ (fun x hx=>(htm x hx).elim (hT x) fun h2=> .inl (Nat.le_trans hO.size (htou x h2))) ⟨Nat.le_trans hρ0.size (by omega),fun r hr=>(hag3 r (Nat.lt_of_lt_of_le hr hρ0.size)).trans (hρ0.same r hr)⟩
 ·have h1:ClA Tryz.prog Sz w.heap.size a:=hcs _ List.mem_cons_self
  exact ClA.put (P:=Tryz.prog) (fun x hx=>fix_mono (sg_mono (by omega)).1 (sg_mono (by omega)).2 x (h1 x hx)) _ hcl3
 ·rw[h0']
  have e1:rfr ρ (b.at a (.inRegion ops (i::rest)::kk))=rfr ρ₃ (b.at a (.inRegion ops (i::rest)::kk)):=rfr_agree (hcs _ List.mem_cons_self) (fun r hr=>(hag3 r hr).symm) (fun x=>(hf3 x).symm)
  have e2:cs.map (rfr ρ)=cs.map (rfr ρ₃):=rfrs_agree (fun r hr=>(hag3 r hr).symm) (fun x=>(hf3 x).symm) fun f hf=>hcs f (List.mem_cons_of_mem _ hf)
  rw[e1,e2,rfr_at,rfr_at,Frame.finish_at,←hrv,rn_put]
 ·obtain⟨r,h1,h2,rfl⟩:=hx
  exact hS₃.low h2
 ·rcases hl with hl|hl
  ·rcases inB_or htm hl with h1|h1
   ·exact hN.shun l (.inl h1) (hold' l (inB_lowC hN.olt h1) hsh)
   ·exact hnew' l h1 hsh
  ·cases l<;>exact hl
end
end Go.Ren
namespace Go.Ren
open Go Go.Conc
section
variable {P:Program} {F:FuncId→Bool} {S:Sd} {Ψ:CoGoal} {cs:List Frame} {w W:World} {ρ:Rn} {b:Frame} {a:Act} {k:List Item}
theorem leave_simH (hC:Clo P F S){main:Bool}{fr:Frame}(hH:OkHd P F S fr)(hcl:ClFr P S w.heap.size fr)(hS:Sim P S ρ w W){v:Value}{fn:Func}(h1:fr.mode= .returning)(h4:P.funcs[fr.fn]? =some fn)(h5:(results fn fr.tmps).run P w= .ok v w)(c:Frame)(cs:List Frame):
 rv (sg S S.d w.heap.size) v=v∧∃ es,stepG P main (G (rfr ρ fr) (c::cs)) W= .go (G (c.finish (rv ρ v)) cs) W es∧∀ e∈es,EvOk S.d ρ w e:=by
 have hp:Plain P ρ:=⟨fun t i v a b=>hC.zero t i v a b _,hS.inj⟩
 cases hrun:(results fn fr.tmps).runT P w #[] with
 |mk r es=>
  have q1:=congrArg Prod.fst hrun
  simp at q1
  rw[h5] at q1
  subst q1
  have hself:∀ n,w.heap.size≤n→Eqv P (sg S S.d n) (VV (sg S S.d n)) (results fn fr.tmps) (results fn fr.tmps):=fun n hn=>by
   have:=e_results (plain_sg hC n) fn fr.tmps rv_undef
   have e:fr.tmps.map (rv (sg S S.d n))=fr.tmps:=map_fix.2 (cl_mono hn hcl)
   rwa[e] at this
  obtain⟨x,W1,es',r1,r2,r3,r4,r5,r6⟩:=run_ren hp (fun o=> .inl hS.glob) _ _ _ _ w W #[] #[] _ _ _ (e_results hp fn fr.tmps rv_undef) hself hS.wr (fun j hj=>by omega) hrun
  have hb:x=rv ρ v:=r2
  have hv:rv (sg S S.d w.heap.size) v=v:=by
   have:=r3 w.heap.size (Nat.le_refl _)
   unfold VV at this
   exact this.symm
  have hs:=r5.size
  have hW1:W1=W:=by
   refine world_ext (Array.ext_getElem? fun i=>?_) r5.tape (by have:=r5.drawn;omega) r5.os r5.output
   rcases Nat.lt_or_ge i W.heap.size with hlt|hge
   ·by_cases ht:Touch S.d ρ w i
    ·obtain⟨k,hr1,hr2,rfl⟩:=ht
     have hlive:=r4.live _ _ hr1 (Array.getElem?_eq_getElem hr2)
     have hlive2:=hS.wr.live _ _ hr1 (Array.getElem?_eq_getElem hr2)
     exact hlive.trans hlive2.symm
    ·exact r5.frame i hlt ht
   ·rw[Array.getElem?_eq_none (by omega),Array.getElem?_eq_none hge]
  subst hb hW1
  have hok:OkHd P F S (rfr ρ fr):=⟨hH.defers,hH.mode,hH.kind,hH.round,hH.todo,hH.fn⟩
  have hps:(psem P (rfr ρ fr) [c]).runT P W1 #[]=(.ok (c.finish (rv ρ v),[]) W1,es'):=by
   have hm:(rfr ρ fr).mode= .returning:=h1
   have hf:P.funcs[(rfr ρ fr).fn]? =some fn:=h4
   unfold psem
   rw[hm]
   simp only[hf]
   rw[runT_bind]
   have:(results fn (rfr ρ fr).tmps).runT P W1 #[]=(.ok (rv ρ v) W1,es'):=r1
   rw[this]
   rfl
  have hst:=stepG_psemH (main:=main) (cs:=cs) hok hps
  refine⟨hv,_,hst,fun e he=>?_⟩
  rcases r6 e (mem_seen he) with h|h
  ·simp at h
  ·exact h
theorem okHd_out (hn:b.kind= .normal)(hd:a.defers=[])(hf:∃ fn,P.funcs[b.fn]? =some fn){todo:List Item}(ht:(todo.take 1).all (okItem P F S)=true):OkHd P F S (outFr b a todo):=⟨hd,.inr rfl,hn,rfl,ht,hf⟩
theorem stepG_out {main:Bool}{c:Frame}(todo todo':List Item)(hn:b.kind= .normal)(hd:a.defers=[]){g:Goroutine}{w':World}{es:Array Event}(h:stepG P main (G (outFr b a todo) (c::cs)) w= .go g w' es):stepG P main (G (outFr b a todo') (c::cs)) w= .go g w' es:=by
 unfold outFr G stepG unwind doReturn at h ⊢
 simp only[Frame.at,hd,hn] at h ⊢
 cases hf:P.funcs[b.fn]? with
 |none=>simpa[hf] using h
 |some fn=>
  cases hr:(results fn a.tmps).run P w with
  |ok v w2=>simpa[hf,hr] using h
  |halt hh w2=>cases hh<;>simp[hf,hr,GStep.after] at h
theorem CoReach.leaveM (hC:Clo P F S){fn:Func}{todo:List Item}{v:Value}{b':Frame}{a':Act}{ops:Array Oper}{i:Nat}{rest:List Nat}{kk:List Item}(hn:b.kind= .normal)(hd:a.defers=[])(hf:P.funcs[b.fn]? =some fn)
 (hr:(results fn a.tmps).run P w= .ok v w)(h:CoReach P S Ψ (b'.at (a'.put ((ops[i]?).bind (·.dst)) v) (.inRegion ops rest::kk)) cs w):CoReach P S Ψ (outFr b a todo) (b'.at a' (.inRegion ops (i::rest)::kk)::cs) w:=
 CoReach.walk fun ρ W hS hcl hcs=>by
  refine Walks.step' rfl fun W₁ hr1=>?_
  have hS1:=hS.rely hr1
  obtain⟨hv,es,hstep,hev⟩:=leave_simH (main:=true) (fr:=outFr b a []) hC (okHd_out hn hd ⟨fn,hf⟩ rfl) hcl hS1 rfl hf hr (rfr ρ (b'.at a' (.inRegion ops (i::rest)::kk))) (cs.map (rfr ρ))
  have hag:∀ r,r<w.heap.size→extR ρ w.heap.size W₁.heap.size r=ρ r:=fun r hlt=>extR_lt hlt
  have e0:rfr ρ (outFr b a todo)=rfr (extR ρ w.heap.size W₁.heap.size) (outFr b a todo):=rfr_agree hcl (fun r hlt=>(hag r hlt).symm) (fun _=>rfl)
  have e1:rfr ρ (b'.at a' (.inRegion ops (i::rest)::kk))=rfr (extR ρ w.heap.size W₁.heap.size) (b'.at a' (.inRegion ops (i::rest)::kk)):=rfr_agree (hcs _ List.mem_cons_self) (fun r hlt=>(hag r hlt).symm) (fun _=>rfl)
  have e2:cs.map (rfr ρ)=cs.map (rfr (extR ρ w.heap.size W₁.heap.size)):=rfrs_agree (fun r hlt=>(hag r hlt).symm) (fun _=>rfl) fun f hf=>hcs f (List.mem_cons_of_mem _ hf)
  have hfin:(rfr ρ (b'.at a' (.inRegion ops (i::rest)::kk))).finish (rv (extR ρ w.heap.size W₁.heap.size) v)=rfr (extR ρ w.heap.size W₁.heap.size) (b'.at (a'.put ((ops[i]?).bind (·.dst)) v) (.inRegion ops rest::kk)):=by
   rw[e1,rfr_at,rfr_at,Frame.finish_at,rn_put]
  rw[hfin] at hstep
  refine⟨_,W₁,es,by rw[e0,rfr_out];exact stepG_out (a:=a.rn (extR ρ w.heap.size W₁.heap.size)) [] todo hn hd hstep,⟨rfl,rfl,rfl,Nat.le_refl _,fun _ _ _=>rfl,fun e he=>?_⟩,?_⟩
  ·have:=touch_evG (ro:=fun _=>False) (hev e he)
   rw[touch_ext] at this
   exact this.mono fun b hb=> .inl hb
  ·rw[grow_same _ rfl,e2]
   exact Walks.co h hS1 (fun x hx=>by rwa[touch_ext] at hx) (ClA.put (P:=P) (hcs _ List.mem_cons_self) _ hv) (fun f hf=>hcs f (List.mem_cons_of_mem _ hf)) ⟨Nat.le_refl _,fun r hr=>extR_lt hr⟩
end
end Go.Ren
namespace Go.Loop
inductive Dt where
 |nil
 |sym (s:List UInt8)
 |num (n d:Int)
 |truth (n:Int)
 |chr (n:Int)
 |txt (i:Nat) (s:List UInt8)
 |pair (i:Nat) (a b:Dt)
 |vec (i:Nat) (l:Dt)
 |vnil
 |vcons (a l:Dt)
 |put (n:Int) (d:Dt)
 |ask (n:Int)
deriving DecidableEq
structure RSt where
 k:Nat
 fresh:Nat
 labs:List Int
deriving DecidableEq
structure Pl where
 depth:Nat
 passed:Bool
 ahead:List Int
inductive RR (α:Type) where
 |out
 |fail (e:Int) (at_:Nat)
 |ok (a:α) (s:RSt)
def RR.bind {α β:Type}(x:RR α)(f:α→RSt→RR β):RR β:=
 match x with
 | .out=> .out
 | .fail e a=> .fail e a
 | .ok a s=>f a s
def chainD:List Dt→Dt→Nat→Dt×Nat
 |[],rest,i=>(rest,i)
 |d::l,rest,i=>(.pair (chainD l rest i).2 d (chainD l rest i).1,(chainD l rest i).2+1)
def vecD:List Dt→Dt
 |[]=> .vnil
 |d::l=> .vcons d (vecD l)
def atomD (t:Tok)(s:RSt):RR Dt:=
 if t.kind=8 then .ok (.txt s.fresh t.text) { s with fresh:=s.fresh+1 }
 else if t.kind=9 then .ok (.chr t.n) s
 else if t.kind=12 then .ok (.truth t.n) s
 else if t.kind=14 then .ok (.sym t.text) s
 else if t.fault≠0 then .fail t.fault t.from_
 else .ok (.num t.n t.d) s
section
variable (T:List Tok) (deepest:Nat)
mutual
def rdDatum:Nat→Pl→RSt→RR Dt
 |0,_,_=> .out
 |n+1,p,s=>(rdTake n p s).bind fun t s=>rdFrom n t p s
def rdTake:Nat→Pl→RSt→RR Tok
 |0,_,_=> .out
 |n+1,p,s=>
  match T[s.k]? with
  |none=> .out
  |some t=>
   if t.kind=0 then .fail 4 t.from_
   else if t.kind=1 then .fail 3 t.from_
   else if t.kind=6 then(rdDatum n ⟨p.depth,true,[]⟩ { s with k:=s.k+1 }).bind fun _ s=>rdTake n p s
   else .ok t { s with k:=s.k+1 }
def rdFrom:Nat→Tok→Pl→RSt→RR Dt
 |0,_,_,_=> .out
 |n+1,t,p,s=>
  if t.kind=3∨t.kind=7 then .fail 3 t.from_
  else if t.kind=10 then
   (if p.passed∨t.n∈s.labs then .fail 5 t.from_
    else if p.depth=deepest then .fail 6 t.from_
    else(rdDatum n ⟨p.depth+1,p.passed,p.ahead++[t.n]⟩ { s with labs:=t.n::s.labs }).bind fun d s=> .ok (.put t.n d) s)
  else if t.kind=11 then(if p.passed∨t.n∉s.labs∨t.n∈p.ahead then .fail 5 t.from_ else .ok (.ask t.n) s)
  else if t.kind=2∨t.kind=5∨t.kind=4 then
   (if p.depth=deepest then .fail 6 t.from_
    else if t.kind=5 then(rdVec n [] ⟨p.depth+1,p.passed,[]⟩ { s with fresh:=s.fresh+1 }).bind fun l s'=> .ok (.vec s.fresh (vecD l)) s'
    else if t.kind=4 then(rdDatum n ⟨p.depth+1,p.passed,[]⟩ s).bind fun d s=> .ok (chainD [.sym [113,117,111,116,101],d] .nil s.fresh).1 { s with fresh:=s.fresh+2 }
    else rdList n [] ⟨p.depth+1,p.passed,[]⟩ s)
  else atomD t s
def rdList:Nat→List Dt→Pl→RSt→RR Dt
 |0,_,_,_=> .out
 |n+1,data,p,s=>
  (rdTake n p s).bind fun t s=>
    if t.kind=3 then .ok (chainD data .nil s.fresh).1 { s with fresh:=(chainD data .nil s.fresh).2 }
    else if t.kind=7∧data≠[] then
     (rdDatum n p s).bind fun rest s=>(rdTake n p s).bind fun t s=>
       if t.kind=3 then .ok (chainD data rest s.fresh).1 { s with fresh:=(chainD data rest s.fresh).2 } else .fail 3 t.from_
    else(rdFrom n t p s).bind fun d s=>rdList n (data++[d]) p s
def rdVec:Nat→List Dt→Pl→RSt→RR (List Dt)
 |0,_,_,_=> .out
 |n+1,data,p,s=>
  (rdTake n p s).bind fun t s=>
    if t.kind=3 then .ok data s
    else if data.length=20 then .fail 3 t.from_
    else(rdFrom n t p s).bind fun d s=>rdVec n (data++[d]) p s
end
end
def labD (n:Int):Dt→Option Dt
 | .put m d=>if m=n then some d else labD n d
 | .pair _ a b=>(labD n a).orElse fun _=>labD n b
 | .vec _ l=>labD n l
 | .vcons a l=>(labD n a).orElse fun _=>labD n l
 |_=>none
def meantD (root:Dt):Nat→Dt→Dt
 |0,d=>d
 |n+1,.put _ d=>meantD root n d
 |n+1,.ask m=>meantD root n ((labD m root).getD .nil)
 |_+1,d=>d
structure Nd0 where
 kind:Int
 text:List UInt8
 n:Int
 d:Int
 subs:List Nat
deriving DecidableEq
structure GSt where
 nodes:List Nd0
 met:List (Nat×Nat)
def GSt.add (g:GSt)(x:Nd0):GSt:={ g with nodes:=g.nodes++[x] }
def subsAt (l:List Nd0)(i:Nat)(s:List Nat):List Nd0:=l.modify i fun x=>{ x with subs:=s }
end Go.Loop
namespace Go.Proofs.YtlhimdjkkiflhaaGreatDoor
open Go.RowKit Go.Loop
structure Env where
 α:Nat→Nat
 lab:Int→Nat
def ptrV (b:Nat):Value:= .pointer (some ⟨b,0,none⟩)
mutual
def Dat (lo k:Nat)(L:List Int)(w:World)(E:Env):Dt→Value→Prop
 | .nil,v=>v= .iface 272 (.agg #[])
 | .sym s,v=>v= .iface 168 (.agg #[.string ⟨⟨s⟩⟩])
 | .num n d,v=>v= .iface 153 (.agg #[.int .i64 n,.int .i64 d])
 | .truth n,v=>v= .iface 155 (.agg #[.int .i64 n])
 | .chr n,v=>v= .iface 157 (.agg #[.int .i64 n])
 | .txt i s,v=>i<k∧lo≤E.α i∧v= .iface 158 (ptrV (E.α i))∧w.heap[E.α i]? =some (.cells #[.string ⟨⟨s⟩⟩] 218)
 | .pair i a b,v=>i<k∧lo≤E.α i∧v= .iface 150 (ptrV (E.α i))∧∃ va vb,w.heap[E.α i]? =some (.cells #[va,vb] 161)∧Dat lo k L w E a va∧Dat lo k L w E b vb
 | .vec i l,v=>i<k∧lo≤E.α i∧v= .iface 163 (ptrV (E.α i))∧∃ sl vs,w.heap[E.α i]? =some (.cells #[sl] 165)∧w.ownsRow lo 58 1 sl vs.length vs∧DatL lo k L w E l vs
 | .put n d,v=>n∈L∧lo≤E.lab n∧w.heap[E.lab n]? =some (.cells #[v] 215)∧Dat lo k L w E d v
 | .ask n,v=>n∈L∧v= .iface 212 (ptrV (E.lab n))
 | .vnil,_=>False
 | .vcons _ _,_=>False
def DatL (lo k:Nat)(L:List Int)(w:World)(E:Env):Dt→List Value→Prop
 | .vnil,vs=>vs=[]
 | .vcons a l,vs=>∃ v r,vs=v::r∧Dat lo k L w E a v∧DatL lo k L w E l r
 |_,_=>False
end
def Env.agree (E E':Env)(k:Nat)(L:List Int):Prop:=(∀ i,i<k→E'.α i=E.α i)∧∀ n∈L,E'.lab n=E.lab n
theorem ownsRow_from {w w':World}{lo lo':Nat}{e:TypeId}{z:Nat}{v:Value}{n:Nat}{xs:List Value}(h:w.ownsRow lo e z v n xs)(hl:lo'≤lo)(hk:∀ b,lo≤b→b<w.heap.size→w'.heap[b]? =w.heap[b]?):w'.ownsRow lo' e z v n xs:=by
 refine⟨h.1,h.2.imp id ?_⟩
 rintro ⟨g,cap,cur,h1,h2,h3,h4⟩
 exact⟨g,cap,cur,h1,by omega,(hk g h2 (Array.getElem?_eq_some_iff.1 h3).1).trans h3,h4⟩
mutual
theorem Dat.keep {lo lo' k k':Nat}{L L':List Int}{w w':World}{E E':Env}(hl:lo'≤lo)(hk:k≤k')(hL:∀ n∈L,n∈L')(hw:∀ b,lo≤b→b<w.heap.size→w'.heap[b]? =w.heap[b]?)(hE:E.agree E' k L):∀ (d:Dt) (v:Value),Dat lo k L w E d v→Dat lo' k' L' w' E' d v
 | .nil,v,h=>by unfold Dat at h ⊢;exact h
 | .sym s,v,h=>by unfold Dat at h ⊢;exact h
 | .num n d,v,h=>by unfold Dat at h ⊢;exact h
 | .truth n,v,h=>by unfold Dat at h ⊢;exact h
 | .chr n,v,h=>by unfold Dat at h ⊢;exact h
 | .txt i s,v,h=>by
   unfold Dat at h ⊢
   obtain⟨h1,h2,h3,h4⟩:=h
   rw[hE.1 i h1]
   exact⟨by omega,by omega,h3,(hw _ h2 (Array.getElem?_eq_some_iff.1 h4).1).trans h4⟩
 | .pair i a b,v,h=>by
   unfold Dat at h ⊢
   obtain⟨h1,h2,h3,va,vb,h4,h5,h6⟩:=h
   rw[hE.1 i h1]
   exact⟨by omega,by omega,h3,va,vb,(hw _ h2 (Array.getElem?_eq_some_iff.1 h4).1).trans h4,Dat.keep hl hk hL hw hE a va h5,Dat.keep hl hk hL hw hE b vb h6⟩
 | .vec i l,v,h=>by
   unfold Dat at h ⊢
   obtain⟨h1,h2,h3,sl,vs,h4,h5,h6⟩:=h
   rw[hE.1 i h1]
   exact⟨by omega,by omega,h3,sl,vs,(hw _ h2 (Array.getElem?_eq_some_iff.1 h4).1).trans h4,ownsRow_from h5 hl hw,DatL.keep hl hk hL hw hE l vs h6⟩
 | .put n d,v,h=>by
   unfold Dat at h ⊢
   obtain⟨h1,h2,h3,h4⟩:=h
   rw[hE.2 n h1]
   exact⟨hL n h1,by omega,(hw _ h2 (Array.getElem?_eq_some_iff.1 h3).1).trans h3,Dat.keep hl hk hL hw hE d v h4⟩
 | .ask n,v,h=>by
   unfold Dat at h ⊢
   rw[hE.2 n h.1]
   exact⟨hL n h.1,h.2⟩
 | .vnil,v,h=>by unfold Dat at h;exact h.elim
 | .vcons a l,v,h=>by unfold Dat at h;exact h.elim
theorem DatL.keep {lo lo' k k':Nat}{L L':List Int}{w w':World}{E E':Env}(hl:lo'≤lo)(hk:k≤k')(hL:∀ n∈L,n∈L')(hw:∀ b,lo≤b→b<w.heap.size→w'.heap[b]? =w.heap[b]?)(hE:E.agree E' k L):∀ (d:Dt) (vs:List Value),DatL lo k L w E d vs→DatL lo' k' L' w' E' d vs
 | .vnil,vs,h=>by unfold DatL at h ⊢;exact h
 | .vcons a l,vs,h=>by
   unfold DatL at h ⊢
   obtain⟨v,r,rfl,h1,h2⟩:=h
   exact⟨v,r,rfl,Dat.keep hl hk hL hw hE a v h1,DatL.keep hl hk hL hw hE l r h2⟩
 | .nil,vs,h=>by unfold DatL at h;exact h.elim
 | .sym _,vs,h=>by unfold DatL at h;exact h.elim
 | .num _ _,vs,h=>by unfold DatL at h;exact h.elim
 | .truth _,vs,h=>by unfold DatL at h;exact h.elim
 | .chr _,vs,h=>by unfold DatL at h;exact h.elim
 | .txt _ _,vs,h=>by unfold DatL at h;exact h.elim
 | .pair _ _ _,vs,h=>by unfold DatL at h;exact h.elim
 | .vec _ _,vs,h=>by unfold DatL at h;exact h.elim
 | .put _ _,vs,h=>by unfold DatL at h;exact h.elim
 | .ask _,vs,h=>by unfold DatL at h;exact h.elim
end
def MapAt (w:World)(M:Nat)(l:List (Value×Value)):Prop:=∃ es clock,w.heap[M]? =some (.map es clock)∧es.toList.map (fun e=>(e.key,e.val))=l
theorem findNow_int:∀ (es:List MapEntry) (l:List (Int×Value)) (n:Int) (i:Nat),es.map (fun e=>(e.key,e.val))=l.map (fun p=>(Value.int .i64 p.1,p.2))→
 ∃ j,Instr.findNow (.int .i64) (.int .i64 n) es i=some ((l.lookup n).map fun v=>(j,v))
 |[],[],n,i,_=>⟨0,rfl⟩
 |[],_::_,_,_,h=>by simp at h
 |_::_,[],_,_,h=>by simp at h
 |e::es,(m,v)::l,n,i,h=>by
  simp only[List.map_cons,List.cons.injEq,Prod.mk.injEq] at h
  obtain⟨⟨h1,h2⟩,h3⟩:=h
  unfold Instr.findNow
  rw[h1]
  by_cases hn:n=m
  ·subst hn
   refine⟨i,?_⟩
   simp[Instr.sameNow,List.lookup,h2]
  ·obtain⟨j,hj⟩:=findNow_int es l n (i+1) h3
   refine⟨j,?_⟩
   have:(n==m)=false:=by simpa using hn
   simp[Instr.sameNow,this,List.lookup,hj]
theorem under66:Tryz.prog.underlying 121=some (.map 3 212):=by kernel_rfl
theorem underI:Tryz.prog.underlying 3=some (.int .i64):=by kernel_rfl
theorem checkInt (b:Bool)(n:Int)(w:World):(Instr.checkKey b 10000 3 (.int .i64 n)).run Tryz.prog w= .ok () w:=by
 unfold Instr.checkKey
 simp[run_underlying underI]
theorem run_labLook {w:World}{M:Nat}{l:List (Int×Value)}(h:MapAt w M (l.map fun p=>(Value.int .i64 p.1,p.2)))(n:Int):
 (Instr.lookup 121 (.map (some M)) (.int .i64 n) false).run Tryz.prog w= .ok ((l.lookup n).getD (.pointer none)) w:=by
 obtain⟨es,clock,h1,h2⟩:=h
 obtain⟨j,hj⟩:=findNow_int es.toList l n 0 h2
 have hg:(getObj M).run Tryz.prog w= .ok (.map es clock) w:=by simp[getObj,Sem.run,h1]
 unfold Instr.lookup Instr.findKey
 simp only[Sem.run_bind,run_underlying under66,Result.andThen_ok,hg,Sem.run_pure,checkInt,run_underlying underI,hj]
 cases hq:l.lookup n with
 |none=>simp
 |some v=>simp
theorem run_labPut {w:World}{M:Nat}{l:List (Int×Value)}(h:MapAt w M (l.map fun p=>(Value.int .i64 p.1,p.2)))(n:Int)(hn:l.lookup n=none)(v:Value):
 ∃ o,(Instr.mapUpdate 121 (.map (some M)) (.int .i64 n) v).run Tryz.prog w= .ok () { w with heap:=w.heap.setIfInBounds M o }∧MapAt { w with heap:=w.heap.setIfInBounds M o } M ((l++[(n,v)]).map fun p=>(Value.int .i64 p.1,p.2)):=by
 obtain⟨es,clock,h1,h2⟩:=h
 obtain⟨j,hj⟩:=findNow_int es.toList l n 0 h2
 rw[hn] at hj
 have hlt:M<w.heap.size:=(Array.getElem?_eq_some_iff.1 h1).1
 have hg:(getObj M).run Tryz.prog w= .ok (.map es clock) w:=by simp[getObj,Sem.run,h1]
 refine⟨.map (es.push { key:= .int .i64 n,val:=v,born:=clock }) (clock+1),?_,es.push { key:= .int .i64 n,val:=v,born:=clock },clock+1,?_,?_⟩
 ·unfold Instr.mapUpdate Instr.findKey
  simp only[Sem.run_bind,run_underlying under66,Result.andThen_ok,hg,Sem.run_pure,checkInt,run_underlying underI,hj]
  simp[setObj,Sem.run,h1]
 ·show(w.heap.setIfInBounds M _)[M]? =_
  rw[Array.getElem?_setIfInBounds_self_of_lt hlt]
 ·simp[h2]
end Go.Proofs.YtlhimdjkkiflhaaGreatDoor
namespace Go.Loop
def RR.good {α:Type}(T:List Tok)(k:Nat)(r:RR α):Prop:=
 match r with
 | .out=>False
 | .fail _ _=>True
 | .ok _ s'=>k≤s'.k∧s'.k<T.length
theorem RR.good_bind {α β:Type}{T:List Tok}{k j:Nat}{x:RR α}{f:α→RSt→RR β}(h:x.good T k)(hf:∀ a s,k≤s.k→s.k<T.length→(f a s).good T j):(x.bind f).good T j:=by
 cases x with
 |out=>exact h
 |fail e a=>trivial
 |ok a s=>exact hf a s h.1 h.2
theorem RR.good_mono {α:Type}{T:List Tok}{k j:Nat}{x:RR α}(h:x.good T k)(hj:j≤k):x.good T j:=by
 cases x with
 |out=>exact h
 |fail e a=>trivial
 |ok a s=>exact⟨Nat.le_trans hj h.1,h.2⟩
section
variable (T:List Tok) (dp:Nat)
structure Fuel (n:Nat):Prop where
 datum:∀ p s,s.k<T.length→2*(T.length-s.k)+2≤n→(rdDatum T dp n p s).good T (s.k+1)
 take:∀ p s,s.k<T.length→2*(T.length-s.k)+1≤n→(rdTake T dp n p s).good T (s.k+1)
 frm:∀ t p s,s.k<T.length→2*(T.length-s.k)+3≤n→(rdFrom T dp n t p s).good T s.k
 list:∀ l p s,s.k<T.length→2*(T.length-s.k)+2≤n→(rdList T dp n l p s).good T (s.k+1)
 vec:∀ l p s,s.k<T.length→2*(T.length-s.k)+2≤n→(rdVec T dp n l p s).good T (s.k+1)
theorem atomD_good (t:Tok)(s:RSt)(h:s.k<T.length):(atomD t s).good T s.k:=by
 unfold atomD
 repeat' split
 all_goals first|trivial|exact⟨Nat.le_refl _,h⟩
theorem fuel (hT:∀ k t,T[k]? =some t→t.kind≠0→t.kind≠1→k+1<T.length):∀ n,Fuel T dp n
 |0=>⟨fun _ _ _ h=>by omega,fun _ _ _ h=>by omega,fun _ _ _ _ h=>by omega,fun _ _ _ _ h=>by omega,fun _ _ _ _ h=>by omega⟩
 |n+1=>by
  have ih:=fuel hT n
  refine⟨fun p s hk hn=>?_,fun p s hk hn=>?_,fun t p s hk hn=>?_,fun l p s hk hn=>?_,fun l p s hk hn=>?_⟩
  ·unfold rdDatum
   refine RR.good_bind (ih.take p s hk (by omega)) fun t s1 h1 h2=>?_
   exact RR.good_mono (ih.frm t p s1 h2 (by omega)) h1
  ·unfold rdTake
   have hs:T[s.k]? =some T[s.k]:=List.getElem?_eq_getElem hk
   rw[hs]
   dsimp only
   split
   ·trivial
   ·rename_i h0
    split
    ·trivial
    ·rename_i h1
     have hlt:=hT s.k _ hs h0 h1
     split
     ·refine RR.good_bind (ih.datum ⟨p.depth,true,[]⟩ { s with k:=s.k+1 } hlt (by show 2*(T.length-(s.k+1))+2≤n;omega)) fun d s1 h2 h3=>?_
      have h2':s.k+1+1≤s1.k:=h2
      exact RR.good_mono (ih.take p s1 h3 (by omega)) (by omega)
     ·exact⟨Nat.le_refl _,hlt⟩
  ·unfold rdFrom
   split
   ·trivial
   ·split
    ·split
     ·trivial
     ·split
      ·trivial
      ·exact RR.good_bind (k:=s.k+1) (ih.datum _ { s with labs:=t.n::s.labs } hk (by show 2*(T.length-s.k)+2≤n;omega)) fun d s1 h1 h2=>⟨by omega,h2⟩
    ·split
     ·split
      ·trivial
      ·exact⟨Nat.le_refl _,hk⟩
     ·split
      ·split
       ·trivial
       ·split
        ·exact RR.good_bind (k:=s.k+1) (ih.vec [] _ { s with fresh:=s.fresh+1 } hk (by show 2*(T.length-s.k)+2≤n;omega)) fun d s1 h1 h2=>⟨by omega,h2⟩
        ·split
         ·exact RR.good_bind (k:=s.k+1) (ih.datum _ s hk (by omega)) fun d s1 h1 h2=>⟨by show s.k≤s1.k;omega,h2⟩
         ·exact RR.good_mono (ih.list [] _ s hk (by omega)) (by omega)
      ·exact atomD_good T t s hk
  ·unfold rdList
   refine RR.good_bind (ih.take p s hk (by omega)) fun t s1 h1 h2=>?_
   split
   ·exact⟨h1,h2⟩
   ·split
    ·refine RR.good_bind (ih.datum p s1 h2 (by omega)) fun d s2 h3 h4=>?_
     refine RR.good_bind (ih.take p s2 h4 (by omega)) fun t2 s3 h5 h6=>?_
     split
     ·exact⟨by show s.k+1≤s3.k;omega,h6⟩
     ·trivial
    ·refine RR.good_bind (ih.frm t p s1 h2 (by omega)) fun d s2 h3 h4=>?_
     exact RR.good_mono (ih.list _ p s2 h4 (by omega)) (by omega)
  ·unfold rdVec
   refine RR.good_bind (ih.take p s hk (by omega)) fun t s1 h1 h2=>?_
   split
   ·exact⟨h1,h2⟩
   ·split
    ·trivial
    ·refine RR.good_bind (ih.frm t p s1 h2 (by omega)) fun d s2 h3 h4=>?_
     exact RR.good_mono (ih.vec _ p s2 h4 (by omega)) (by omega)
end
theorem gather_last:∀ (n:Nat) (s:List UInt8) (a:Nat),a≤s.length→s.length-a<n→gatherP n s a≠[]∧∀ k t,(gatherP n s a)[k]? =some t→t.kind≠0→t.kind≠1→k+1<(gatherP n s a).length
 |0,s,a,_,h=>by omega
 |n+1,s,a,ha,h=>by
  have hf:=fine_next ha
  rw[gatherP]
  split
  ·rename_i hl
   refine⟨by simp,fun k t hk h0 h1=>?_⟩
   cases k with
   |zero=>
    simp at hk
    subst hk
    simp[Tok.lastB] at hl
    omega
   |succ k=>simp at hk
  ·rename_i hl
   have hl':(nextP s a).lastB=false:=by simpa using hl
   have h2:=hf.2.2 hl'
   have h3:=hf.2.1
   have ih:=gather_last n s (nextP s a).to_ hf.2.1 (by omega)
   refine⟨by simp,fun k t hk h0 h1=>?_⟩
   cases k with
   |zero=>
    have:0<(gatherP n s (nextP s a).to_).length:=List.length_pos_iff.2 ih.1
    simp only[List.length_cons];omega
   |succ k=>
    rw[List.getElem?_cons_succ] at hk
    have:=ih.2 k t hk h0 h1
    simp only[List.length_cons];omega
theorem gather_le:∀ (n:Nat) (s:List UInt8) (a:Nat),(gatherP n s a).length≤n
 |0,s,a=>Nat.le_refl _
 |n+1,s,a=>by
  have:=gather_le n s (nextP s a).to_
  rw[gatherP]
  split
  ·simp
  ·simp;exact this
def Dt.hd:Dt→Bool
 | .put _ _| .ask _| .vnil | .vcons _ _=>false
 |_=>true
section
variable (root:Dt)
mutual
def numN:Nat→Dt→GSt→Option (Nat×GSt)
 |0,_,_=>none
 |n+1,d,g=>
  match meantD root 200000 d with
  | .pair i a b=>
    match g.met.lookup i with
    |some k=>some (k,g)
    |none=>(numL n (.vcons a (.vcons b .vnil)) [] ⟨g.nodes++[⟨1,[],0,0,[]⟩],(i,g.nodes.length)::g.met⟩).map fun y=>(g.nodes.length,{ y.2 with nodes:=subsAt y.2.nodes g.nodes.length y.1 })
  | .vec i l=>
    match g.met.lookup i with
    |some k=>some (k,g)
    |none=>(numL n l [] ⟨g.nodes++[⟨2,[],0,0,[]⟩],(i,g.nodes.length)::g.met⟩).map fun y=>(g.nodes.length,{ y.2 with nodes:=subsAt y.2.nodes g.nodes.length y.1 })
  | .txt i s=>
    match g.met.lookup i with
    |some k=>some (k,g)
    |none=>some (g.nodes.length,⟨g.nodes++[⟨3,s,0,0,[]⟩],(i,g.nodes.length)::g.met⟩)
  | .sym s=>some (g.nodes.length,g.add ⟨4,s,0,0,[]⟩)
  | .num a b=>some (g.nodes.length,g.add ⟨5,[],a,b,[]⟩)
  | .truth a=>some (g.nodes.length,g.add ⟨6,[],a,0,[]⟩)
  | .chr a=>some (g.nodes.length,g.add ⟨7,[],a,0,[]⟩)
  |_=>some (g.nodes.length,g.add ⟨0,[],0,0,[]⟩)
def numL:Nat→Dt→List Nat→GSt→Option (List Nat×GSt)
 |0,_,_,_=>none
 |n+1,l,acc,g=>
  match l with
  | .vnil=>some (acc,g)
  | .vcons a l=>(numN n a g).bind fun x=>numL n l (acc++[x.1]) x.2
  |_=>none
end
end
def readN (text:List UInt8)(depth:Int):Option (List Nd0×Nat×Int):=
 if depth<0∨30<depth then some ([],0,1)
 else if 400<text.length then some ([],0,2)
 else
  match rdDatum (gatherP (text.length+1) text 0) depth.toNat 2000 ⟨0,false,[]⟩ ⟨0,0,[]⟩ with
  | .out=>none
  | .fail e a=>some ([],a,e)
  | .ok d s=>(numN d 100000 d ⟨[],[]⟩).map fun g=>if 150<g.2.nodes.length then([],0,2) else(g.2.nodes,(((gatherP (text.length+1) text 0)[s.k-1]?).map (·.to_)).getD 0,0)
end Go.Loop
