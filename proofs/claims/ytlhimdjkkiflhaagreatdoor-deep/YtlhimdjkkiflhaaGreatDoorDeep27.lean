import Derived.Test.YtlhimdjkkiflhaaGreatDoorDeep26
namespace Go.Proofs.YtlhimdjkkiflhaaGreatDoor
open Go.RowKit Go.Loop
section
variable {R M g cap:Nat} {T:List Tok} {dp:Nat}
theorem OkD.from {A:Option Nat}{w w2 w':World}{E:Env}{s:RSt}{r:RR Dt}{e:Ending}(h:OkD R M g cap T dp A w2 E s r e w')(hk:Kp R M w w2):OkD R M g cap T dp A w E s r e w':=by
 cases r with
 |out=>trivial
 |fail er a=>exact⟨h.1,(hk.a A).trans h.2⟩
 |ok d s'=>
  obtain⟨v,E',h1,h2,h3,h4,h5,h6⟩:=h
  exact⟨v,E',h1,h2,Dat.keep hk.size (Nat.le_refl _) (fun _ h=>h) (fun _ _ _=>rfl) ⟨fun _ _=>rfl,fun _ _=>rfl⟩ d v h3,Ext.wid h4 hk.size (Nat.le_refl _),h5,(hk.a A).trans h6⟩
set_option maxHeartbeats 8000000 in
set_option maxRecDepth 100000 in
theorem holder_step {n:Nat}(ih:∀ m,m≤n→IH R M g cap T dp m)(t:Tok)(p:Pl)(a0:Option Addr)(n0 c0:Nat)(w:World)(E:Env)(s:RSt)(hr:RdAt w R M g cap T dp E s)(hd:p.depth≤dp∧p.ahead.length≤p.depth)(r:RR Dt)
 (hrd:r=if p.depth=dp then .fail 6 t.from_
   else if t.kind=5 then(rdVec T dp n [] ⟨p.depth+1,p.passed,[]⟩ { s with fresh:=s.fresh+1 }).bind fun l s'=> .ok (.vec s.fresh (vecD l)) s'
   else if t.kind=4 then(rdDatum T dp n ⟨p.depth+1,p.passed,[]⟩ s).bind fun d s=> .ok (chainD [.sym [113,117,111,116,101],d] .nil s.fresh).1 { s with fresh:=s.fresh+2 }
   else rdList T dp n [] ⟨p.depth+1,p.passed,[]⟩ s)(ho:r≠ .out):
 Calls Tryz.prog 162 #[ptrV R,tkV t,plV p.depth p.passed (.slice a0 n0 c0)] w fun e w'=>OkD R M g cap T dp none w E s r e w':=by
 have mixed:Tryz.prog.follows Departure.mixedOrders=true:=by kernel_rfl
 have hrR:R<w.heap.size:=hr.lt
 have hdp:=hr.deep
 have hb0:Below w.heap.size w ((w.alloc (.cells #[.int .i64 t.kind,.int .i64 t.from_,.int .i64 t.to_,.string ⟨⟨t.text⟩⟩,.int .i64 t.n,.int .i64 t.d,.int .i64 t.fault] 131)).alloc (.cells #[.int .i64 p.depth,.bool p.passed,.slice a0 n0 c0] 128)):=((Below.refl _ w).alloc (Nat.le_refl _) _).alloc (by simp) _
 have hs0:((w.alloc (.cells #[.int .i64 t.kind,.int .i64 t.from_,.int .i64 t.to_,.string ⟨⟨t.text⟩⟩,.int .i64 t.n,.int .i64 t.d,.int .i64 t.fault] 131)).alloc (.cells #[.int .i64 p.depth,.bool p.passed,.slice a0 n0 c0] 128)).heap.size=w.heap.size+1+1:=by simp
 have hP:((w.alloc (.cells #[.int .i64 t.kind,.int .i64 t.from_,.int .i64 t.to_,.string ⟨⟨t.text⟩⟩,.int .i64 t.n,.int .i64 t.d,.int .i64 t.fault] 131)).alloc (.cells #[.int .i64 p.depth,.bool p.passed,.slice a0 n0 c0] 128)).heap[w.heap.size+1]? =some (.cells #[.int .i64 p.depth,.bool p.passed,.slice a0 n0 c0] 128):=alloc2_at w _ _
 have hT:((w.alloc (.cells #[.int .i64 t.kind,.int .i64 t.from_,.int .i64 t.to_,.string ⟨⟨t.text⟩⟩,.int .i64 t.n,.int .i64 t.d,.int .i64 t.fault] 131)).alloc (.cells #[.int .i64 p.depth,.bool p.passed,.slice a0 n0 c0] 128)).heap[w.heap.size]? =some (.cells #[.int .i64 t.kind,.int .i64 t.from_,.int .i64 t.to_,.string ⟨⟨t.text⟩⟩,.int .i64 t.n,.int .i64 t.d,.int .i64 t.fault] 131):=(Lib.alloc_old _ _ _ (by simp)).trans (heap_alloc_new w _)
 have hr0:=hr.below hb0
 have hc0:((w.alloc (.cells #[.int .i64 t.kind,.int .i64 t.from_,.int .i64 t.to_,.string ⟨⟨t.text⟩⟩,.int .i64 t.n,.int .i64 t.d,.int .i64 t.fault] 131)).alloc (.cells #[.int .i64 p.depth,.bool p.passed,.slice a0 n0 c0] 128)).cell? ⟨R,2,none⟩=some (.int .i64 dp):=(cells4 hr0.blk).1.2.2.1
 have HK0:Hid (Kp R M w ((w.alloc (.cells #[.int .i64 t.kind,.int .i64 t.from_,.int .i64 t.to_,.string ⟨⟨t.text⟩⟩,.int .i64 t.n,.int .i64 t.d,.int .i64 t.fault] 131)).alloc (.cells #[.int .i64 p.depth,.bool p.passed,.slice a0 n0 c0] 128))):=Kp.of_below hb0
 have HR0:Hid _:=hr0
 have HI:Hid _:=ih
 have HO:Hid _:=ho
 have HRD:Hid _:=hrd
 have HT:Hid _:=hT
 by_cases hdd:p.depth=dp
 ·have HE:Hid (r= .fail 6 t.from_):=by show _=_;rw[hrd,if_pos hdd]
  have HC:Hid _:=deeper_fail R dp t p.depth p.passed a0 n0 c0 _ hc0 (by omega) hdd
  clear hr hr0 hb0 ih ho hrd hdd hc0 hP hT
  unfold plV ptrV tkV at HC ⊢
  go_enter Tryz.func162,Tryz.ntmps162
  go_wp2_with fail
  refine Calls.mono HC.out ?_
  rintro e w1 ⟨b,rfl,hf,hb1⟩
  have HF:Hid _:=hf
  have HK1:Hid _:=Kp.trans HK0.out (Kp.of_below hb1)
  clear hf hb1 HC
  go_wp2_with fail
  go_ret2
  rw[HE.out]
  exact⟨⟨b,rfl,FaultAt.alloc HF.out _⟩,(Kp.trans HK1.out (Kp.of_below ((Below.refl _ _).alloc (Nat.le_refl _) _))).a none⟩
 ·have HC:Hid _:=deeper_ok R dp t p.depth p.passed a0 n0 c0 _ hc0 (by omega) (by omega) hdd
  have HE:Hid _:=hrd.trans (if_neg hdd)
  have hd1:p.depth+1≤dp:=by omega
  clear hr hr0 hb0 ih ho hrd hdd hc0 hP hT
  unfold plV ptrV tkV at HC ⊢
  go_enter Tryz.func162,Tryz.ntmps162
  go_wp2_with fail
  refine Calls.mono HC.out ?_
  rintro e w1 ⟨rfl,hb1⟩
  have hs1:=hb1.size
  have ht1:=(hb1.block w.heap.size (by omega)).trans HT.out
  obtain⟨⟨o0,o1,o2,o3,o4,o5,o6⟩,-⟩:=cells7 (Below.refl _ _) ht1
  have n1:¬ w.heap.size=w1.heap.size:=by omega
  have n2:w.heap.size<w1.heap.size:=by omega
  have hb2:Below w1.heap.size w1 (w1.alloc (.cells #[.int .i64 (p.depth+1),.bool p.passed,.slice none 0 0] 128)):=(Below.refl _ _).alloc (Nat.le_refl _) _
  have HR2:Hid _:=(RdAt.below HR0.out hb1).below hb2
  have HK2:Hid _:=(Kp.trans HK0.out (Kp.of_below hb1)).trans (Kp.of_below hb2)
  clear hb1 hb2 HC ht1
  by_cases k5:t.kind=5
  ·have q5:(((t.kind:Nat):Int)==5)=true:=by rw[k5];rfl
   have HE2:Hid _:=HE.out.trans (if_pos k5)
   clear k5
   cases n with
   |zero=>exact absurd (by rw[HE2.out];unfold rdVec;rfl) HO.out
   |succ n=>
    have HC:Hid _:=rdVector_step (N:=n) (fun m hm=>HI.out m (by omega)) ⟨p.depth+1,p.passed,[]⟩ rfl _ E s HR2.out ⟨hd1,Nat.zero_le _⟩ r HE2.out HO.out
    unfold plV ptrV at HC
    go_wp2_with fail
    refine Calls.mono HC.out ?_
    intro e w3 hok
    have hok':=OkD.from hok HK2.out
    clear hok
    cases r with
    |out=>exact absurd rfl HO.out
    |fail er a=>
     obtain⟨⟨b,rfl,hf⟩,hk2⟩:=hok'
     have HG:Hid (OkD R M g cap T dp none w E s (RR.fail er a) (.returned (.tuple #[.nilIface,ptrV b])) w3):=⟨⟨b,rfl,hf⟩,hk2⟩
     clear hf hk2
     unfold ptrV
     go_wp2_with fail
     go_ret2
     exact HG.out
    |ok d s2=>
     obtain⟨v,E2,rfl,⟨ty,y,rfl⟩,hdat,hx2,hr2,hk2⟩:=hok'
     have HG:Hid (OkD R M g cap T dp none w E s (RR.ok d s2) (.returned (.tuple #[.iface ty y,.pointer none])) w3):=⟨.iface ty y,E2,rfl,⟨ty,y,rfl⟩,hdat,hx2,hr2,hk2⟩
     clear hdat hx2 hr2 hk2
     go_wp2_with fail
     go_ret2
     exact HG.out
  have q5:(((t.kind:Nat):Int)==5)=false:=by rw[beq_eq_false_iff_ne];omega
  by_cases k4:t.kind=4
  ·have q4:(((t.kind:Nat):Int)==4)=true:=by rw[k4];rfl
   have HE2:Hid _:=(HE.out.trans (if_neg k5)).trans (if_pos k4)
   clear k5 k4
   ·have HC:Hid _:=quote_step (HI.out n (by omega)) ⟨p.depth+1,p.passed,[]⟩ rfl _ E s HR2.out ⟨hd1,Nat.zero_le _⟩ r HE2.out HO.out
    unfold plV ptrV at HC
    go_wp2_with fail
    refine Calls.mono HC.out ?_
    intro e w3 hok
    have hok':=OkD.from hok HK2.out
    clear hok
    cases r with
    |out=>exact absurd rfl HO.out
    |fail er a=>
     obtain⟨⟨b,rfl,hf⟩,hk2⟩:=hok'
     have HG:Hid (OkD R M g cap T dp none w E s (RR.fail er a) (.returned (.tuple #[.nilIface,ptrV b])) w3):=⟨⟨b,rfl,hf⟩,hk2⟩
     clear hf hk2
     unfold ptrV
     go_wp2_with fail
     go_ret2
     exact HG.out
    |ok d s2=>
     obtain⟨v,E2,rfl,⟨ty,y,rfl⟩,hdat,hx2,hr2,hk2⟩:=hok'
     have HG:Hid (OkD R M g cap T dp none w E s (RR.ok d s2) (.returned (.tuple #[.iface ty y,.pointer none])) w3):=⟨.iface ty y,E2,rfl,⟨ty,y,rfl⟩,hdat,hx2,hr2,hk2⟩
     clear hdat hx2 hr2 hk2
     go_wp2_with fail
     go_ret2
     exact HG.out
  ·have q4:(((t.kind:Nat):Int)==4)=false:=by rw[beq_eq_false_iff_ne];omega
   have HE2:Hid _:=(HE.out.trans (if_neg k5)).trans (if_neg k4)
   clear k5 k4
   cases n with
   |zero=>exact absurd (by rw[HE2.out];unfold rdList;rfl) HO.out
   |succ n=>
    have HC:Hid _:=list_step (N:=n) (fun m hm=>HI.out m (by omega)) ⟨p.depth+1,p.passed,[]⟩ rfl _ E s HR2.out ⟨hd1,Nat.zero_le _⟩ (by rw[←HE2.out];exact HO.out)
    rw[←HE2.out] at HC
    unfold plV ptrV at HC
    go_wp2_with fail
    refine Calls.mono HC.out ?_
    intro e w3 hok
    have hok':=OkD.from hok HK2.out
    clear hok
    cases r with
    |out=>exact absurd rfl HO.out
    |fail er a=>
     obtain⟨⟨b,rfl,hf⟩,hk2⟩:=hok'
     have HG:Hid (OkD R M g cap T dp none w E s (RR.fail er a) (.returned (.tuple #[.nilIface,ptrV b])) w3):=⟨⟨b,rfl,hf⟩,hk2⟩
     clear hf hk2
     unfold ptrV
     go_wp2_with fail
     go_ret2
     exact HG.out
    |ok d s2=>
     obtain⟨v,E2,rfl,⟨ty,y,rfl⟩,hdat,hx2,hr2,hk2⟩:=hok'
     have HG:Hid (OkD R M g cap T dp none w E s (RR.ok d s2) (.returned (.tuple #[.iface ty y,.pointer none])) w3):=⟨.iface ty y,E2,rfl,⟨ty,y,rfl⟩,hdat,hx2,hr2,hk2⟩
     clear hdat hx2 hr2 hk2
     go_wp2_with fail
     go_ret2
     exact HG.out
end
section
variable (R M g cap:Nat) (T:List Tok) (dp:Nat)
def PutOk (n:Nat):Prop:=∀ (t:Tok) (p:Pl) (a0:Option Addr) (n0 c0:Nat) (w:World) (E:Env) (s:RSt) (r:RR Dt),RdAt w R M g cap T dp E s→AhAt w E s p.ahead (.slice a0 n0 c0)→(p.depth≤dp∧p.ahead.length≤p.depth)→(r=if p.passed∨t.n∈s.labs then .fail 5 t.from_
 else if p.depth=dp then .fail 6 t.from_
 else(rdDatum T dp n ⟨p.depth+1,p.passed,p.ahead++[t.n]⟩ { s with labs:=t.n::s.labs }).bind fun d s=> .ok (.put t.n d) s)→r≠ .out→
    Calls Tryz.prog 160 #[ptrV R,tkV t,plV p.depth p.passed (.slice a0 n0 c0)] w fun e w'=>OkD R M g cap T dp (Value.slice a0 n0 c0).ownBlock w E s r e w'
def AskOk:Prop:=∀ (t:Tok) (p:Pl) (a0:Option Addr) (n0 c0:Nat) (w:World) (E:Env) (s:RSt) (r:RR Dt),RdAt w R M g cap T dp E s→AhAt w E s p.ahead (.slice a0 n0 c0)→(p.depth≤dp∧p.ahead.length≤p.depth)→(r=if p.passed∨t.n∉s.labs∨t.n∈p.ahead then .fail 5 t.from_ else .ok (.ask t.n) s)→
    Calls Tryz.prog 161 #[ptrV R,tkV t,plV p.depth p.passed (.slice a0 n0 c0)] w fun e w'=>OkD R M g cap T dp none w E s r e w'
end
section
variable {R M g cap:Nat} {T:List Tok} {dp:Nat}
theorem KpA.up {w w':World}(h:KpA R M none w w')(A:Option Nat):KpA R M A w w':=h.plain.a A
set_option maxHeartbeats 8000000 in
set_option maxRecDepth 100000 in
theorem frm_step {n:Nat}(ih:∀ m,m≤n→IH R M g cap T dp m)(hput:PutOk R M g cap T dp n)(hask:AskOk R M g cap T dp)(t:Tok)(p:Pl)(av:Value)(w:World)(E:Env)(s:RSt)(hr:RdAt w R M g cap T dp E s)(ha:AhAt w E s p.ahead av)(hd:p.depth≤dp∧p.ahead.length≤p.depth)(ho:rdFrom T dp (n+1) t p s≠ .out):
 Calls Tryz.prog 106 #[ptrV R,tkV t,plV p.depth p.passed av] w fun e w'=>OkD R M g cap T dp av.ownBlock w E s (rdFrom T dp (n+1) t p s) e w':=by
 have mixed:Tryz.prog.follows Departure.mixedOrders=true:=by kernel_rfl
 obtain⟨⟨a0,n0,c0,rfl⟩⟩:=(⟨ha.2.1⟩:Nonempty _)
 have hrR:R<w.heap.size:=hr.lt
 generalize hrd:rdFrom T dp (n+1) t p s=r at *
 have hrd':=hrd.symm
 unfold rdFrom at hrd'
 clear hrd
 have hb0:Below w.heap.size w ((w.alloc (.cells #[.int .i64 t.kind,.int .i64 t.from_,.int .i64 t.to_,.string ⟨⟨t.text⟩⟩,.int .i64 t.n,.int .i64 t.d,.int .i64 t.fault] 131)).alloc (.cells #[.int .i64 p.depth,.bool p.passed,.slice a0 n0 c0] 128)):=((Below.refl _ w).alloc (Nat.le_refl _) _).alloc (by simp) _
 have HK0:Hid (Kp R M w ((w.alloc (.cells #[.int .i64 t.kind,.int .i64 t.from_,.int .i64 t.to_,.string ⟨⟨t.text⟩⟩,.int .i64 t.n,.int .i64 t.d,.int .i64 t.fault] 131)).alloc (.cells #[.int .i64 p.depth,.bool p.passed,.slice a0 n0 c0] 128))):=Kp.of_below hb0
 have HR0:Hid _:=hr.below hb0
 have HA0:Hid _:=ha.below hb0
 have HO:Hid _:=ho
 by_cases k37:t.kind=3∨t.kind=7
 ·have HE:Hid (r= .fail 3 t.from_):=hrd'.trans (if_pos k37)
  clear hrd' hb0 hr ha ih hput hask
  have hq:(((t.kind:Nat):Int)==3)=true∨((((t.kind:Nat):Int)==3)=false∧(((t.kind:Nat):Int)==7)=true):=by
   rcases k37 with h|h
   ·exact .inl (by rw[h];rfl)
   ·exact .inr ⟨by rw[h];rfl,by rw[h];rfl⟩
  clear k37
  unfold plV ptrV tkV
  rcases hq with q3|⟨q3,q7⟩
  all_goals
   go_enter Tryz.func106,Tryz.ntmps106
   go_wp2_with fail
   go_region
   go_wp2_with fail
   go_ret2
   rw[HE.out]
   refine⟨⟨w.heap.size+1+1,rfl,?_⟩,(Kp.trans HK0.out (Kp.of_below (((Below.refl _ _).alloc (Nat.le_refl _) _).drew))).a _⟩
   exact(show _=_ from by rw[show w.heap.size+1+1=((w.alloc (.cells #[.int .i64 t.kind,.int .i64 t.from_,.int .i64 t.to_,.string ⟨⟨t.text⟩⟩,.int .i64 t.n,.int .i64 t.d,.int .i64 t.fault] 131)).alloc (.cells #[.int .i64 p.depth,.bool p.passed,.slice a0 n0 c0] 128)).heap.size by simp];exact heap_alloc_new _ _)
 replace hrd':=hrd'.trans (if_neg k37)
 have q3:(((t.kind:Nat):Int)==3)=false:=by rw[beq_eq_false_iff_ne];omega
 have q7:(((t.kind:Nat):Int)==7)=false:=by rw[beq_eq_false_iff_ne];omega
 clear k37
 by_cases k10:t.kind=10
 ·have q10:(((t.kind:Nat):Int)==10)=true:=by rw[k10];rfl
  have HC:Hid _:=hput t p a0 n0 c0 _ E s r HR0.out HA0.out hd (hrd'.trans (if_pos k10)) ho
  clear hrd' hb0 hr ha ih hput hask k10
  unfold plV ptrV tkV at HC ⊢
  go_enter Tryz.func106,Tryz.ntmps106
  go_wp2_with fail
  refine Calls.mono HC.out ?_
  intro e w3 hok
  have hok':=OkD.from hok HK0.out
  clear hok HC
  cases r with
  |out=>exact absurd rfl HO.out
  |fail er a=>
   obtain⟨⟨b,rfl,hf⟩,hk2⟩:=hok'
   have HG:Hid (OkD R M g cap T dp (Value.slice a0 n0 c0).ownBlock w E s (RR.fail er a) (.returned (.tuple #[.nilIface,ptrV b])) w3):=⟨⟨b,rfl,hf⟩,hk2⟩
   clear hf hk2
   unfold ptrV
   go_wp2_with fail
   go_ret2
   exact HG.out
  |ok d s2=>
   obtain⟨v,E2,rfl,⟨ty,y,rfl⟩,hdat,hx2,hr2,hk2⟩:=hok'
   have HG:Hid (OkD R M g cap T dp (Value.slice a0 n0 c0).ownBlock w E s (RR.ok d s2) (.returned (.tuple #[.iface ty y,.pointer none])) w3):=⟨.iface ty y,E2,rfl,⟨ty,y,rfl⟩,hdat,hx2,hr2,hk2⟩
   clear hdat hx2 hr2 hk2
   go_wp2_with fail
   go_ret2
   exact HG.out
 replace hrd':=hrd'.trans (if_neg k10)
 have q10:(((t.kind:Nat):Int)==10)=false:=by rw[beq_eq_false_iff_ne];omega
 clear k10
 by_cases k11:t.kind=11
 ·have q11:(((t.kind:Nat):Int)==11)=true:=by rw[k11];rfl
  have HC:Hid _:=hask t p a0 n0 c0 _ E s r HR0.out HA0.out hd (hrd'.trans (if_pos k11))
  clear hrd' hb0 hr ha ih hput hask k11
  unfold plV ptrV tkV at HC ⊢
  go_enter Tryz.func106,Tryz.ntmps106
  go_wp2_with fail
  refine Calls.mono HC.out ?_
  intro e w3 hok
  have hok':=OkD.from hok HK0.out
  clear hok HC
  cases r with
  |out=>exact absurd rfl HO.out
  |fail er a=>
   obtain⟨⟨b,rfl,hf⟩,hk2⟩:=hok'
   have HG:Hid (OkD R M g cap T dp (Value.slice a0 n0 c0).ownBlock w E s (RR.fail er a) (.returned (.tuple #[.nilIface,ptrV b])) w3):=⟨⟨b,rfl,hf⟩,KpA.up hk2 _⟩
   clear hf hk2
   unfold ptrV
   go_wp2_with fail
   go_ret2
   exact HG.out
  |ok d s2=>
   obtain⟨v,E2,rfl,⟨ty,y,rfl⟩,hdat,hx2,hr2,hk2⟩:=hok'
   have HG:Hid (OkD R M g cap T dp (Value.slice a0 n0 c0).ownBlock w E s (RR.ok d s2) (.returned (.tuple #[.iface ty y,.pointer none])) w3):=⟨.iface ty y,E2,rfl,⟨ty,y,rfl⟩,hdat,hx2,hr2,KpA.up hk2 _⟩
   clear hdat hx2 hr2 hk2
   go_wp2_with fail
   go_ret2
   exact HG.out
 replace hrd':=hrd'.trans (if_neg k11)
 have q11:(((t.kind:Nat):Int)==11)=false:=by rw[beq_eq_false_iff_ne];omega
 clear k11
 by_cases kh:t.kind=2∨t.kind=5∨t.kind=4
 ·have HC:Hid _:=holder_step ih t p a0 n0 c0 _ E s HR0.out hd r (hrd'.trans (if_pos kh)) ho
  have hq:(((t.kind:Nat):Int)==2)=true∨((((t.kind:Nat):Int)==2)=false∧(((t.kind:Nat):Int)==5)=true)∨((((t.kind:Nat):Int)==2)=false∧(((t.kind:Nat):Int)==5)=false∧(((t.kind:Nat):Int)==4)=true):=by
   rcases kh with h|h|h
   ·exact .inl (by rw[h];rfl)
   ·exact .inr (.inl ⟨by rw[h];rfl,by rw[h];rfl⟩)
   ·exact .inr (.inr ⟨by rw[h];rfl,by rw[h];rfl,by rw[h];rfl⟩)
  clear hrd' hb0 hr ha ih hput hask kh
  unfold plV ptrV tkV at HC ⊢
  rcases hq with q2|⟨q2,q5⟩|⟨q2,q5,q4⟩
  all_goals
   go_enter Tryz.func106,Tryz.ntmps106
   go_wp2_with fail
   refine Calls.mono HC.out ?_
   intro e w3 hok
   have hok':=OkD.from hok HK0.out
   clear hok HC
   cases r with
   |out=>exact absurd rfl HO.out
   |fail er a=>
    obtain⟨⟨b,rfl,hf⟩,hk2⟩:=hok'
    have HG:Hid (OkD R M g cap T dp (Value.slice a0 n0 c0).ownBlock w E s (RR.fail er a) (.returned (.tuple #[.nilIface,ptrV b])) w3):=⟨⟨b,rfl,hf⟩,KpA.up hk2 _⟩
    clear hf hk2
    unfold ptrV
    go_wp2_with fail
    go_ret2
    exact HG.out
   |ok d s2=>
    obtain⟨v,E2,rfl,⟨ty,y,rfl⟩,hdat,hx2,hr2,hk2⟩:=hok'
    have HG:Hid (OkD R M g cap T dp (Value.slice a0 n0 c0).ownBlock w E s (RR.ok d s2) (.returned (.tuple #[.iface ty y,.pointer none])) w3):=⟨.iface ty y,E2,rfl,⟨ty,y,rfl⟩,hdat,hx2,hr2,KpA.up hk2 _⟩
    clear hdat hx2 hr2 hk2
    go_wp2_with fail
    go_ret2
    exact HG.out
 replace hrd':=hrd'.trans (if_neg kh)
 have q2:(((t.kind:Nat):Int)==2)=false:=by rw[beq_eq_false_iff_ne];omega
 have q5:(((t.kind:Nat):Int)==5)=false:=by rw[beq_eq_false_iff_ne];omega
 have q4:(((t.kind:Nat):Int)==4)=false:=by rw[beq_eq_false_iff_ne];omega
 clear kh
 have HC:Hid (Calls Tryz.prog 163 #[tkV t] ((w.alloc (.cells #[.int .i64 t.kind,.int .i64 t.from_,.int .i64 t.to_,.string ⟨⟨t.text⟩⟩,.int .i64 t.n,.int .i64 t.d,.int .i64 t.fault] 131)).alloc (.cells #[.int .i64 p.depth,.bool p.passed,.slice a0 n0 c0] 128)) fun e w'=>OkD R M g cap T dp none ((w.alloc (.cells #[.int .i64 t.kind,.int .i64 t.from_,.int .i64 t.to_,.string ⟨⟨t.text⟩⟩,.int .i64 t.n,.int .i64 t.d,.int .i64 t.fault] 131)).alloc (.cells #[.int .i64 p.depth,.bool p.passed,.slice a0 n0 c0] 128)) E s r e w'):=by
  rw[hrd']
  unfold atomD
  by_cases h8:t.kind=8
  ·rw[if_pos h8]
   refine(atom_txt t _ h8).mono ?_
   rintro e w' ⟨b,rfl,hb,hc,hw⟩
   have hbl:b<w'.heap.size:=(Array.getElem?_eq_some_iff.1 hc).1
   refine⟨_,E.one s.fresh b,rfl,⟨_,_,rfl⟩,?_,Ext.one hb hbl,RdAt.name (RdAt.below HR0.out hw) rfl rfl rfl,(Kp.of_below hw).a none⟩
   have e1:(E.one s.fresh b).α s.fresh=b:=if_pos rfl
   unfold Dat
   rw[e1]
   exact⟨Nat.lt_succ_self _,hb,rfl,hc⟩
  rw[if_neg h8]
  by_cases hv:t.kind=9∨t.kind=12∨t.kind=14∨t.fault=0
  ·refine(atom_val t _ h8 hv).mono ?_
   rintro e w' ⟨rfl,hw⟩
   have key:∀ d:Dt,(∃ t' y,atomV t= .iface t' y)→Dat ((w.alloc (.cells #[.int .i64 t.kind,.int .i64 t.from_,.int .i64 t.to_,.string ⟨⟨t.text⟩⟩,.int .i64 t.n,.int .i64 t.d,.int .i64 t.fault] 131)).alloc (.cells #[.int .i64 p.depth,.bool p.passed,.slice a0 n0 c0] 128)).heap.size s.fresh s.labs w' E d (atomV t)→OkD R M g cap T dp none ((w.alloc (.cells #[.int .i64 t.kind,.int .i64 t.from_,.int .i64 t.to_,.string ⟨⟨t.text⟩⟩,.int .i64 t.n,.int .i64 t.d,.int .i64 t.fault] 131)).alloc (.cells #[.int .i64 p.depth,.bool p.passed,.slice a0 n0 c0] 128)) E s (.ok d s) (.returned (.tuple #[atomV t,.pointer none])) w':=fun d hi h=>⟨_,E,rfl,hi,h,Ext.refl rfl rfl,RdAt.below HR0.out hw,(Kp.of_below hw).a none⟩
   by_cases h9:t.kind=9
   ·rw[if_pos h9];exact key _ (by simp[atomV,h9]) (by unfold Dat;simp[atomV,h9])
   rw[if_neg h9]
   by_cases h12:t.kind=12
   ·rw[if_pos h12];exact key _ (by simp[atomV,h12]) (by unfold Dat;simp[atomV,h12])
   rw[if_neg h12]
   by_cases h14:t.kind=14
   ·rw[if_pos h14];exact key _ (by simp[atomV,h14]) (by unfold Dat;simp[atomV,h14])
   rw[if_neg h14,if_neg (by omega)]
   exact key _ (by simp[atomV,h9,h12,h14]) (by unfold Dat;simp[atomV,h9,h12,h14])
  ·rw[if_neg (by omega),if_neg (by omega),if_neg (by omega),if_pos (by omega)]
   refine(atom_fault t _ ⟨h8,by omega,by omega,by omega⟩ (by omega)).mono ?_
   rintro e w' ⟨b,rfl,hc,hw⟩
   exact⟨⟨b,rfl,hc⟩,(Kp.of_below hw).a none⟩
 clear hrd' hb0 hr ha ih hput hask
 ·unfold plV ptrV tkV at *
  go_enter Tryz.func106,Tryz.ntmps106
  go_wp2_with fail
  refine Calls.mono HC.out ?_
  intro e w3 hok
  have hok':=OkD.from hok HK0.out
  clear hok HC
  cases r with
  |out=>exact absurd rfl HO.out
  |fail er a=>
   obtain⟨⟨b,rfl,hf⟩,hk2⟩:=hok'
   have HG:Hid (OkD R M g cap T dp (Value.slice a0 n0 c0).ownBlock w E s (RR.fail er a) (.returned (.tuple #[.nilIface,ptrV b])) w3):=⟨⟨b,rfl,hf⟩,KpA.up hk2 _⟩
   clear hf hk2
   unfold ptrV
   go_wp2_with fail
   go_ret2
   exact HG.out
  |ok d s2=>
   obtain⟨v,E2,rfl,⟨ty,y,rfl⟩,hdat,hx2,hr2,hk2⟩:=hok'
   have HG:Hid (OkD R M g cap T dp (Value.slice a0 n0 c0).ownBlock w E s (RR.ok d s2) (.returned (.tuple #[.iface ty y,.pointer none])) w3):=⟨.iface ty y,E2,rfl,⟨ty,y,rfl⟩,hdat,hx2,hr2,KpA.up hk2 _⟩
   clear hdat hx2 hr2 hk2
   go_wp2_with fail
   go_ret2
   exact HG.out
end
theorem underLab:Tryz.prog.underlying 212=some (.pointer 215):=by kernel_rfl
theorem infoLab:(Tryz.prog.info? 215).map (fun i=>i.size)=some 1:=by kernel_rfl
theorem eqLab (w:World)(b c:Nat)(hb:∃ v,w.heap[b]? =some (.cells #[v] 215))(hc:∃ v,w.heap[c]? =some (.cells #[v] 215)):
 (binOp .eql 212 (.pointer (some ⟨b,0,none⟩)) (.pointer (some ⟨c,0,none⟩))).run Tryz.prog w= .ok (.bool (decide (b=c))) w:=by
 obtain⟨vb,hb⟩:=hb
 obtain⟨vc,hc⟩:=hc
 have hi:=infoLab
 cases hj:Tryz.prog.info? 215 with
 |none=>rw[hj] at hi;cases hi
 |some j=>
  rw[hj] at hi
  have hs:j.size=1:=by simpa using hi
  by_cases e:b=c
  ·subst e
   rw[run_eql_ptr_same w _ underLab hj];simp
  ·rw[run_eql_ptr_other w (ca:=#[vb]) (cb:=#[vc]) underLab hj (by omega) (fun h=>e (by cases h;rfl)) hb hc];simp[e]
set_option maxHeartbeats 2000000 in
set_option maxRecDepth 100000 in
theorem labIndex_any (l:List Nat)(g c lo b:Nat)(w:World)(hrow:w.ownsRow lo 212 1 (.slice (some ⟨g,0,none⟩) l.length c) l.length (l.map ptrV))(hlb:∃ v,w.heap[b]? =some (.cells #[v] 215))(hll:∀ x∈l,∃ v,w.heap[x]? =some (.cells #[v] 215)):
 Calls Tryz.prog 220 #[.slice (some ⟨g,0,none⟩) l.length c,ptrV b] w fun e w'=>(∃ i:Int,e= .returned (.int .i64 i)∧(if b∈l then 0≤i else i=-1))∧w'=w:=by
 have hg:g<w.heap.size:=(hrow.lt g rfl).2
 have hn:l.length≤9223372036854775807:=by
  rcases hrow.2 with⟨h,_⟩|⟨_,cp,_,_,_,_,h1,h2,_⟩
  ·cases h
  ·simp only[maxLen] at h2;omega
 have hcell:Hid (∀ (j:Nat) (x:Nat),l[j]? =some x→w.cell? ⟨g,j,none⟩=some (ptrV x)):=fun j x hx=>by
  have hj:j<l.length:=(List.getElem?_eq_some_iff.1 hx).1
  rw[hrow.cellAt j (by omega),List.getElem?_map,hx];rfl
 clear hrow
 unfold ptrV
 go_enter Tryz.func220,Tryz.ntmps220
 go_wp2_with fail
 go_loopw [8] (fun i wr=>∃ j:Nat,j≤l.length∧i= .int .i64 j∧wr=w∧Hid (∀ (k:Nat) x,k<j→l[k]? =some x→x≠b)) (fun i _=>l.length-(intOf i).toNat)
 case atStart=>exact⟨0,by omega,rfl,rfl,fun k x hk=>by omega⟩
 case round=>
  obtain⟨j,hj,rfl,rfl,hB⟩:=hrel
  by_cases hjl:j<l.length
  ·have hx:l[j]? =some l[j]:=List.getElem?_eq_getElem hjl
   have hc:=hcell.out j _ hx
   unfold ptrV at hc
   have q:((j:Int)<(l.length:Int)):=by omega
   have hq:=eqLab wr b l[j] hlb (hll _ (List.getElem_mem hjl))
   by_cases hb:l[j]=b
   ·have hm:b∈l:=by rw[←hb];exact List.getElem_mem hjl
    rw[hb] at hc hq
    simp only[decide_true] at hq
    go_wp2_with fail
    go_ret
    exact⟨⟨_,rfl,by omega⟩,rfl⟩
   ·have hb':decide (b=l[j])=false:=by rw[decide_eq_false_iff_not];exact fun e=>hb e.symm
    rw[hb'] at hq
    go_wp2_with fail
    refine⟨⟨j+1,by omega,by simp,trivial,fun k x hk hkx=>?_⟩,?_⟩
    ·rcases Nat.lt_or_ge k j with h|h
     ·exact hB.out k x h hkx
     ·have:k=j:=by omega
      subst this
      rw[hx] at hkx
      cases hkx
      exact hb
    ·simp only[intOf];omega
  ·have hm:¬ b∈l:=fun h=>by
    obtain⟨k,hk,hkb⟩:=List.getElem_of_mem h
    exact hB.out k _ (by omega) (List.getElem?_eq_getElem hk) hkb
   have q:¬ ((j:Int)<(l.length:Int)):=by omega
   go_wp2_with fail
   go_ret
   simp
set_option maxHeartbeats 2000000 in
set_option maxRecDepth 100000 in
theorem index_nil (b:Nat)(w:World):
 Calls Tryz.prog 220 #[.slice none 0 0,ptrV b] w fun e w'=>e= .returned (.int .i64 (-1))∧w'=w:=by
 unfold ptrV
 go_enter Tryz.func220,Tryz.ntmps220
 go_wp2_with fail
 go_loopw [8] (fun i wr=>i= .int .i64 0∧wr=w) (fun _ _=>0)
 case atStart=>exact⟨rfl,rfl⟩
 case round=>
  obtain⟨rfl,rfl⟩:=hrel
  go_wp2_with fail
  go_ret
  exact⟨rfl,rfl⟩
set_option maxHeartbeats 2000000 in
set_option maxRecDepth 100000 in
theorem contains_any (l:List Nat)(av:Value)(lo b:Nat)(w:World)(hrow:w.ownsRow lo 212 1 av l.length (l.map ptrV))(hlb:∃ v,w.heap[b]? =some (.cells #[v] 215))(hll:∀ x∈l,∃ v,w.heap[x]? =some (.cells #[v] 215)):
 Calls Tryz.prog 193 #[av,ptrV b] w fun e w'=>e= .returned (.bool (decide (b∈l)))∧w'=w:=by
 rcases hrow.2 with⟨rfl,h0⟩|⟨g,cap,cur,rfl,_⟩
 ·have:l=[]:=List.eq_nil_of_length_eq_zero h0
  subst this
  have HC:Hid _:=index_nil b w
  clear hrow
  unfold ptrV at HC ⊢
  go_enter Tryz.func193,Tryz.ntmps193
  go_wp2_with fail
  refine Calls.mono HC.out ?_
  rintro e w' ⟨rfl,rfl⟩
  go_wp2_with fail
  go_ret
  simp
 ·have HC:Hid _:=labIndex_any l g cap lo b w hrow hlb hll
  clear hrow
  unfold ptrV at HC ⊢
  go_enter Tryz.func193,Tryz.ntmps193
  go_wp2_with fail
  refine Calls.mono HC.out ?_
  rintro e w' ⟨⟨i,rfl,hi⟩,rfl⟩
  by_cases hm:b∈l
  ·rw[if_pos hm] at hi
   go_wp2_with fail
   go_ret
   simp[hm]
  ·rw[if_neg hm] at hi
   subst hi
   go_wp2_with fail
   go_ret
   simp[hm]
theorem lookup_map {f:Int→Value}(n:Int):∀ l:List Int,(l.map fun m=>(m,f m)).lookup n=if n∈l then some (f n) else none
 |[]=>rfl
 |m::l=>by
  rw[List.map_cons,List.lookup_cons]
  by_cases h:n=m
  ·subst h;simp
  ·have:(n==m)=false:=by rw[beq_eq_false_iff_ne];exact h
   rw[this,lookup_map n l]
   simp[h]
theorem lab_look (E:Env)(labs:List Int)(n:Int):(labP E labs).lookup n=if n∈labs then some (ptrV (E.lab n)) else none:=by
 unfold labP
 rw[lookup_map (f:=fun m=>ptrV (E.lab m))]
 simp
theorem alloc3_at (w:World)(A B C:Obj):(((w.alloc A).alloc B).alloc C).heap[w.heap.size+1+1]? =some C:=by
 rw[show w.heap.size+1+1=((w.alloc A).alloc B).heap.size by simp]
 exact heap_alloc_new _ _
section
variable {R M g cap:Nat} {T:List Tok} {dp:Nat}
set_option maxHeartbeats 8000000 in
set_option maxRecDepth 100000 in
theorem ask_ok:AskOk R M g cap T dp:=by
 intro t p a0 n0 c0 w E s r hr ha hd hrd
 have mixed:Tryz.prog.follows Departure.mixedOrders=true:=by kernel_rfl
 have hb0:Below w.heap.size w ((w.alloc (.cells #[.int .i64 t.kind,.int .i64 t.from_,.int .i64 t.to_,.string ⟨⟨t.text⟩⟩,.int .i64 t.n,.int .i64 t.d,.int .i64 t.fault] 131)).alloc (.cells #[.int .i64 p.depth,.bool p.passed,.slice a0 n0 c0] 128)):=((Below.refl _ w).alloc (Nat.le_refl _) _).alloc (by simp) _
 have hs0:((w.alloc (.cells #[.int .i64 t.kind,.int .i64 t.from_,.int .i64 t.to_,.string ⟨⟨t.text⟩⟩,.int .i64 t.n,.int .i64 t.d,.int .i64 t.fault] 131)).alloc (.cells #[.int .i64 p.depth,.bool p.passed,.slice a0 n0 c0] 128)).heap.size=w.heap.size+1+1:=by simp
 have HK0:Hid (Kp R M w ((w.alloc (.cells #[.int .i64 t.kind,.int .i64 t.from_,.int .i64 t.to_,.string ⟨⟨t.text⟩⟩,.int .i64 t.n,.int .i64 t.d,.int .i64 t.fault] 131)).alloc (.cells #[.int .i64 p.depth,.bool p.passed,.slice a0 n0 c0] 128))):=Kp.of_below hb0
 have hr0:=hr.below hb0
 have HR0:Hid _:=hr0
 have hlook:=run_labLook (w:=((w.alloc (.cells #[.int .i64 t.kind,.int .i64 t.from_,.int .i64 t.to_,.string ⟨⟨t.text⟩⟩,.int .i64 t.n,.int .i64 t.d,.int .i64 t.fault] 131)).alloc (.cells #[.int .i64 p.depth,.bool p.passed,.slice a0 n0 c0] 128)).drew) (M:=M) (l:=labP E s.labs) hr0.lm t.n
 rw[lab_look] at hlook
 have hrR:R<w.heap.size:=hr.lt
 have n1:¬ R=w.heap.size:=by omega
 have n2:¬ R=w.heap.size+1:=by omega
 have n3:R<w.heap.size+1:=by omega
 obtain⟨⟨r0,r1,r2,r3⟩,-⟩:=cells4 hr.blk
 have HA0:Hid _:=ha.below hb0
 by_cases hp:p.passed=true
 ·have HE:Hid (r= .fail 5 t.from_):=hrd.trans (if_pos (.inl hp))
  rw[hp] at hlook HK0 ⊢
  clear hrd hr hr0 hb0 ha hs0 HR0 HA0
  unfold plV ptrV tkV
  by_cases hl:t.n∈s.labs
  ·rw[if_pos hl,Option.getD_some] at hlook
   unfold ptrV at hlook
   go_enter Tryz.func161,Tryz.ntmps161
   go_wp2_with fail
   go_region
   go_wp2_with fail
   go_region
   go_wp2_with fail
   go_ret2
   rw[HE.out]
   refine⟨⟨w.heap.size+1+1,rfl,?_⟩,(Kp.trans HK0.out (Kp.of_below ((((Below.refl _ _).alloc (Nat.le_refl _) _).drew).drew))).a none⟩
   exact alloc3_at w _ _ _
  ·rw[if_neg hl,Option.getD_none] at hlook
   go_enter Tryz.func161,Tryz.ntmps161
   go_wp2_with fail
   go_region
   go_wp2_with fail
   go_region
   go_wp2_with fail
   go_ret2
   rw[HE.out]
   refine⟨⟨w.heap.size+1+1,rfl,?_⟩,(Kp.trans HK0.out (Kp.of_below ((((Below.refl _ _).alloc (Nat.le_refl _) _).drew).drew))).a none⟩
   exact alloc3_at w _ _ _
 have hp':p.passed=false:=by simpa using hp
 rw[hp'] at hlook HK0 HR0 HA0 hs0 ⊢
 by_cases hl:t.n∈s.labs
 ·rw[if_pos hl,Option.getD_some] at hlook
  have hrow:(((w.alloc (.cells #[.int .i64 t.kind,.int .i64 t.from_,.int .i64 t.to_,.string ⟨⟨t.text⟩⟩,.int .i64 t.n,.int .i64 t.d,.int .i64 t.fault] 131)).alloc (.cells #[.int .i64 p.depth,.bool false,.slice a0 n0 c0] 128)).drew).ownsRow 0 212 1 (.slice a0 n0 c0) (p.ahead.map E.lab).length ((p.ahead.map E.lab).map ptrV):=by
   rw[List.length_map,List.map_map];exact HA0.out.1
  have HC:Hid _:=contains_any (p.ahead.map E.lab) (.slice a0 n0 c0) 0 (E.lab t.n) _ hrow (HR0.out.low _ hl) (fun x hx=>by
   obtain⟨m,hm,rfl⟩:=List.mem_map.1 hx
   exact HR0.out.low m (HA0.out.2.2 m hm))
  have hmem:E.lab t.n∈p.ahead.map E.lab↔t.n∈p.ahead:=by
   constructor
   ·intro h
    obtain⟨m,hm,e⟩:=List.mem_map.1 h
    rw[←HR0.out.inj m (HA0.out.2.2 m hm) t.n hl e];exact hm
   ·exact fun h=>List.mem_map.2 ⟨_,h,rfl⟩
  by_cases hin:t.n∈p.ahead
  ·have HE:Hid (r= .fail 5 t.from_):=hrd.trans (if_pos (.inr (.inr hin)))
   rw[decide_eq_true (hmem.2 hin)] at HC
   clear hrd hr hr0 hb0 ha hs0 hrow hmem
   unfold ptrV at hlook HC
   unfold plV ptrV tkV
   go_enter Tryz.func161,Tryz.ntmps161
   go_wp2_with fail
   go_region
   go_wp2_with fail
   refine Calls.mono HC.out ?_
   rintro e w' ⟨rfl,rfl⟩
   go_wp2_with fail
   go_region
   go_wp2_with fail
   go_ret2
   rw[HE.out]
   refine⟨⟨w.heap.size+1+1,rfl,?_⟩,(Kp.trans HK0.out (Kp.of_below ((((Below.refl _ _).alloc (Nat.le_refl _) _).drew).drew))).a none⟩
   exact alloc3_at w _ _ _
  ·have HE:Hid (r= .ok (.ask t.n) s):=hrd.trans (if_neg (by simp[hp',hl,hin]))
   rw[decide_eq_false (fun h=>hin (hmem.1 h))] at HC
   have HG:Hid (OkD R M g cap T dp none w E s (.ok (.ask t.n) s) (.returned (.tuple #[.iface 212 (ptrV (E.lab t.n)),.pointer none])) ((w.alloc (.cells #[.int .i64 t.kind,.int .i64 t.from_,.int .i64 t.to_,.string ⟨⟨t.text⟩⟩,.int .i64 t.n,.int .i64 t.d,.int .i64 t.fault] 131)).alloc (.cells #[.int .i64 p.depth,.bool false,.slice a0 n0 c0] 128)).drew):=
    ⟨_,E,rfl,⟨_,_,rfl⟩,by unfold Dat;exact⟨hl,rfl⟩,Ext.refl rfl rfl,RdAt.below HR0.out ((Below.refl _ _).drew),(Kp.trans HK0.out (Kp.of_below ((Below.refl _ _).drew))).a none⟩
   clear hrd hr hr0 hb0 ha hs0 hrow hmem
   unfold ptrV at hlook HC
   unfold plV ptrV tkV
   go_enter Tryz.func161,Tryz.ntmps161
   go_wp2_with fail
   go_region
   go_wp2_with fail
   refine Calls.mono HC.out ?_
   rintro e w' ⟨rfl,rfl⟩
   go_wp2_with fail
   go_ret2
   rw[HE.out]
   exact HG.out
 ·have HE:Hid (r= .fail 5 t.from_):=hrd.trans (if_pos (.inr (.inl hl)))
  rw[if_neg hl,Option.getD_none] at hlook
  clear hrd hr hr0 hb0 ha hs0 HR0 HA0
  unfold plV ptrV tkV
  ·go_enter Tryz.func161,Tryz.ntmps161
   go_wp2_with fail
   go_region
   go_wp2_with fail
   go_region
   go_wp2_with fail
   go_ret2
   rw[HE.out]
   refine⟨⟨w.heap.size+1+1,rfl,?_⟩,(Kp.trans HK0.out (Kp.of_below ((((Below.refl _ _).alloc (Nat.le_refl _) _).drew).drew))).a none⟩
   exact alloc3_at w _ _ _
end
section
variable {R M g cap:Nat} {T:List Tok} {dp:Nat}
set_option maxHeartbeats 8000000 in
set_option maxRecDepth 100000 in
theorem put_fault (n:Nat)(t:Tok)(p:Pl)(a0:Option Addr)(n0 c0:Nat)(w:World)(E:Env)(s:RSt)(r:RR Dt)(hr:RdAt w R M g cap T dp E s)(hrd:r=if p.passed∨t.n∈s.labs then .fail 5 t.from_
 else if p.depth=dp then .fail 6 t.from_
 else(rdDatum T dp n ⟨p.depth+1,p.passed,p.ahead++[t.n]⟩ { s with labs:=t.n::s.labs }).bind fun d s=> .ok (.put t.n d) s)(hbad:p.passed=true∨t.n∈s.labs∨p.depth=dp):
 Calls Tryz.prog 160 #[ptrV R,tkV t,plV p.depth p.passed (.slice a0 n0 c0)] w fun e w'=>OkD R M g cap T dp (Value.slice a0 n0 c0).ownBlock w E s r e w':=by
 have mixed:Tryz.prog.follows Departure.mixedOrders=true:=by kernel_rfl
 have hb0:Below w.heap.size w ((w.alloc (.cells #[.int .i64 t.kind,.int .i64 t.from_,.int .i64 t.to_,.string ⟨⟨t.text⟩⟩,.int .i64 t.n,.int .i64 t.d,.int .i64 t.fault] 131)).alloc (.cells #[.int .i64 p.depth,.bool p.passed,.slice a0 n0 c0] 128)):=((Below.refl _ w).alloc (Nat.le_refl _) _).alloc (by simp) _
 have hs0:((w.alloc (.cells #[.int .i64 t.kind,.int .i64 t.from_,.int .i64 t.to_,.string ⟨⟨t.text⟩⟩,.int .i64 t.n,.int .i64 t.d,.int .i64 t.fault] 131)).alloc (.cells #[.int .i64 p.depth,.bool p.passed,.slice a0 n0 c0] 128)).heap.size=w.heap.size+1+1:=by simp
 have HK0:Hid (Kp R M w ((w.alloc (.cells #[.int .i64 t.kind,.int .i64 t.from_,.int .i64 t.to_,.string ⟨⟨t.text⟩⟩,.int .i64 t.n,.int .i64 t.d,.int .i64 t.fault] 131)).alloc (.cells #[.int .i64 p.depth,.bool p.passed,.slice a0 n0 c0] 128))):=Kp.of_below hb0
 have hr0:=hr.below hb0
 have HR0:Hid _:=hr0
 have hlook:=run_labLook (w:=((w.alloc (.cells #[.int .i64 t.kind,.int .i64 t.from_,.int .i64 t.to_,.string ⟨⟨t.text⟩⟩,.int .i64 t.n,.int .i64 t.d,.int .i64 t.fault] 131)).alloc (.cells #[.int .i64 p.depth,.bool p.passed,.slice a0 n0 c0] 128)).drew) (M:=M) (l:=labP E s.labs) hr0.lm t.n
 rw[lab_look] at hlook
 have hrR:R<w.heap.size:=hr.lt
 have n1:¬ R=w.heap.size:=by omega
 have n2:¬ R=w.heap.size+1:=by omega
 have n3:R<w.heap.size+1:=by omega
 obtain⟨⟨r0,r1,r2,r3⟩,-⟩:=cells4 hr.blk
 by_cases hp:p.passed=true
 ·have HE:Hid (r= .fail 5 t.from_):=hrd.trans (if_pos (.inl hp))
  rw[hp] at hlook HK0 ⊢
  clear hrd hr hr0 hb0 hs0 HR0 hlook
  unfold plV ptrV tkV
  ·go_enter Tryz.func160,Tryz.ntmps160
   go_wp2_with fail
   go_region
   go_wp2_with fail
   go_region
   go_wp2_with fail
   go_ret2
   rw[HE.out]
   refine⟨⟨w.heap.size+1+1,rfl,?_⟩,(Kp.trans HK0.out (Kp.of_below ((((Below.refl _ _).alloc (Nat.le_refl _) _).drew).drew))).a _⟩
   exact alloc3_at w _ _ _
 have hp':p.passed=false:=by simpa using hp
 rw[hp'] at hlook HK0 HR0 hs0 ⊢
 by_cases hl:t.n∈s.labs
 ·rw[if_pos hl,Option.getD_some] at hlook
  have HE:Hid (r= .fail 5 t.from_):=hrd.trans (if_pos (.inr hl))
  clear hrd hr hr0 hb0 hs0 HR0
  unfold ptrV at hlook
  unfold plV ptrV tkV
  ·go_enter Tryz.func160,Tryz.ntmps160
   go_wp2_with fail
   go_region
   go_wp2_with fail
   go_region
   go_wp2_with fail
   go_ret2
   rw[HE.out]
   refine⟨⟨w.heap.size+1+1,rfl,?_⟩,(Kp.trans HK0.out (Kp.of_below ((((Below.refl _ _).alloc (Nat.le_refl _) _).drew).drew))).a _⟩
   exact alloc3_at w _ _ _
 rw[if_neg hl,Option.getD_none] at hlook
 replace hrd:=hrd.trans (if_neg (by simp[hp',hl]))
 have hc0:(((w.alloc (.cells #[.int .i64 t.kind,.int .i64 t.from_,.int .i64 t.to_,.string ⟨⟨t.text⟩⟩,.int .i64 t.n,.int .i64 t.d,.int .i64 t.fault] 131)).alloc (.cells #[.int .i64 p.depth,.bool false,.slice a0 n0 c0] 128)).drew).cell? ⟨R,2,none⟩=some (.int .i64 dp):=(cells4 HR0.out.blk).1.2.2.1
 by_cases hdd:p.depth=dp
 ·have HE:Hid (r= .fail 6 t.from_):=hrd.trans (if_pos hdd)
  have HC:Hid _:=deeper_fail R dp t p.depth false a0 n0 c0 (((w.alloc (.cells #[.int .i64 t.kind,.int .i64 t.from_,.int .i64 t.to_,.string ⟨⟨t.text⟩⟩,.int .i64 t.n,.int .i64 t.d,.int .i64 t.fault] 131)).alloc (.cells #[.int .i64 p.depth,.bool false,.slice a0 n0 c0] 128)).drew) hc0 (by simp;omega) hdd
  clear hrd hr hr0 hb0 hs0 HR0 hc0 hdd
  unfold plV ptrV tkV at HC ⊢
  go_enter Tryz.func160,Tryz.ntmps160
  go_wp2_with fail
  go_region
  go_wp2_with fail
  refine Calls.mono HC.out ?_
  rintro e w1 ⟨b,rfl,hf,hb1⟩
  have HF:Hid _:=hf
  have HK1:Hid _:=Kp.trans (Kp.trans HK0.out (Kp.of_below ((Below.refl _ _).drew))) (Kp.of_below hb1)
  clear hf hb1 HC
  go_wp2_with fail
  go_ret2
  rw[HE.out]
  exact⟨⟨b,rfl,FaultAt.alloc HF.out _⟩,(Kp.trans HK1.out (Kp.of_below ((Below.refl _ _).alloc (Nat.le_refl _) _))).a _⟩
 ·exact absurd (hbad.resolve_left hp) (by simp[hl,hdd])
end
def Env.label (E:Env)(n:Int)(b:Nat):Env:=⟨E.α,fun m=>if m=n then b else E.lab m⟩
theorem label_agree (E:Env)(n:Int)(b k:Nat){labs:List Int}(hn:¬ n∈labs):E.agree (E.label n b) k labs:=
 ⟨fun _ _=>rfl,fun m hm=>if_neg fun e=>hn (by rw[←e];exact hm)⟩
theorem labP_cons (E:Env)(n:Int)(b:Nat){labs:List Int}(hn:¬ n∈labs):labP (E.label n b) (n::labs)=labP E labs++[(n,ptrV b)]:=by
 unfold labP
 rw[List.reverse_cons,List.map_append]
 congr 1
 ·exact List.map_congr_left fun m hm=>by rw[(label_agree E n b 0 hn).2 m (List.mem_reverse.1 hm)]
 ·simp[Env.label]
theorem RdAt.label {w:World}{R M g cap:Nat}{T:List Tok}{dp:Nat}{E:Env}{s:RSt}(h:RdAt w R M g cap T dp E s){n:Int}{b:Nat}{o:Obj}(hn:¬ n∈s.labs)(hb:∃ v,w.heap[b]? =some (.cells #[v] 215))(hnew:∀ m∈s.labs,E.lab m≠b)
 (hm:MapAt { w with heap:=w.heap.setIfInBounds M o } M ((labP E s.labs++[(n,ptrV b)]).map fun p=>(Value.int .i64 p.1,p.2))):
 RdAt { w with heap:=w.heap.setIfInBounds M o } R M g cap T dp (E.label n b) { s with labs:=n::s.labs }:=by
 have ho:∀ c,c≠M→(w.heap.setIfInBounds M o)[c]? =w.heap[c]?:=fun c hc=>by rw[Array.getElem?_setIfInBounds_ne (fun e=>hc e.symm)]
 have hlM:∀ (c:Nat) (v:Value),w.heap[c]? =some (.cells #[v] 215)→c≠M:=fun c v hc e=>by
  obtain⟨es,cl,q,_⟩:=h.lm
  rw[e,q] at hc;cases hc
 refine⟨h.rm,h.gr,h.gm,(ho R h.rm).trans h.blk,?_,?_,fun m hm'=>?_,fun m h1 k h2 e=>?_,h.small,h.deep⟩
 ·refine⟨h.row.1,h.row.2.imp id ?_⟩
  rintro ⟨c,cp,cur,h1,h2,h3,h4⟩
  have:c=g:=by cases h1;rfl
  exact⟨c,cp,cur,h1,h2,(ho c (by rw[this];exact h.gm)).trans h3,h4⟩
 ·show MapAt _ M ((labP (E.label n b) (n::s.labs)).map _)
  rw[labP_cons E n b hn];exact hm
 ·show ∃ v,(w.heap.setIfInBounds M o)[if m=n then b else E.lab m]? =_
  by_cases e:m=n
  ·rw[if_pos e]
   obtain⟨v,hv⟩:=hb
   exact⟨v,(ho b (hlM b v hv)).trans hv⟩
  ·rw[if_neg e]
   have hm2:m∈s.labs:=(List.mem_cons.1 hm').resolve_left e
   obtain⟨v,hv⟩:=h.low m hm2
   exact⟨v,(ho _ (hlM _ v hv)).trans hv⟩
 ·have e':(if m=n then b else E.lab m)=(if k=n then b else E.lab k):=e
  by_cases e1:m=n<;>by_cases e2:k=n
  ·rw[e1,e2]
  ·rw[if_pos e1,if_neg e2] at e'
   exact absurd e'.symm (hnew k ((List.mem_cons.1 h2).resolve_left e2))
  ·rw[if_neg e1,if_pos e2] at e'
   exact absurd e' (hnew m ((List.mem_cons.1 h1).resolve_left e1))
  ·rw[if_neg e1,if_neg e2] at e'
   exact h.inj m ((List.mem_cons.1 h1).resolve_left e1) k ((List.mem_cons.1 h2).resolve_left e2) e'
end Go.Proofs.YtlhimdjkkiflhaaGreatDoor
