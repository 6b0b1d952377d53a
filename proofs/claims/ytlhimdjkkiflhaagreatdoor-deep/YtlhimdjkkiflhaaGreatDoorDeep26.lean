import Derived.Test.YtlhimdjkkiflhaaGreatDoorDeep25
namespace Go.Proofs.YtlhimdjkkiflhaaGreatDoor
open Go.RowKit Go.Loop
theorem ownsRow_slice {w:World}{lo:Nat}{e:TypeId}{z:Nat}{v:Value}{n:Nat}{xs:List Value}(h:w.ownsRow lo e z v n xs):∃ a c,v= .slice a n c:=by
 rcases h.2 with⟨rfl,rfl⟩|⟨g,cap,cur,rfl,_⟩
 ·exact⟨_,_,rfl⟩
 ·exact⟨_,_,rfl⟩
theorem grown_rd {R M g cap:Nat}{T:List Tok}{dp:Nat}{E:Env}{s:RSt}{w w5 w6:World}{row:Option Nat}{A:Obj}(hr:RdAt w5 R M g cap T dp E s)(hk:Kp R M w w5)(hg:(w5.alloc A).grownBy w6 row)(hrow:∀ k,row=some k→w.heap.size≤k)(hlab:∀ (b:Nat) (v:Value),w5.heap[b]? =some (.cells #[v] 215)→some b≠row)(h1:R<w.heap.size)(h2:M<w.heap.size)(h3:g<w.heap.size):
 RdAt w6 R M g cap T dp E s∧Kp R M w w6∧(∀ b,b<w5.heap.size→some b≠row→w6.heap[b]? =w5.heap[b]?)∧w5.heap.size+1≤w6.heap.size:=by
 have hs:(w5.alloc A).heap.size=w5.heap.size+1:=by simp
 have hb:∀ b,b<w5.heap.size→some b≠row→w6.heap[b]? =w5.heap[b]?:=fun b h h'=>(hg.block b (by omega) h').trans (Lib.alloc_old _ _ _ h)
 have hz:=hg.size
 have hlow:∀ b,b<w.heap.size→some b≠row:=fun b h e=>by have:=hrow b e.symm;omega
 have h5:=hk.size
 refine⟨?_,⟨hg.os.trans hk.os,hg.tape.trans hk.tape,hg.output.trans hk.output,by omega,fun b b1 b2 b3=>(hb b (by omega) (hlow b b1)).trans (hk.block b b1 b2 b3)⟩,hb,by omega⟩
 exact RdAt.step hr (k:=s.k) ((hb R (by omega) (hlow R h1)).trans hr.blk) (by omega) (fun b b1 b2=>hb b b1 (b2.elim (fun e=>by rw[e];exact hlow g h3) (fun e=>by rw[e];exact hlow M h2))) fun b v hv=>hb b (Array.getElem?_eq_some_iff.1 hv).1 (hlab b v hv)
theorem row_lab {w:World}{lo:Nat}{v:Value}{n:Nat}{xs:List Value}(h:w.ownsRow lo 58 1 v n xs):∀ (b:Nat) (x:Value),w.heap[b]? =some (.cells #[x] 215)→some b≠v.ownBlock:=by
 intro b x hb e
 rcases h.2 with⟨rfl,_⟩|⟨g,cap,cur,rfl,_,hg,_⟩
 ·cases e
 ·have:b=g:=by cases e;rfl
  rw[this,hg] at hb
  simp at hb
section
variable {R M g cap:Nat} {T:List Tok} {dp:Nat}
set_option maxHeartbeats 8000000 in
set_option maxRecDepth 100000 in
theorem list_step {N:Nat}(ih:∀ n,n≤N→IH R M g cap T dp n)(p:Pl)(hp:p.ahead=[])(w:World)(E:Env)(s:RSt)(hr:RdAt w R M g cap T dp E s)(hd:p.depth≤dp∧p.ahead.length≤p.depth)(ho:rdList T dp (N+1) [] p s≠ .out):
 Calls Tryz.prog 196 #[ptrV R,plV p.depth p.passed (.slice none 0 0)] w fun e w'=>OkD R M g cap T dp none w E s (rdList T dp (N+1) [] p s) e w':=by
 have mixed:Tryz.prog.follows Departure.mixedOrders=true:=by kernel_rfl
 have hrR:R<w.heap.size:=hr.lt
 have hrM:M<w.heap.size:=hr.mlt
 have hrg:g<w.heap.size:=(hr.row.lt g rfl).2
 have hb0:Below w.heap.size w (w.alloc (.cells #[.int .i64 p.depth,.bool p.passed,.slice none 0 0] 128)):=(Below.refl _ w).alloc (Nat.le_refl _) _
 have HP:Hid _:=heap_alloc_new w (.cells #[.int .i64 p.depth,.bool p.passed,.slice none 0 0] 128)
 have HR:Hid _:=hr.below hb0
 have HB:Hid _:=hb0
 have HI:Hid _:=ih
 have HO:Hid _:=ho
 have hsm:=hr.small
 have HA:Hid (∀ (w':World) (E':Env) (s':RSt),AhAt w' E' s' p.ahead (.slice none 0 0)):=fun w' E' s'=>by rw[hp];exact⟨⟨rfl,.inl ⟨rfl,rfl⟩⟩,⟨_,_,_,rfl⟩,fun n hn=>by cases hn⟩
 clear hr hb0 ih ho
 unfold plV ptrV
 go_enter Tryz.func196,Tryz.ntmps196
 go_wp2_with fail
 go_loopw [6] (fun sv wr=>∃ (m:Nat) (E1:Env) (s1:RSt) (ds:List Dt) (vs:List Value),m≤N+1∧w.heap.size+1≤wr.heap.size∧ds.length=vs.length∧vs.length≤s1.k∧Hid (rdList T dp (N+1) [] p s=rdList T dp m ds p s1)∧Hid (RdAt wr R M g cap T dp E1 s1)∧Hid (Ext w wr E E1 s s1)∧Hid (Kp R M w wr)∧Hid (wr.heap[w.heap.size]? =some (.cells #[.int .i64 p.depth,.bool p.passed,.slice none 0 0] 128))∧Hid (wr.ownsRow (w.heap.size+1) 58 1 sv vs.length vs)∧Hid (∀ (j:Nat) d x,ds[j]? =some d→vs[j]? =some x→Held wr (w.heap.size+1) s1.fresh s1.labs E1 sv.ownBlock d x)) (fun _ wr=>T.length+1-(intOf ((wr.cell? ⟨R,1,none⟩).getD undef)).toNat)
 case atStart=>exact⟨N+1,E,s,[],[],Nat.le_refl _,by simp,rfl,Nat.zero_le _,rfl,HR.out,Ext.refl rfl rfl,Kp.of_below HB.out,HP.out,World.ownsRow_nil _ _ _ _,fun j d x h=>by simp at h⟩
 case round=>
  obtain⟨m,E1,s1,ds,vs,hm,hsz,hl,hlen,HE,HR1,HX,HK,HP1,HW,HH⟩:=hrel
  have hO1:rdList T dp m ds p s1≠ .out:=by rw[←HE.out];exact HO.out
  obtain⟨m',rfl⟩:∃ m',m=m'+1:=by
   cases m with
   |zero=>exact absurd (by unfold rdList;rfl) hO1
   |succ m'=>exact⟨m',rfl⟩
  have HE1:Hid (rdList T dp (N+1) [] p s=(rdTake T dp m' p s1).bind fun t s=>
   if t.kind=3 then .ok (chainD ds .nil s.fresh).1 { s with fresh:=(chainD ds .nil s.fresh).2 }
   else if t.kind=7∧ds≠[] then
    (rdDatum T dp m' p s).bind fun rest s=>(rdTake T dp m' p s).bind fun t s=>
      if t.kind=3 then .ok (chainD ds rest s.fresh).1 { s with fresh:=(chainD ds rest s.fresh).2 } else .fail 3 t.from_
   else(rdFrom T dp m' t p s).bind fun d s=>rdList T dp m' (ds++[d]) p s):=by
    show _=_
    rw[HE.out]
    conv=>lhs;unfold rdList
  clear hO1 HE
  obtain⟨a1,c1,rfl⟩:=ownsRow_slice HW.out
  obtain⟨p0,p1,p2⟩:=cells3 HP1.out
  have hne:rdTake T dp m' p s1≠ .out:=fun h=>HO.out (by rw[HE1.out,h];rfl)
  have HT:Hid _:=(HI.out m' (by omega)).take p (.slice none 0 0) _ E1 s1 HR1.out (HA.out _ _ _) hd hne
  have hif:∀ x∈vs,∃ t y,x= .iface t y:=fun x hx=>by
   obtain⟨j,hj,rfl⟩:=List.getElem_of_mem hx
   exact(HH.out j (ds[j]'(by omega)) vs[j] (List.getElem?_eq_getElem (by omega)) (List.getElem?_eq_getElem hj)).1
  have HIF:Hid _:=hif
  clear hne hif
  cases hT:rdTake T dp m' p s1 with
  |out=>exact absurd (by rw[HE1.out,hT];rfl) HO.out
  |fail er a=>
   rw[hT] at HT
   have HE2:Hid (rdList T dp (N+1) [] p s= .fail er a):=by show _=_;rw[HE1.out,hT];rfl
   unfold plV ptrV at HT
   go_wp2_with fail
   refine Calls.mono HT.out ?_
   rintro e w2 ⟨⟨b,t,rfl,hf⟩,hk⟩
   have HF:Hid _:=hf
   have HK3:Hid _:=hk
   clear hf hk HT
   unfold tkV ptrV
   go_wp2_with fail
   go_ret2
   rw[HE2.out]
   exact⟨⟨b,rfl,FaultAt.alloc HF.out _⟩,(Kp.trans (Kp.trans HK.out HK3.out) (Kp.of_below ((Below.refl _ _).alloc (Nat.le_refl _) _))).a none⟩
  |ok t s3=>
   have htl:=take_lt hT
   rw[hT] at HT
   have HE2:Hid (rdList T dp (N+1) [] p s=if t.kind=3 then .ok (chainD ds .nil s3.fresh).1 { s3 with fresh:=(chainD ds .nil s3.fresh).2 }
   else if t.kind=7∧ds≠[] then
    (rdDatum T dp m' p s3).bind fun rest s=>(rdTake T dp m' p s).bind fun t s=>
      if t.kind=3 then .ok (chainD ds rest s.fresh).1 { s with fresh:=(chainD ds rest s.fresh).2 } else .fail 3 t.from_
   else(rdFrom T dp m' t p s3).bind fun d s=>rdList T dp m' (ds++[d]) p s):=by show _=_;rw[HE1.out,hT];rfl
   unfold plV ptrV at HT
   go_wp2_with fail
   refine Calls.mono HT.out ?_
   rintro e w2 ⟨E3,rfl,hx3,hr3,hk3⟩
   have hs3:=hk3.size
   have hb4:Below w2.heap.size w2 (w2.alloc (.cells #[.int .i64 t.kind,.int .i64 t.from_,.int .i64 t.to_,.string ⟨⟨t.text⟩⟩,.int .i64 t.n,.int .i64 t.d,.int .i64 t.fault] 131)):=(Below.refl _ w2).alloc (Nat.le_refl _) _
   have hs4:(w2.alloc (.cells #[.int .i64 t.kind,.int .i64 t.from_,.int .i64 t.to_,.string ⟨⟨t.text⟩⟩,.int .i64 t.n,.int .i64 t.d,.int .i64 t.fault] 131)).heap.size=w2.heap.size+1:=by simp
   have hk4:=Kp.trans hk3 (Kp.of_below hb4)
   have HR4:Hid _:=hr3.below hb4
   have HK4:Hid _:=Kp.trans HK.out hk4
   have HX4:Hid _:=Ext.wid (w:=w) (w3:=(w2.alloc (.cells #[.int .i64 t.kind,.int .i64 t.from_,.int .i64 t.to_,.string ⟨⟨t.text⟩⟩,.int .i64 t.n,.int .i64 t.d,.int .i64 t.fault] 131))) (Ext.trans HX.out hx3 (Kp.size HK.out) hs3) (Nat.le_refl _) (by omega)
   have HW4:Hid _:=ownsRow_from HW.out (Nat.le_refl _) (Kp.ge hk4 (by omega) (by omega))
   have HH4:Hid (∀ (j:Nat) d x,ds[j]? =some d→vs[j]? =some x→Held (w2.alloc (.cells #[.int .i64 t.kind,.int .i64 t.from_,.int .i64 t.to_,.string ⟨⟨t.text⟩⟩,.int .i64 t.n,.int .i64 t.d,.int .i64 t.fault] 131)) (w.heap.size+1) s3.fresh s3.labs E3 (Value.slice a1 vs.length c1).ownBlock d x):=fun j d x h1 h2=>
    Held.keep (HH.out j d x h1 h2) (by omega) hx3.fresh hx3.labs hx3.agree (fun b b1 b2 _=>Kp.ge hk4 (lo:=w.heap.size+1) (by omega) (by omega) b b1 b2) (.inl rfl)
   have HP4:Hid _:=(hk4.block w.heap.size (by omega) (by omega) (by omega)).trans HP1.out
   obtain⟨y0,y1,y2⟩:=cells3 HP4.out
   obtain⟨⟨o0,o1,o2,o3,o4,o5,o6⟩,-⟩:=cells7 (Below.refl _ _) (heap_alloc_new w2 (.cells #[.int .i64 t.kind,.int .i64 t.from_,.int .i64 t.to_,.string ⟨⟨t.text⟩⟩,.int .i64 t.n,.int .i64 t.d,.int .i64 t.fault] 131))
   clear hx3 hr3 hk3 hk4 hb4 HT p0 p1 p2
   unfold tkV
   by_cases k3:t.kind=3
   ·have q3:(((t.kind:Nat):Int)==3)=true:=by rw[k3];rfl
    rw[if_pos k3] at HE2
    clear k3
    have HC:Hid _:=chain_row vs (.slice a1 vs.length c1) (w.heap.size+1) (.iface 272 (.agg #[])) _ HW4.out (by omega) HIF.out ⟨_,_,rfl⟩
    go_wp2_with fail
    refine Calls.mono HC.out ?_
    rintro e w5 ⟨v,rfl,hc,hs5,hb5⟩
    obtain⟨tv,yv,rfl⟩:=hc.iface ⟨_,_,rfl⟩
    have HG:Hid _:=chain_fin (T:=T) (dp:=dp) (g:=g) (cap:=cap) (w:=w) (lo:=w.heap.size+1) (ds:=ds) (rest:= .nil) (s1:=s3) (E1:=E3) (by omega) (by omega)
     (fun j d x h1 h2=>(HH4.out j d x h1 h2).dat) (by unfold Dat;rfl) hl ⟨_,_,rfl⟩ hc hs5 hb5 HR4.out HX4.out HK4.out
    clear hc hb5
    go_wp2_with fail
    go_ret2
    rw[HE2.out]
    exact HG.out
   have q3:(((t.kind:Nat):Int)==3)=false:=by rw[beq_eq_false_iff_ne];omega
   rw[if_neg k3] at HE2
   clear k3
   by_cases k7:t.kind=7∧ds≠[]
   ·have q7:(((t.kind:Nat):Int)==7)=true:=by rw[k7.1];rfl
    have hpos:0<vs.length:=by have:=List.length_pos_iff.2 k7.2;omega
    have q8:decide ((0:Int)<(vs.length:Int))=true:=by simp;omega
    rw[if_pos k7] at HE2
    clear k7
    have HC:Hid _:=dotted_step (HI.out m' (by omega)) p hp hd w _ E E3 s s3 HR4.out HX4.out HK4.out (w.heap.size+1) (by omega) (by omega) (by omega) (by omega) ds vs hl (by omega) a1 vs.length c1 HW4.out HH4.out HIF.out _ HE2.out HO.out
    unfold plV ptrV at HC
    go_wp2_with fail
    refine Calls.mono HC.out ?_
    intro e w5 hok
    cases hF:rdList T dp (N+1) [] p s with
    |out=>exact absurd hF HO.out
    |fail er a=>
     rw[hF] at hok
     obtain⟨⟨b,rfl,hf⟩,hk2⟩:=hok
     have HG:Hid (OkD R M g cap T dp none w E s (RR.fail er a) (.returned (.tuple #[.nilIface,ptrV b])) w5):=⟨⟨b,rfl,hf⟩,hk2⟩
     clear hf hk2
     unfold ptrV
     go_wp2_with fail
     go_ret2
     rw[hF]
     exact HG.out
    |ok d s2=>
     rw[hF] at hok
     obtain⟨v,E2,rfl,⟨ty,y,rfl⟩,hdat,hx2,hr2,hk2⟩:=hok
     have HG:Hid (OkD R M g cap T dp none w E s (RR.ok d s2) (.returned (.tuple #[.iface ty y,.pointer none])) w5):=⟨.iface ty y,E2,rfl,⟨ty,y,rfl⟩,hdat,hx2,hr2,hk2⟩
     clear hdat hx2 hr2 hk2
     go_wp2_with fail
     go_ret2
     rw[hF]
     exact HG.out
   ·rw[if_neg k7] at HE2
    have hq:(((t.kind:Nat):Int)==7)=false∨((((t.kind:Nat):Int)==7)=true∧¬ 0<vs.length∧¬ ((0:Int)<(vs.length:Int))):=by
     by_cases h7:t.kind=7
     ·refine .inr ⟨by rw[h7];rfl,?_⟩
      have:ds=[]:=by
       cases ds with
       |nil=>rfl
       |cons x l=>exact absurd ⟨h7,by simp⟩ k7
      have h0:vs.length=0:=by rw[←hl,this];rfl
      exact⟨by omega,by omega⟩
     ·exact .inl (by rw[beq_eq_false_iff_ne];omega)
    clear k7
    have hne:rdFrom T dp m' t p s3≠ .out:=fun h=>HO.out (by rw[HE2.out,h];rfl)
    have HC:Hid _:=(HI.out m' (by omega)).frm t p (.slice none 0 0) _ E3 s3 HR4.out (HA.out _ _ _) hd hne
    clear hne
    unfold tkV plV ptrV at HC
    obtain⟨i0,hi,hz0,hz1,hz2⟩:=info_parts infoDatum
    rcases hq with q7|⟨q7,q9,q10⟩
    all_goals
     go_wp2_with fail
     refine Calls.mono HC.out ?_
     intro e w5 hok
     cases hF:rdFrom T dp m' t p s3 with
     |out=>exact absurd (by rw[HE2.out,hF];rfl) HO.out
     |fail er a=>
      rw[hF] at hok
      have HE5:Hid (rdList T dp (N+1) [] p s= .fail er a):=by show _=_;rw[HE2.out,hF];rfl
      obtain⟨⟨b,rfl,hf⟩,hk2⟩:=hok
      have HG:Hid (OkD R M g cap T dp none w E s (RR.fail er a) (.returned (.tuple #[.nilIface,ptrV b])) w5):=⟨⟨b,rfl,hf⟩,(Kp.trans HK4.out (KpA.plain hk2)).a none⟩
      clear hf hk2
      unfold ptrV
      go_wp2_with fail
      go_ret2
      rw[HE5.out]
      exact HG.out
     |ok d s5=>
      rw[hF] at hok
      have HE5:Hid (rdList T dp (N+1) [] p s=rdList T dp m' (ds++[d]) p s5):=by show _=_;rw[HE2.out,hF];rfl
      have hg5:=(grows T dp m').frm _ _ _ _ _ hF
      obtain⟨v,E5,rfl,⟨ty,y,rfl⟩,hdat,hx5,hr5,hk5⟩:=hok
      replace hk5:=KpA.plain hk5
      have hs5:=hk5.size
      have HK5:Hid _:=Kp.trans HK4.out hk5
      have HX5:Hid _:=Ext.trans HX4.out hx5 (Kp.size HK4.out) hs5
      have HP5:Hid _:=(hk5.block w.heap.size (by omega) (by omega) (by omega)).trans HP4.out
      have HW5:Hid _:=ownsRow_from HW4.out (Nat.le_refl _) (Kp.ge hk5 (by omega) (by omega))
      have HR5:Hid _:=hr5
      have HD5:Hid _:=hdat
      have HH5:Hid (∀ (j:Nat) d x,ds[j]? =some d→vs[j]? =some x→Held w5 (w.heap.size+1) s5.fresh s5.labs E5 (Value.slice a1 vs.length c1).ownBlock d x):=fun j d x h1 h2=>
       Held.keep (HH4.out j d x h1 h2) (by omega) hx5.fresh hx5.labs hx5.agree (fun b b1 b2 _=>Kp.ge hk5 (lo:=w.heap.size+1) (by omega) (by omega) b b1 b2) (.inl rfl)
      clear hdat hx5 hr5 hk5 hF y0 y1 y2 o0 o1 o2 o3 o4 o5 o6
      have hlow5:∀ k,(Value.slice a1 vs.length c1).ownBlock=some k→w.heap.size+1≤k∧k<w5.heap.size:=World.ownsRow.lt HW5.out
      go_wp2_with (at_builtin;refine wpList_append_rowB rfl _ _ 162 rfl (w.heap.size+1) 58 i0 .nilIface 16 Tryz.underlying162 hi hz0 hz1 hz2 (by decide) rfl _ vs.length vs rfl (World.ownsRow.alloc HW5.out _) ⟨w5.heap.size,0,none⟩ 1 1 [.iface ty y] rfl (by decide) rfl ?c1 ?c2 ?c3 ?c4 ?_)
      case c1=>
       intro j u hj
       match j,hj with
       |0,hj=>simp at hj;subst hj;simp[Addr.add]
      case c2=>intro u hu;simp at hu;subst hu;rfl
      case c3=>omega
      case c4=>simp;omega
      intro v' w6 hown' hgrow hbuf
      obtain⟨hr6,hk6,hb6,hs6⟩:=grown_rd HR5.out HK5.out hgrow (fun k hk=>by have:=hlow5 k hk;omega) (row_lab HW5.out) hrR hrM hrg
      have HR6:Hid _:=hr6
      have HK6:Hid _:=hk6
      have HW6:Hid (w6.ownsRow (w.heap.size+1) 58 1 v' (vs++[Value.iface ty y]).length (vs++[Value.iface ty y])):=by show World.ownsRow _ _ _ _ _ _ _;rw[List.length_append];exact hown'
      have HP6:Hid _:=(hb6 w.heap.size (by omega) (fun e=>by have:=hlow5 _ e.symm;omega)).trans HP5.out
      have hc6:v'.ownBlock=(Value.slice a1 vs.length c1).ownBlock∨∃ b,v'.ownBlock=some b∧w5.heap.size≤b:=hbuf.imp id fun⟨k,k1,k2⟩=>⟨k,k1,Nat.le_trans (by simp) k2⟩
      have HH6:Hid (∀ (j:Nat) d' x,(ds++[d])[j]? =some d'→(vs++[Value.iface ty y])[j]? =some x→Held w6 (w.heap.size+1) s5.fresh s5.labs E5 v'.ownBlock d' x):=fun j d' x h1 h2=>by
       rcases Nat.lt_or_ge j ds.length with hj|hj
       ·rw[List.getElem?_append_left hj] at h1
        rw[List.getElem?_append_left (by omega)] at h2
        exact Held.keep (HH5.out j d' x h1 h2) (by omega) (Nat.le_refl _) (fun _ h=>h) ⟨fun _ _=>rfl,fun _ _=>rfl⟩ (fun b _ b2 b3=>hb6 b b2 b3) hc6
       ·have e0:j=ds.length:=by
         have:=(List.getElem?_eq_some_iff.1 h1).1
         simp at this;omega
        subst e0
        rw[List.getElem?_append_right (Nat.le_refl _)] at h1
        rw[List.getElem?_append_right (by omega)] at h2
        simp at h1
        simp[hl] at h2
        subst h1 h2
        refine⟨⟨_,_,rfl⟩,w5,_,?_,by omega,HD5.out,fun b b1 b2=>hb6 b b2 fun e=>?_,fun b e=>?_⟩
        ·omega
        ·have:=World.ownsRow.lt HW4.out b e.symm;omega
        ·rcases hc6 with q|⟨b',q,q'⟩
         ·have:=World.ownsRow.lt HW4.out b (q.symm.trans e);omega
         ·rw[q] at e;cases e;exact .inr q'
      have hsz6:ds.length+1=vs.length+1:=by omega
      clear hr6 hk6 hown' hgrow hbuf
      obtain⟨a6,c6,rfl⟩:=ownsRow_slice HW6.out
      go_wp2_with fail
      refine⟨⟨m',E5,s5,ds++[d],vs++[Value.iface ty y],by omega,by omega,by simp;omega,by simp;omega,HE5,HR6,Ext.wid HX5.out (Nat.le_refl _) (by omega),HK6,HP6,HW6,HH6⟩,?_⟩
      rw[(cells4 HR6.out.blk).1.2.1,(cells4 HR1.out.blk).1.2.1]
      simp only[Option.getD_some,intOf,Int.toNat_natCast]
      omega
end
theorem vec_dat {lo k:Nat}{L:List Int}{w:World}{E:Env}:∀ (ds:List Dt) (vs:List Value),ds.length=vs.length→(∀ (j:Nat) d x,ds[j]? =some d→vs[j]? =some x→Dat lo k L w E d x)→DatL lo k L w E (vecD ds) vs
 |[],[],_,_=>by unfold vecD DatL;rfl
 |d::ds,x::vs,hl,h=>by
  unfold vecD DatL
  exact⟨x,vs,rfl,h 0 d x (by simp) (by simp),vec_dat ds vs (by simpa using hl) fun j d' x' h1 h2=>h (j+1) d' x' (by simpa using h1) (by simpa using h2)⟩
 |[],_::_,hl,_=>by simp at hl
 |_::_,[],hl,_=>by simp at hl
section
variable {R M g cap:Nat} {T:List Tok} {dp:Nat}
def Env.one (E:Env)(i b:Nat):Env:=⟨fun j=>if j=i then b else E.α j,E.lab⟩
theorem Ext.one {w w':World}{E:Env}{s:RSt}{b:Nat}(h1:w.heap.size≤b)(h2:b<w'.heap.size):Ext w w' E (E.one s.fresh b) s { s with fresh:=s.fresh+1 }:=by
 refine⟨⟨fun i hi=>if_neg (by omega),fun _ _=>rfl⟩,Nat.le_succ _,fun _ h=>h,fun i i1 i2=>?_,fun i j i1 i2 j1 j2 _=>?_⟩
 ·have:i=s.fresh:=by have:i<s.fresh+1:=i2;omega
  subst this
  show w.heap.size≤(if s.fresh=s.fresh then b else _)∧(if s.fresh=s.fresh then b else _)<_
  rw[if_pos rfl];exact⟨h1,h2⟩
 ·have:i<s.fresh+1:=i2
  have:j<s.fresh+1:=j2
  omega
theorem RdAt.name {w:World}{R M g cap:Nat}{T:List Tok}{dp:Nat}{E E':Env}{s s':RSt}(h:RdAt w R M g cap T dp E s)(h1:E'.lab=E.lab)(h2:s'.k=s.k)(h3:s'.labs=s.labs):RdAt w R M g cap T dp E' s':=by
 obtain⟨α,lab⟩:=E'
 obtain⟨k,f,labs⟩:=s'
 simp only at h1 h2 h3
 subst h1 h2 h3
 exact⟨h.rm,h.gr,h.gm,h.blk,h.row,h.lm,h.low,h.inj,h.small,h.deep⟩
set_option maxHeartbeats 8000000 in
set_option maxRecDepth 100000 in
theorem rdVector_step {N:Nat}(ih:∀ n,n≤N→IH R M g cap T dp n)(p:Pl)(hp:p.ahead=[])(w:World)(E:Env)(s:RSt)(hr:RdAt w R M g cap T dp E s)(hd:p.depth≤dp∧p.ahead.length≤p.depth)(r:RR Dt)(hrd:r=(rdVec T dp (N+1) [] p { s with fresh:=s.fresh+1 }).bind fun l s'=> .ok (.vec s.fresh (vecD l)) s')(ho:r≠ .out):
 Calls Tryz.prog 194 #[ptrV R,plV p.depth p.passed (.slice none 0 0)] w fun e w'=>OkD R M g cap T dp none w E s r e w':=by
 have mixed:Tryz.prog.follows Departure.mixedOrders=true:=by kernel_rfl
 have hrR:R<w.heap.size:=hr.lt
 have hrM:M<w.heap.size:=hr.mlt
 have hrg:g<w.heap.size:=(hr.row.lt g rfl).2
 have hb0:Below w.heap.size w ((w.alloc (.cells #[.int .i64 p.depth,.bool p.passed,.slice none 0 0] 128)).alloc (.cells #[.slice none 0 0] 165)):=((Below.refl _ w).alloc (Nat.le_refl _) _).alloc (by simp) _
 have HP:Hid (((w.alloc (.cells #[.int .i64 p.depth,.bool p.passed,.slice none 0 0] 128)).alloc (.cells #[.slice none 0 0] 165)).heap[w.heap.size]? =some (.cells #[.int .i64 p.depth,.bool p.passed,.slice none 0 0] 128)):=(Lib.alloc_old _ _ _ (by simp)).trans (heap_alloc_new w _)
 have HV:Hid (((w.alloc (.cells #[.int .i64 p.depth,.bool p.passed,.slice none 0 0] 128)).alloc (.cells #[.slice none 0 0] 165)).heap[w.heap.size+1]? =some (.cells #[.slice none 0 0] 165)):=alloc2_at w _ _
 have HR:Hid (RdAt ((w.alloc (.cells #[.int .i64 p.depth,.bool p.passed,.slice none 0 0] 128)).alloc (.cells #[.slice none 0 0] 165)) R M g cap T dp (E.one s.fresh (w.heap.size+1)) { s with fresh:=s.fresh+1 }):=RdAt.name (hr.below hb0) rfl rfl rfl
 have HB:Hid _:=hb0
 have HI:Hid _:=ih
 have HO:Hid _:=ho
 have HRD:Hid _:=hrd
 have hsm:=hr.small
 have HA:Hid (∀ (w':World) (E':Env) (s':RSt),AhAt w' E' s' p.ahead (.slice none 0 0)):=fun w' E' s'=>by rw[hp];exact⟨⟨rfl,.inl ⟨rfl,rfl⟩⟩,⟨_,_,_,rfl⟩,fun n hn=>by cases hn⟩
 clear hr hb0 ih ho hrd
 unfold plV ptrV
 go_enter Tryz.func194,Tryz.ntmps194
 go_wp2_with fail
 go_loopw [] (fun wr=>∃ (m:Nat) (E1:Env) (s1:RSt) (ds:List Dt) (vs:List Value) (sv:Value),m≤N+1∧w.heap.size+2≤wr.heap.size∧ds.length=vs.length∧vs.length≤s1.k∧s.fresh<s1.fresh∧E1.α s.fresh=w.heap.size+1∧Hid (r=(rdVec T dp m ds p s1).bind fun l s'=> .ok (.vec s.fresh (vecD l)) s')∧Hid (RdAt wr R M g cap T dp E1 s1)∧Hid (Ext w wr E E1 s s1)∧Hid (Kp R M w wr)∧Hid (wr.heap[w.heap.size]? =some (.cells #[.int .i64 p.depth,.bool p.passed,.slice none 0 0] 128))∧Hid (wr.heap[w.heap.size+1]? =some (.cells #[sv] 165))∧Hid (wr.ownsRow (w.heap.size+2) 58 1 sv vs.length vs)∧Hid (∀ (j:Nat) d x,ds[j]? =some d→vs[j]? =some x→Held wr (w.heap.size+2) s1.fresh s1.labs E1 sv.ownBlock d x)) (fun wr=>T.length+1-(intOf ((wr.cell? ⟨R,1,none⟩).getD undef)).toNat)
 case atStart=>exact⟨N+1,E.one s.fresh (w.heap.size+1),{ s with fresh:=s.fresh+1 },[],[],.slice none 0 0,Nat.le_refl _,by simp,rfl,Nat.zero_le _,Nat.lt_succ_self _,if_pos rfl,HRD.out,HR.out,Ext.one (by omega) (by simp),Kp.of_below HB.out,HP.out,HV.out,World.ownsRow_nil _ _ _ _,fun j d x h=>by simp at h⟩
 case round=>
  obtain⟨m,E1,s1,ds,vs,sv,hm,hsz,hl,hlen,hf1,hE1,HE,HR1,HX,HK,HP1,HV1,HW,HH⟩:=hrel
  have hO1:rdVec T dp m ds p s1≠ .out:=fun h=>HO.out (by rw[HE.out,h];rfl)
  obtain⟨m',rfl⟩:∃ m',m=m'+1:=by
   cases m with
   |zero=>exact absurd (by unfold rdVec;rfl) hO1
   |succ m'=>exact⟨m',rfl⟩
  have HE1:Hid (r=((rdTake T dp m' p s1).bind fun t s=>
   if t.kind=3 then .ok ds s
   else if ds.length=20 then .fail 3 t.from_
   else(rdFrom T dp m' t p s).bind fun d s=>rdVec T dp m' (ds++[d]) p s).bind fun l s'=> .ok (.vec s.fresh (vecD l)) s'):=by
    show _=_
    rw[HE.out]
    conv=>lhs;unfold rdVec
  clear hO1 HE
  obtain⟨a1,c1,rfl⟩:=ownsRow_slice HW.out
  obtain⟨p0,p1,p2⟩:=cells3 HP1.out
  have hne:rdTake T dp m' p s1≠ .out:=fun h=>HO.out (by rw[HE1.out,h];rfl)
  have HT:Hid _:=(HI.out m' (by omega)).take p (.slice none 0 0) _ E1 s1 HR1.out (HA.out _ _ _) hd hne
  clear hne
  cases hT:rdTake T dp m' p s1 with
  |out=>exact absurd (by rw[HE1.out,hT];rfl) HO.out
  |fail er a=>
   rw[hT] at HT
   have HE2:Hid (r= .fail er a):=by show _=_;rw[HE1.out,hT];rfl
   unfold plV ptrV at HT
   go_wp2_with fail
   refine Calls.mono HT.out ?_
   rintro e w2 ⟨⟨b,t,rfl,hf⟩,hk⟩
   have HF:Hid _:=hf
   have HK3:Hid _:=hk
   clear hf hk HT
   unfold tkV ptrV
   go_wp2_with fail
   go_ret2
   rw[HE2.out]
   exact⟨⟨b,rfl,FaultAt.alloc HF.out _⟩,(Kp.trans (Kp.trans HK.out HK3.out) (Kp.of_below ((Below.refl _ _).alloc (Nat.le_refl _) _))).a none⟩
  |ok t s3=>
   have htl:=take_lt hT
   rw[hT] at HT
   have HE2:Hid (r=(if t.kind=3 then .ok ds s3
   else if ds.length=20 then .fail 3 t.from_
   else(rdFrom T dp m' t p s3).bind fun d s=>rdVec T dp m' (ds++[d]) p s:RR (List Dt)).bind fun l s'=> .ok (.vec s.fresh (vecD l)) s'):=by show _=_;rw[HE1.out,hT];rfl
   unfold plV ptrV at HT
   go_wp2_with fail
   refine Calls.mono HT.out ?_
   rintro e w2 ⟨E3,rfl,hx3,hr3,hk3⟩
   have hs3:=hk3.size
   have hb4:Below w2.heap.size w2 (w2.alloc (.cells #[.int .i64 t.kind,.int .i64 t.from_,.int .i64 t.to_,.string ⟨⟨t.text⟩⟩,.int .i64 t.n,.int .i64 t.d,.int .i64 t.fault] 131)):=(Below.refl _ w2).alloc (Nat.le_refl _) _
   have hs4:(w2.alloc (.cells #[.int .i64 t.kind,.int .i64 t.from_,.int .i64 t.to_,.string ⟨⟨t.text⟩⟩,.int .i64 t.n,.int .i64 t.d,.int .i64 t.fault] 131)).heap.size=w2.heap.size+1:=by simp
   have hk4:=Kp.trans hk3 (Kp.of_below hb4)
   have HR4:Hid _:=hr3.below hb4
   have HK4:Hid _:=Kp.trans HK.out hk4
   have HX4:Hid _:=Ext.wid (w:=w) (w3:=(w2.alloc (.cells #[.int .i64 t.kind,.int .i64 t.from_,.int .i64 t.to_,.string ⟨⟨t.text⟩⟩,.int .i64 t.n,.int .i64 t.d,.int .i64 t.fault] 131))) (Ext.trans HX.out hx3 (Kp.size HK.out) hs3) (Nat.le_refl _) (by omega)
   have HW4:Hid _:=ownsRow_from HW.out (Nat.le_refl _) (Kp.ge hk4 (by omega) (by omega))
   have HH4:Hid (∀ (j:Nat) d x,ds[j]? =some d→vs[j]? =some x→Held (w2.alloc (.cells #[.int .i64 t.kind,.int .i64 t.from_,.int .i64 t.to_,.string ⟨⟨t.text⟩⟩,.int .i64 t.n,.int .i64 t.d,.int .i64 t.fault] 131)) (w.heap.size+2) s3.fresh s3.labs E3 (Value.slice a1 vs.length c1).ownBlock d x):=fun j d x h1 h2=>
    Held.keep (HH.out j d x h1 h2) (by omega) hx3.fresh hx3.labs hx3.agree (fun b b1 b2 _=>Kp.ge hk4 (lo:=w.heap.size+2) (by omega) (by omega) b b1 b2) (.inl rfl)
   have HP4:Hid _:=(hk4.block w.heap.size (by omega) (by omega) (by omega)).trans HP1.out
   have HV4:Hid _:=(hk4.block (w.heap.size+1) (by omega) (by omega) (by omega)).trans HV1.out
   have hf3:s.fresh<s3.fresh:=Nat.lt_of_lt_of_le hf1 hx3.fresh
   have hE3:E3.α s.fresh=w.heap.size+1:=(hx3.agree.1 _ hf1).trans hE1
   obtain⟨y0,y1,y2⟩:=cells3 HP4.out
   have z0:(w2.alloc (.cells #[.int .i64 t.kind,.int .i64 t.from_,.int .i64 t.to_,.string ⟨⟨t.text⟩⟩,.int .i64 t.n,.int .i64 t.d,.int .i64 t.fault] 131)).cell? ⟨w.heap.size+1,0,none⟩=some (.slice a1 vs.length c1):=by simp only[World.cell?,HV4.out];rfl
   have z1:w2.cell? ⟨w.heap.size+1,0,none⟩=some (.slice a1 vs.length c1):=by simp only[World.cell?,(hk3.block (w.heap.size+1) (by omega) (by omega) (by omega)).trans HV1.out];rfl
   obtain⟨⟨o0,o1,o2,o3,o4,o5,o6⟩,-⟩:=cells7 (Below.refl _ _) (heap_alloc_new w2 (.cells #[.int .i64 t.kind,.int .i64 t.from_,.int .i64 t.to_,.string ⟨⟨t.text⟩⟩,.int .i64 t.n,.int .i64 t.d,.int .i64 t.fault] 131))
   have n1:¬ w.heap.size+1=w2.heap.size:=by omega
   have n2:w.heap.size+1<w2.heap.size:=by omega
   clear hx3 hr3 hk3 hk4 hb4 HT p0 p1 p2
   unfold tkV
   by_cases k3:t.kind=3
   ·have q3:(((t.kind:Nat):Int)==3)=true:=by rw[k3];rfl
    rw[if_pos k3] at HE2
    clear k3
    have HG:Hid (OkD R M g cap T dp none w E s (.ok (.vec s.fresh (vecD ds)) s3) (.returned (.tuple #[.iface 163 (ptrV (w.heap.size+1)),.pointer none])) (w2.alloc (.cells #[.int .i64 t.kind,.int .i64 t.from_,.int .i64 t.to_,.string ⟨⟨t.text⟩⟩,.int .i64 t.n,.int .i64 t.d,.int .i64 t.fault] 131))):=by
     refine⟨_,E3,rfl,⟨_,_,rfl⟩,?_,HX4.out,HR4.out,Kp.a HK4.out none⟩
     unfold Dat
     refine⟨hf3,by rw[hE3];omega,by rw[hE3],.slice a1 vs.length c1,vs,by rw[hE3];exact HV4.out,ownsRow_from HW4.out (by omega) fun _ _ _=>rfl,vec_dat ds vs hl fun j d x h1 h2=>?_⟩
     exact Dat.keep (by omega) (Nat.le_refl _) (fun _ h=>h) (fun _ _ _=>rfl) ⟨fun _ _=>rfl,fun _ _=>rfl⟩ d x (HH4.out j d x h1 h2).dat
    go_wp2_with fail
    go_ret2
    rw[HE2.out]
    exact HG.out
   have q3:(((t.kind:Nat):Int)==3)=false:=by rw[beq_eq_false_iff_ne];omega
   rw[if_neg k3] at HE2
   clear k3
   by_cases k7:ds.length=20
   ·have q7:(((vs.length:Nat):Int)==20)=true:=by rw[←hl,k7];rfl
    rw[if_pos k7] at HE2
    clear k7
    go_wp2_with fail
    go_region
    go_wp2_with fail
    go_ret2
    rw[HE2.out]
    refine⟨⟨w2.heap.size+1,rfl,?_⟩,(Kp.trans HK4.out (Kp.of_below (((Below.refl _ _).alloc (Nat.le_refl _) _).drew))).a none⟩
    exact alloc2_at w2 _ _
   ·rw[if_neg k7] at HE2
    have q7:(((vs.length:Nat):Int)==20)=false:=by rw[beq_eq_false_iff_ne];omega
    clear k7
    have hne:rdFrom T dp m' t p s3≠ .out:=fun h=>HO.out (by rw[HE2.out,h];rfl)
    have HC:Hid _:=(HI.out m' (by omega)).frm t p (.slice none 0 0) _ E3 s3 HR4.out (HA.out _ _ _) hd hne
    clear hne
    unfold tkV plV ptrV at HC
    obtain⟨i0,hi,hz0,hz1,hz2⟩:=info_parts infoDatum
    go_wp2_with fail
    refine Calls.mono HC.out ?_
    intro e w5 hok
    cases hF:rdFrom T dp m' t p s3 with
    |out=>exact absurd (by rw[HE2.out,hF];rfl) HO.out
    |fail er a=>
     rw[hF] at hok
     have HE5:Hid (r= .fail er a):=by show _=_;rw[HE2.out,hF];rfl
     obtain⟨⟨b,rfl,hf⟩,hk2⟩:=hok
     have HG:Hid (OkD R M g cap T dp none w E s (RR.fail er a) (.returned (.tuple #[.nilIface,ptrV b])) w5):=⟨⟨b,rfl,hf⟩,(Kp.trans HK4.out (KpA.plain hk2)).a none⟩
     clear hf hk2
     unfold ptrV
     go_wp2_with fail
     go_ret2
     rw[HE5.out]
     exact HG.out
    |ok d s5=>
     rw[hF] at hok
     have HE5:Hid (r=(rdVec T dp m' (ds++[d]) p s5).bind fun l s'=> .ok (.vec s.fresh (vecD l)) s'):=by show _=_;rw[HE2.out,hF];rfl
     have hg5:=(grows T dp m').frm _ _ _ _ _ hF
     obtain⟨v,E5,rfl,⟨ty,y,rfl⟩,hdat,hx5,hr5,hk5⟩:=hok
     replace hk5:=KpA.plain hk5
     have hs5:=hk5.size
     have HK5:Hid _:=Kp.trans HK4.out hk5
     have HX5:Hid _:=Ext.trans HX4.out hx5 (Kp.size HK4.out) hs5
     have HP5:Hid _:=(hk5.block w.heap.size (by omega) (by omega) (by omega)).trans HP4.out
     have HV5:Hid _:=(hk5.block (w.heap.size+1) (by omega) (by omega) (by omega)).trans HV4.out
     have HW5:Hid _:=ownsRow_from HW4.out (Nat.le_refl _) (Kp.ge hk5 (by omega) (by omega))
     have HR5:Hid _:=hr5
     have HD5:Hid _:=hdat
     have hf5:s.fresh<s5.fresh:=Nat.lt_of_lt_of_le hf3 hx5.fresh
     have hE5:E5.α s.fresh=w.heap.size+1:=(hx5.agree.1 _ hf3).trans hE3
     have HH5:Hid (∀ (j:Nat) d x,ds[j]? =some d→vs[j]? =some x→Held w5 (w.heap.size+2) s5.fresh s5.labs E5 (Value.slice a1 vs.length c1).ownBlock d x):=fun j d x h1 h2=>
      Held.keep (HH4.out j d x h1 h2) (by omega) hx5.fresh hx5.labs hx5.agree (fun b b1 b2 _=>Kp.ge hk5 (lo:=w.heap.size+2) (by omega) (by omega) b b1 b2) (.inl rfl)
     have z5:w5.cell? ⟨w.heap.size+1,0,none⟩=some (.slice a1 vs.length c1):=by simp only[World.cell?,HV5.out];rfl
     have n5:¬ w.heap.size+1=w5.heap.size:=by omega
     have n6:w.heap.size+1<w5.heap.size:=by omega
     clear hdat hx5 hr5 hk5 hF y0 y1 y2 o0 o1 o2 o3 o4 o5 o6 z0 z1 n1 n2
     have hlow5:∀ k,(Value.slice a1 vs.length c1).ownBlock=some k→w.heap.size+2≤k∧k<w5.heap.size:=World.ownsRow.lt HW5.out
     go_wp2_with (at_builtin;refine wpList_append_rowB rfl _ _ 162 rfl (w.heap.size+2) 58 i0 .nilIface 16 Tryz.underlying162 hi hz0 hz1 hz2 (by decide) rfl _ vs.length vs rfl (World.ownsRow.alloc HW5.out _) ⟨w5.heap.size,0,none⟩ 1 1 [.iface ty y] rfl (by decide) rfl ?c1 ?c2 ?c3 ?c4 ?_)
     case c1=>
      intro j u hj
      match j,hj with
      |0,hj=>simp at hj;subst hj;simp[Addr.add]
     case c2=>intro u hu;simp at hu;subst hu;rfl
     case c3=>omega
     case c4=>simp;omega
     intro v' w6 hown' hgrow hbuf
     obtain⟨hr6,hk6,hb6,hs6⟩:=grown_rd HR5.out HK5.out hgrow (fun k hk=>by have:=hlow5 k hk;omega) (row_lab HW5.out) hrR hrM hrg
     have hv6:=(hb6 (w.heap.size+1) (by omega) (fun e=>by have:=hlow5 _ e.symm;omega)).trans HV5.out
     obtain⟨g6,z6⟩:w6.cell? ⟨w.heap.size+1,0,none⟩=some (.slice a1 vs.length c1)∧w6.frozen? ⟨w.heap.size+1,0,none⟩=false:=by constructor<;>simp[World.cell?,World.frozen?,hv6]
     have HS7:Hid (∀ b,b≠w.heap.size+1→(w6.setCell ⟨w.heap.size+1,0,none⟩ v').heap[b]? =w6.heap[b]?):=fun b hb=>Below.heap_setCell _ _ _ _ hb
     have HV7:Hid ((w6.setCell ⟨w.heap.size+1,0,none⟩ v').heap[w.heap.size+1]? =some (.cells #[v'] 165)):=blk_set hv6 0 v'
     have hs7:(w6.setCell ⟨w.heap.size+1,0,none⟩ v').heap.size=w6.heap.size:=by simp
     have HR7:Hid (RdAt (w6.setCell ⟨w.heap.size+1,0,none⟩ v') R M g cap T dp E5 s5):=RdAt.step hr6 (k:=s5.k) ((HS7.out R (by omega)).trans hr6.blk) (by omega) (fun b _ b2=>HS7.out b (by omega)) fun b x hb=>HS7.out b (fun e=>by rw[e,hv6] at hb;simp at hb)
     have HK7:Hid (Kp R M w (w6.setCell ⟨w.heap.size+1,0,none⟩ v')):=Kp.then_below hk6 ((Below.refl _ _).setCell (p:=⟨w.heap.size+1,0,none⟩) (by show w.heap.size≤w.heap.size+1;omega) _)
     have HW7:Hid ((w6.setCell ⟨w.heap.size+1,0,none⟩ v').ownsRow (w.heap.size+2) 58 1 v' (vs++[Value.iface ty y]).length (vs++[Value.iface ty y])):=by
      show World.ownsRow _ _ _ _ _ _ _
      rw[List.length_append]
      exact ownsRow_from hown' (Nat.le_refl _) fun b b1 _=>HS7.out b (by omega)
     have HP7:Hid _:=(HS7.out w.heap.size (by omega)).trans ((hb6 w.heap.size (by omega) (fun e=>by have:=hlow5 _ e.symm;omega)).trans HP5.out)
     have hc6:v'.ownBlock=(Value.slice a1 vs.length c1).ownBlock∨∃ b,v'.ownBlock=some b∧w5.heap.size≤b:=hbuf.imp id fun⟨k,k1,k2⟩=>⟨k,k1,Nat.le_trans (by simp) k2⟩
     have HH7:Hid (∀ (j:Nat) d' x,(ds++[d])[j]? =some d'→(vs++[Value.iface ty y])[j]? =some x→Held (w6.setCell ⟨w.heap.size+1,0,none⟩ v') (w.heap.size+2) s5.fresh s5.labs E5 v'.ownBlock d' x):=fun j d' x h1 h2=>by
      rcases Nat.lt_or_ge j ds.length with hj|hj
      ·rw[List.getElem?_append_left hj] at h1
       rw[List.getElem?_append_left (by omega)] at h2
       exact Held.keep (HH5.out j d' x h1 h2) (by omega) (Nat.le_refl _) (fun _ h=>h) ⟨fun _ _=>rfl,fun _ _=>rfl⟩ (fun b b1 b2 b3=>(HS7.out b (by omega)).trans (hb6 b b2 b3)) hc6
      ·have e0:j=ds.length:=by
        have:=(List.getElem?_eq_some_iff.1 h1).1
        simp at this;omega
       subst e0
       rw[List.getElem?_append_right (Nat.le_refl _)] at h1
       rw[List.getElem?_append_right (by omega)] at h2
       simp at h1
       simp[hl] at h2
       subst h1 h2
       refine⟨⟨_,_,rfl⟩,w5,_,?_,by omega,HD5.out,fun b b1 b2=>(HS7.out b (by omega)).trans (hb6 b b2 fun e=>?_),fun b e=>?_⟩
       ·omega
       ·have:=World.ownsRow.lt HW4.out b e.symm;omega
       ·rcases hc6 with q|⟨b',q,q'⟩
        ·have:=World.ownsRow.lt HW4.out b (q.symm.trans e);omega
        ·rw[q] at e;cases e;exact .inr q'
     obtain⟨a6,c6,rfl⟩:=ownsRow_slice hown'
     clear hr6 hk6 hown' hgrow hbuf
     go_wp2_with fail
     refine⟨⟨m',E5,s5,ds++[d],vs++[Value.iface ty y],_,by omega,by omega,by simp;omega,by simp;omega,hf5,hE5,HE5,HR7,Ext.wid HX5.out (Nat.le_refl _) (by omega),HK7,HP7,HV7,HW7,HH7⟩,?_⟩
     rw[(cells4 HR7.out.blk).1.2.1,(cells4 HR1.out.blk).1.2.1]
     simp only[Option.getD_some,intOf,Int.toNat_natCast]
     omega
end
theorem row2 (w:World)(x y:Value):(w.alloc (.cells #[x,y] 58)).ownsRow w.heap.size 58 1 (.slice (some ⟨w.heap.size,0,none⟩) 2 2) 2 [x,y]:=
 ⟨rfl,.inr ⟨w.heap.size,2,#[x,y],rfl,Nat.le_refl _,heap_alloc_new w _,Nat.le_refl _,by decide,rfl,rfl⟩⟩
section
variable {R M g cap:Nat} {T:List Tok} {dp:Nat}
set_option maxHeartbeats 8000000 in
set_option maxRecDepth 100000 in
theorem quote_step {n:Nat}(ih:IH R M g cap T dp n)(p:Pl)(hp:p.ahead=[])(w:World)(E:Env)(s:RSt)(hr:RdAt w R M g cap T dp E s)(hd:p.depth≤dp∧p.ahead.length≤p.depth)(r:RR Dt)(hrd:r=(rdDatum T dp n p s).bind fun d s=> .ok (chainD [.sym [113,117,111,116,101],d] .nil s.fresh).1 { s with fresh:=s.fresh+2 })(ho:r≠ .out):
 Calls Tryz.prog 195 #[ptrV R,plV p.depth p.passed (.slice none 0 0)] w fun e w'=>OkD R M g cap T dp none w E s r e w':=by
 have mixed:Tryz.prog.follows Departure.mixedOrders=true:=by kernel_rfl
 have hb0:Below w.heap.size w (w.alloc (.cells #[.int .i64 p.depth,.bool p.passed,.slice none 0 0] 128)):=(Below.refl _ w).alloc (Nat.le_refl _) _
 have HR:Hid _:=hr.below hb0
 have HK:Hid (Kp R M w (w.alloc (.cells #[.int .i64 p.depth,.bool p.passed,.slice none 0 0] 128))):=Kp.of_below hb0
 have hsz0:(w.alloc (.cells #[.int .i64 p.depth,.bool p.passed,.slice none 0 0] 128)).heap.size=w.heap.size+1:=by simp
 have hne:rdDatum T dp n p s≠ .out:=fun h=>ho (by rw[hrd,h];rfl)
 have HT:Hid _:=ih.datum p (.slice none 0 0) _ E s HR.out (by rw[hp];exact⟨⟨rfl,.inl ⟨rfl,rfl⟩⟩,⟨_,_,_,rfl⟩,fun n hn=>by cases hn⟩) hd hne
 have HO:Hid _:=ho
 have HRD:Hid _:=hrd
 have hrR:R<w.heap.size:=hr.lt
 have hrM:M<w.heap.size:=hr.mlt
 clear hr hb0 ih ho hne hrd
 generalize hw0:w.alloc (.cells #[.int .i64 p.depth,.bool p.passed,.slice none 0 0] 128)=w0 at *
 have HW0:Hid _:=hw0
 clear hw0
 cases hT:rdDatum T dp n p s with
 |out=>exact absurd (by rw[HRD.out,hT];rfl) HO.out
 |fail er a=>
  rw[hT] at HT
  have HE:Hid (r= .fail er a):=by show _=_;rw[HRD.out,hT];rfl
  unfold plV ptrV at HT ⊢
  go_enter Tryz.func195,Tryz.ntmps195
  go_wp2_with fail
  rw[HW0.out]
  refine Calls.mono HT.out ?_
  rintro e w1 ⟨⟨b,rfl,hf⟩,hk⟩
  have HF:Hid _:=hf
  have HK1:Hid _:=KpA.plain hk
  clear hf hk HT
  unfold ptrV
  go_wp2_with fail
  go_ret2
  rw[HE.out]
  exact⟨⟨b,rfl,HF.out⟩,(Kp.trans HK.out HK1.out).a none⟩
 |ok d s2=>
  rw[hT] at HT
  have HE:Hid (r= .ok (chainD [.sym [113,117,111,116,101],d] .nil s2.fresh).1 { s2 with fresh:=(chainD [.sym [113,117,111,116,101],d] .nil s2.fresh).2 }):=by show _=_;rw[HRD.out,hT];rfl
  unfold plV ptrV at HT ⊢
  go_enter Tryz.func195,Tryz.ntmps195
  go_wp2_with fail
  rw[HW0.out]
  refine Calls.mono HT.out ?_
  rintro e w1 ⟨vr,E2,rfl,⟨ty,yy,rfl⟩,hdat,hx2,hr2,hk2⟩
  replace hk2:=KpA.plain hk2
  have hs1:=hk2.size
  have HD:Hid _:=hdat
  have HX:Hid (Ext w w1 E E2 s s2):=Ext.wid hx2 (by omega) (Nat.le_refl _)
  have HR2:Hid _:=hr2
  have HK2:Hid _:=Kp.trans HK.out hk2
  clear hdat hx2 hr2 hk2 HT
  have hb3:Below w1.heap.size w1 (w1.alloc (.cells #[.iface 168 (.agg #[.string ⟨#[113,117,111,116,101]⟩]),.iface ty yy] 58)):=(Below.refl _ w1).alloc (Nat.le_refl _) _
  have hs3:(w1.alloc (.cells #[.iface 168 (.agg #[.string ⟨#[113,117,111,116,101]⟩]),.iface ty yy] 58)).heap.size=w1.heap.size+1:=by simp
  have HC:Hid _:=chain_row [.iface 168 (.agg #[.string ⟨#[113,117,111,116,101]⟩]),.iface ty yy] (.slice (some ⟨w1.heap.size,0,none⟩) 2 2) w1.heap.size (.iface 272 (.agg #[])) (w1.alloc (.cells #[.iface 168 (.agg #[.string ⟨#[113,117,111,116,101]⟩]),.iface ty yy] 58)) (row2 w1 _ _) (by simp) (fun x hx=>by simp at hx;rcases hx with rfl|rfl<;>exact⟨_,_,rfl⟩) ⟨_,_,rfl⟩
  have HB3:Hid _:=hb3
  clear hb3
  go_wp2_with fail
  refine Calls.mono HC.out ?_
  rintro e w5 ⟨v,rfl,hc,hs5,hb5⟩
  obtain⟨tv,yv,rfl⟩:=hc.iface ⟨_,_,rfl⟩
  have HG:Hid _:=chain_fin (T:=T) (dp:=dp) (g:=g) (cap:=cap) (w:=w) (lo:=w0.heap.size) (ds:=[.sym [113,117,111,116,101],d]) (rest:= .nil) (s1:=s2) (E1:=E2) (by omega) (by omega)
   (fun j d' x h1 h2=>by
     match j,h1,h2 with
     |0,h1,h2=>simp at h1 h2;subst h1 h2;unfold Dat;rfl
     |1,h1,h2=>
      simp at h1 h2;subst h1 h2
      exact Dat.keep (Nat.le_refl _) (Nat.le_refl _) (fun _ h=>h) (fun b _ h=>HB3.out.block b h) ⟨fun _ _=>rfl,fun _ _=>rfl⟩ _ _ HD.out
     |j+2,h1,_=>simp at h1) (by unfold Dat;rfl) rfl ⟨_,_,rfl⟩ hc hs5 hb5 (RdAt.below HR2.out HB3.out) (Ext.wid (w:=w) HX.out (Nat.le_refl _) (by omega)) (Kp.trans HK2.out (Kp.of_below HB3.out))
  clear hc hb5
  go_wp2_with fail
  go_ret2
  rw[HE.out]
  exact HG.out
end
end Go.Proofs.YtlhimdjkkiflhaaGreatDoor
