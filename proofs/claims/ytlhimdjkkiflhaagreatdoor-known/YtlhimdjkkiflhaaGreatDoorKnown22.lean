import Derived.Test.YtlhimdjkkiflhaaGreatDoorKnown21
set_option maxHeartbeats 8000000
set_option maxRecDepth 100000
namespace Go.Proofs.YtlhimdjkkiflhaaGreatDoor
open Go.Proofs.Tryz
open Go.RowKit Go.Loop
theorem bh {w:World}{lo:Nat}{e:TypeId}{z:Nat}{v:Value}{n:Nat}{xs:List Value}(h:w.ownsRow lo e z v n xs):∃a c,v=.slice a n c:=by
 rcases h.2 with⟨rfl,rfl⟩|⟨g,cap,cur,rfl,_⟩
 ·exact⟨_,_,rfl⟩
 ·exact⟨_,_,rfl⟩
theorem Db {R M g cap:Nat}{T:List Tok}{dp:Nat}{E:Env}{s:gW}{w w5 w6:World}{row:Option Nat}{A:Obj}(hr:bE w5 R M g cap T dp E s)(hk:Kp R M w w5)(hg:(w5.alloc A).grownBy w6 row)(hrow:∀k,row=some k→w.heap.size≤k)(F6:∀(b:Nat) (v:Value),w5.heap[b]?=some (.cells #[v] 215)→some b≠row)(h1:R<w.heap.size)(h2:M<w.heap.size)(h3:g<w.heap.size):bE w6 R M g cap T dp E s∧Kp R M w w6∧(∀b,b<w5.heap.size→some b≠row→w6.heap[b]?=w5.heap[b]?)∧w5.heap.size+1≤w6.heap.size:=by
 have hs:(w5.alloc A).heap.size=w5.heap.size+1:=by simp
 have hb:∀b,b<w5.heap.size→some b≠row→w6.heap[b]?=w5.heap[b]?:=λb h h'=>(hg.block b (by omega) h').trans (Lib.alloc_old _ _ _ h);have hz:=hg.size;have dV:∀b,b<w.heap.size→some b≠row:=λb h e=>by have:=hrow b e.symm;omega
 have h5:=hk.size;refine⟨?_,⟨hg.os.trans hk.os,hg.tape.trans hk.tape,hg.output.trans hk.output,by omega,λb b1 b2 b3=>(hb b (by omega) (dV b b1)).trans (hk.block b b1 b2 b3)⟩,hb,by omega⟩;exact bE.step hr (k:=s.k) ((hb R (by omega) (dV R h1)).trans hr.blk) (by omega) (λb b1 b2=>hb b b1 (b2.elim (λe=>by rw[e];exact dV g h3) (λe=>by rw[e];exact dV M h2))) λb v hv=>hb b (zac.1 hv).1 (F6 b v hv)
theorem Iu {w:World}{lo:Nat}{v:Value}{n:Nat}{xs:List Value}(h:w.ownsRow lo 58 1 v n xs):∀(b:Nat) (x:Value),w.heap[b]?=some (.cells #[x] 215)→some b≠v.ownBlock:=by
 intro b x hb e;rcases h.2 with⟨rfl,_⟩|⟨g,cap,cur,rfl,_,hg,_⟩
 ·cases e
 ·have:b=g:=by cases e;rfl
  rw[this,hg]at hb;simp at hb
section
variable {R M g cap:Nat}{T:List Tok}{dp:Nat}
theorem Ko {N:Nat}(ih:∀n,n≤N→IH R M g cap T dp n)(p:Pl)(hp:p.ahead=[])(w:World)(E:Env)(s:gW)(hr:bE w R M g cap T dp E s)(hd:p.depth≤dp∧p.ahead.length≤p.depth)(ho:dh T dp (N+1) [] p s≠.out):Calls prog 196 #[au R,gA p.depth p.passed (.slice none 0 0)] w λe w'=>jD R M g cap T dp none w E s (dh T dp (N+1) [] p s) e w':=by
 have mixed:prog.follows Departure.mixedOrders=true:=by kernel_rfl
 have LP:R<w.heap.size:=hr.lt;have k8:M<w.heap.size:=hr.mlt;have hrg:g<w.heap.size:=(hr.row.lt g rfl).2;have hb0:Below w.heap.size w (w.alloc (.cells #[.int .i64 p.depth,.bool p.passed,.slice none 0 0] 128)):=(Below.refl _ w).alloc (zaa _) _;have HP:Hid _:=heap_alloc_new w (.cells #[.int .i64 p.depth,.bool p.passed,.slice none 0 0] 128);have HR:Hid _:=hr.below hb0;have HB:Hid _:=hb0;have HI:Hid _:=ih;have HO:Hid _:=ho;have hsm:=hr.small;have HA:Hid (∀(w':World) (E':Env) (s':gW),iJ w' E' s' p.ahead (.slice none 0 0)):=λw' E' s'=>by rw[hp];exact⟨⟨rfl,.inl ⟨rfl,rfl⟩⟩,⟨_,_,_,rfl⟩,λn hn=>by cases hn⟩
 clear hr hb0 ih ho;unfold gA au;go_enter func196,ntmps196;go_wp2_with fail;go_loopw [6] (λsv wr=>∃(m:Nat) (E1:Env) (s1:gW) (ds:List Dt) (vs:List Value),m≤N+1∧w.heap.size+1≤wr.heap.size∧ds.length=vs.length∧vs.length≤s1.k∧Hid (dh T dp (N+1) [] p s=dh T dp m ds p s1)∧Hid (bE wr R M g cap T dp E1 s1)∧Hid (Ext w wr E E1 s s1)∧Hid (Kp R M w wr)∧Hid (wr.heap[w.heap.size]?=some (.cells #[.int .i64 p.depth,.bool p.passed,.slice none 0 0] 128))∧Hid (wr.ownsRow (w.heap.size+1) 58 1 sv vs.length vs)∧Hid (∀(j:Nat) d x,ds[j]?=some d→vs[j]?=some x→Held wr (w.heap.size+1) s1.fresh s1.aP E1 sv.ownBlock d x)) (λ_ wr=>T.length+1-(intOf ((wr.cell? ⟨R,1,none⟩).getD undef)).toNat)
 case atStart=>exact⟨N+1,E,s,[],[],zaa _,by simp,rfl,zah _,rfl,HR.out,Ext.refl rfl rfl,Kp.ay HB.out,HP.out,World.ownsRow_nil _ _ _ _,λj d x h=>by simp at h⟩
 case round=>
  obtain⟨m,E1,s1,ds,vs,hm,hsz,hl,hlen,HE,kK,HX,HK,PT,HW,HH⟩:=hrel;have FJ:dh T dp m ds p s1≠.out:=by rw[←HE.out];exact HO.out
  obtain⟨m',rfl⟩:∃m',m=m'+1:=by
   cases m with
   |zero=>exact absurd (by unfold dh;rfl) FJ
   |succ m'=>exact⟨m',rfl⟩
  have F7:Hid (dh T dp (N+1) [] p s=(bq T dp m' p s1).bind λt s=>
   if t.kind=3 then .ok (bO ds .nil s.fresh).1 { s with fresh:=(bO ds .nil s.fresh).2 }
   else if t.kind=7∧ds≠[]then
    (aV T dp m' p s).bind λrest s=>(bq T dp m' p s).bind λt s=>
      if t.kind=3 then .ok (bO ds rest s.fresh).1 { s with fresh:=(bO ds rest s.fresh).2 } else .fail 3 t.from_
   else(cJ T dp m' t p s).bind λd s=>dh T dp m' (ds++[d]) p s):=by
    show _=_;rw[HE.out]
    conv=>lhs;unfold dh
  clear FJ HE;obtain⟨a1,c1,rfl⟩:=bh HW.out;obtain⟨p0,p1,p2⟩:=eE PT.out;have hne:bq T dp m' p s1≠.out:=λh=>HO.out (by rw[F7.out,h];rfl);have HT:Hid _:=(HI.out m' (by omega)).take p (.slice none 0 0) _ E1 s1 kK.out (HA.out _ _ _) hd hne;have Ti:∀x∈vs,∃t y,x=.iface t y:=λx hx=>by
   obtain⟨j,hj,rfl⟩:=List.getElem_of_mem hx;exact(HH.out j (ds[j]'(by omega)) vs[j] (zaf (by omega)) (zaf hj)).1
  have HIF:Hid _:=Ti;clear hne Ti;cases hT:bq T dp m' p s1 with
  |out=>exact absurd (by rw[F7.out,hT];rfl) HO.out
  |fail er a=>
   rw[hT]at HT;have jk:Hid (dh T dp (N+1) [] p s=.fail er a):=by show _=_;rw[F7.out,hT];rfl
   unfold gA au at HT;go_wp2_with fail;refine Calls.mono HT.out ?_;rintro e w2 ⟨⟨b,t,rfl,hf⟩,hk⟩;have HF:Hid _:=hf;have lS:Hid _:=hk;clear hf hk HT;unfold aX au;go_wp2_with fail;go_ret2;rw[jk.out];exact⟨⟨b,rfl,cy.alloc HF.out _⟩,(Kp.trans (Kp.trans HK.out lS.out) (Kp.ay ((Below.refl _ _).alloc (zaa _) _))).a none⟩
  |ok t s3=>
   have htl:=Ir hT;rw[hT]at HT;have jk:Hid (dh T dp (N+1) [] p s=if t.kind=3 then .ok (bO ds .nil s3.fresh).1 { s3 with fresh:=(bO ds .nil s3.fresh).2 }
   else if t.kind=7∧ds≠[]then
    (aV T dp m' p s3).bind λrest s=>(bq T dp m' p s).bind λt s=>
      if t.kind=3 then .ok (bO ds rest s.fresh).1 { s with fresh:=(bO ds rest s.fresh).2 } else .fail 3 t.from_
   else(cJ T dp m' t p s3).bind λd s=>dh T dp m' (ds++[d]) p s):=by show _=_;rw[F7.out,hT];rfl
   unfold gA au at HT;go_wp2_with fail;refine Calls.mono HT.out ?_;rintro e w2 ⟨E3,rfl,hx3,hr3,hk3⟩;have hs3:=hk3.size;have hb4:Below w2.heap.size w2 (w2.alloc (.cells #[.int .i64 t.kind,.int .i64 t.from_,.int .i64 t.cA,.string ⟨⟨t.text⟩⟩,.int .i64 t.n,.int .i64 t.d,.int .i64 t.fault] 131)):=(Below.refl _ w2).alloc (zaa _) _;have LK:(w2.alloc (.cells #[.int .i64 t.kind,.int .i64 t.from_,.int .i64 t.cA,.string ⟨⟨t.text⟩⟩,.int .i64 t.n,.int .i64 t.d,.int .i64 t.fault] 131)).heap.size=w2.heap.size+1:=by simp
   have hk4:=Kp.trans hk3 (Kp.ay hb4);have LQ:Hid _:=hr3.below hb4;have qo:Hid _:=Kp.trans HK.out hk4;have Xi:Hid _:=Ext.wid (w:=w) (w3:=(w2.alloc (.cells #[.int .i64 t.kind,.int .i64 t.from_,.int .i64 t.cA,.string ⟨⟨t.text⟩⟩,.int .i64 t.n,.int .i64 t.d,.int .i64 t.fault] 131))) (Ext.trans HX.out hx3 (Kp.size HK.out) hs3) (zaa _) (by omega);have ui:Hid _:=bg HW.out (zaa _) (Kp.ge hk4 (by omega) (by omega));have Xj:Hid (∀(j:Nat) d x,ds[j]?=some d→vs[j]?=some x→Held (w2.alloc (.cells #[.int .i64 t.kind,.int .i64 t.from_,.int .i64 t.cA,.string ⟨⟨t.text⟩⟩,.int .i64 t.n,.int .i64 t.d,.int .i64 t.fault] 131)) (w.heap.size+1) s3.fresh s3.aP E3 (Value.slice a1 vs.length c1).ownBlock d x):=λj d x h1 h2=>
    Held.keep (HH.out j d x h1 h2) (by omega) hx3.fresh hx3.aP hx3.agree (λb b1 b2 _=>Kp.ge hk4 (lo:=w.heap.size+1) (by omega) (by omega) b b1 b2) (.inl rfl)
   have Zm:Hid _:=(hk4.block w.heap.size (by omega) (by omega) (by omega)).trans PT.out;obtain⟨y0,y1,y2⟩:=eE Zm.out;obtain⟨⟨o0,o1,o2,o3,o4,o5,o6⟩,-⟩:=cN (Below.refl _ _) (heap_alloc_new w2 (.cells #[.int .i64 t.kind,.int .i64 t.from_,.int .i64 t.cA,.string ⟨⟨t.text⟩⟩,.int .i64 t.n,.int .i64 t.d,.int .i64 t.fault] 131));clear hx3 hr3 hk3 hk4 hb4 HT p0 p1 p2;unfold aX;by_cases k3:t.kind=3
   ·have q3:(((t.kind:Nat):Int)==3)=true:=by rw[k3];rfl
    rw[if_pos k3]at jk;clear k3;have HC:Hid _:=th vs (.slice a1 vs.length c1) (w.heap.size+1) (.iface 272 (.agg #[])) _ ui.out (by omega) HIF.out ⟨_,_,rfl⟩;go_wp2_with fail;refine Calls.mono HC.out ?_;rintro e w5 ⟨v,rfl,hc,hs5,nP⟩;obtain⟨tv,yv,rfl⟩:=hc.iface ⟨_,_,rfl⟩;have HG:Hid _:=tj (T:=T) (dp:=dp) (g:=g) (cap:=cap) (w:=w) (lo:=w.heap.size+1) (ds:=ds) (rest:= .nil) (s1:=s3) (E1:=E3) (by omega) (by omega)
     (λj d x h1 h2=>(Xj.out j d x h1 h2).Vb) (by unfold ba;rfl) hl ⟨_,_,rfl⟩ hc hs5 nP LQ.out Xi.out qo.out
    clear hc nP;go_wp2_with fail;go_ret2;rw[jk.out];exact HG.out
   have q3:(((t.kind:Nat):Int)==3)=false:=by rw[beq_eq_false_iff_ne];omega
   rw[if_neg k3]at jk;clear k3;by_cases k7:t.kind=7∧ds≠[]
   ·have q7:(((t.kind:Nat):Int)==7)=true:=by rw[k7.1];rfl
    have iP:0<vs.length:=by have:=List.length_pos_iff.2 k7.2;omega
    have q8:decide ((0:Int)<(vs.length:Int))=true:=by simp;omega
    rw[if_pos k7]at jk;clear k7;have HC:Hid _:=Da (HI.out m' (by omega)) p hp hd w _ E E3 s s3 LQ.out Xi.out qo.out (w.heap.size+1) (by omega) (by omega) (by omega) (by omega) ds vs hl (by omega) a1 vs.length c1 ui.out Xj.out HIF.out _ jk.out HO.out;unfold gA au at HC;go_wp2_with fail;refine Calls.mono HC.out ?_;intro e w5 bX;cases hF:dh T dp (N+1) [] p s with
    |out=>exact absurd hF HO.out
    |fail er a=>
     rw[hF]at bX;obtain⟨⟨b,rfl,hf⟩,hk2⟩:=bX;have HG:Hid (jD R M g cap T dp none w E s (RR.fail er a) (.returned (.tuple #[.nilIface,au b])) w5):=⟨⟨b,rfl,hf⟩,hk2⟩;clear hf hk2;unfold au;go_wp2_with fail;go_ret2;rw[hF];exact HG.out
    |ok d s2=>
     rw[hF]at bX;obtain⟨v,E2,rfl,⟨ty,y,rfl⟩,bW,hx2,hr2,hk2⟩:=bX;have HG:Hid (jD R M g cap T dp none w E s (RR.ok d s2) (.returned (.tuple #[.iface ty y,.pointer none])) w5):=⟨.iface ty y,E2,rfl,⟨ty,y,rfl⟩,bW,hx2,hr2,hk2⟩;clear bW hx2 hr2 hk2;go_wp2_with fail;go_ret2;rw[hF];exact HG.out
   ·rw[if_neg k7]at jk;have hq:(((t.kind:Nat):Int)==7)=false∨((((t.kind:Nat):Int)==7)=true∧¬0<vs.length∧¬((0:Int)<(vs.length:Int))):=by
     by_cases h7:t.kind=7
     ·refine .inr ⟨by rw[h7];rfl,?_⟩;have:ds=[]:=by
       cases ds with
       |nil=>rfl
       |cons x l=>exact absurd ⟨h7,by simp⟩ k7
      have h0:vs.length=0:=by rw[←hl,this];rfl
      exact⟨by omega,by omega⟩
     ·exact .inl (by rw[beq_eq_false_iff_ne];omega)
    clear k7;have hne:cJ T dp m' t p s3≠.out:=λh=>HO.out (by rw[jk.out,h];rfl);have HC:Hid _:=(HI.out m' (by omega)).Kf t p (.slice none 0 0) _ E3 s3 LQ.out (HA.out _ _ _) hd hne;clear hne;unfold aX gA au at HC;obtain⟨i0,hi,hz0,hz1,hz2⟩:=info_parts lT;rcases hq with q7|⟨q7,q9,q10⟩
    all_goals
     go_wp2_with fail;refine Calls.mono HC.out ?_;intro e w5 bX;cases hF:cJ T dp m' t p s3 with
     |out=>exact absurd (by rw[jk.out,hF];rfl) HO.out
     |fail er a=>
      rw[hF]at bX;have Vc:Hid (dh T dp (N+1) [] p s=.fail er a):=by show _=_;rw[jk.out,hF];rfl
      obtain⟨⟨b,rfl,hf⟩,hk2⟩:=bX;have HG:Hid (jD R M g cap T dp none w E s (RR.fail er a) (.returned (.tuple #[.nilIface,au b])) w5):=⟨⟨b,rfl,hf⟩,(Kp.trans qo.out (js.plain hk2)).a none⟩;clear hf hk2;unfold au;go_wp2_with fail;go_ret2;rw[Vc.out];exact HG.out
     |ok d s5=>
      rw[hF]at bX;have Vc:Hid (dh T dp (N+1) [] p s=dh T dp m' (ds++[d]) p s5):=by show _=_;rw[jk.out,hF];rfl
      have WT:=(grows T dp m').Kf _ _ _ _ _ hF;obtain⟨v,E5,rfl,⟨ty,y,rfl⟩,bW,BM,PH,qp⟩:=bX;replace qp:=js.plain qp;have hs5:=qp.size;have EL:Hid _:=Kp.trans qo.out qp;have HX5:Hid _:=Ext.trans Xi.out BM (Kp.size qo.out) hs5;have HP5:Hid _:=(qp.block w.heap.size (by omega) (by omega) (by omega)).trans Zm.out;have pI:Hid _:=bg ui.out (zaa _) (Kp.ge qp (by omega) (by omega));have EM:Hid _:=PH;have HD5:Hid _:=bW;have HH5:Hid (∀(j:Nat) d x,ds[j]?=some d→vs[j]?=some x→Held w5 (w.heap.size+1) s5.fresh s5.aP E5 (Value.slice a1 vs.length c1).ownBlock d x):=λj d x h1 h2=>
       Held.keep (Xj.out j d x h1 h2) (by omega) BM.fresh BM.aP BM.agree (λb b1 b2 _=>Kp.ge qp (lo:=w.heap.size+1) (by omega) (by omega) b b1 b2) (.inl rfl)
      clear bW BM PH qp hF y0 y1 y2 o0 o1 o2 o3 o4 o5 o6;have rF:∀k,(Value.slice a1 vs.length c1).ownBlock=some k→w.heap.size+1≤k∧k<w5.heap.size:=World.ownsRow.lt pI.out;go_wp2_with (at_builtin;refine eY rfl _ _ 162 rfl (w.heap.size+1) 58 i0 .nilIface 16 underlying162 hi hz0 hz1 hz2 (by decide) rfl _ vs.length vs rfl (World.ownsRow.alloc pI.out _) ⟨w5.heap.size,0,none⟩ 1 1 [.iface ty y] rfl (by decide) rfl ?c1 ?c2 ?c3 ?c4 ?_)
      case c1=>
       intro j u hj
       match j,hj with
       |0,hj=>simp at hj;subst hj;simp[Addr.add]
      case c2=>intro u hu;simp at hu;subst hu;rfl
      case c3=>omega
      case c4=>simp;omega
      intro v' w6 hown' hgrow kg;obtain⟨yq,LR,mZ,hs6⟩:=Db EM.out EL.out hgrow (λk hk=>by have:=rF k hk;omega) (Iu pI.out) LP k8 hrg;have Kq:Hid _:=yq;have HK6:Hid _:=LR;have Zn:Hid (w6.ownsRow (w.heap.size+1) 58 1 v' (vs++[Value.iface ty y]).length (vs++[Value.iface ty y])):=by show World.ownsRow _ _ _ _ _ _ _;rw[zaL];exact hown'
      have HP6:Hid _:=(mZ w.heap.size (by omega) (λe=>by have:=rF _ e.symm;omega)).trans HP5.out;have Zo:v'.ownBlock=(Value.slice a1 vs.length c1).ownBlock∨∃b,v'.ownBlock=some b∧w5.heap.size≤b:=kg.imp id λ⟨k,k1,k2⟩=>⟨k,k1,zad (by simp) k2⟩;have HH6:Hid (∀(j:Nat) d' x,(ds++[d])[j]?=some d'→(vs++[Value.iface ty y])[j]?=some x→Held w6 (w.heap.size+1) s5.fresh s5.aP E5 v'.ownBlock d' x):=λj d' x h1 h2=>by
       rcases zag j ds.length with hj|hj
       ·rw[zaI hj]at h1;rw[zaI (by omega)]at h2;exact Held.keep (HH5.out j d' x h1 h2) (by omega) (zaa _) (λ_ h=>h) ⟨λ_ _=>rfl,λ_ _=>rfl⟩ (λb _ b2 b3=>mZ b b2 b3) Zo
       ·have e0:j=ds.length:=by
         have:=(zaT.1 h1).1;simp at this;omega
        subst e0;rw[zaK (zaa _)]at h1;rw[zaK (by omega)]at h2;simp at h1;simp[hl]at h2;subst h1 h2;refine⟨⟨_,_,rfl⟩,w5,_,?_,by omega,HD5.out,λb b1 b2=>mZ b b2 λe=>?_,λb e=>?_⟩
        ·omega
        ·have:=World.ownsRow.lt ui.out b e.symm;omega
        ·rcases Zo with q|⟨b',q,q'⟩
         ·have:=World.ownsRow.lt ui.out b (q.symm.trans e);omega
         ·rw[q]at e;cases e;exact .inr q'
      have YI:ds.length+1=vs.length+1:=by omega
      clear yq LR hown' hgrow kg;obtain⟨a6,c6,rfl⟩:=bh Zn.out;go_wp2_with fail;refine⟨⟨m',E5,s5,ds++[d],vs++[Value.iface ty y],by omega,by omega,by simp;omega,by simp;omega,Vc,Kq,Ext.wid HX5.out (zaa _) (by omega),HK6,HP6,Zn,HH6⟩,?_⟩;rw[(gJ Kq.out.blk).1.2.1,(gJ kK.out.blk).1.2.1];simp only[zaF,intOf,zaE];omega
end
theorem Iw {lo k:Nat}{L:List Int}{w:World}{E:Env}:∀(ds:List Dt) (vs:List Value),ds.length=vs.length→(∀(j:Nat) d x,ds[j]?=some d→vs[j]?=some x→ba lo k L w E d x)→cH lo k L w E (uI ds) vs
 |[],[],_,_=>by unfold uI cH;rfl
 |d::ds,x::vs,hl,h=>by
  unfold uI cH;exact⟨x,vs,rfl,h 0 d x (by simp) (by simp),Iw ds vs (by simpa using hl) λj d' x' h1 h2=>h (j+1) d' x' (by simpa using h1) (by simpa using h2)⟩
 |[],_::_,hl,_=>by simp at hl
 |_::_,[],hl,_=>by simp at hl
section
variable {R M g cap:Nat}{T:List Tok}{dp:Nat}
def Env.one (E:Env)(i b:Nat):Env:=⟨λj=>if j=i then b else E.α j,E.ea⟩
theorem Ext.one {w w':World}{E:Env}{s:gW}{b:Nat}(h1:w.heap.size≤b)(h2:b<w'.heap.size):Ext w w' E (E.one s.fresh b) s { s with fresh:=s.fresh+1 }:=by
 refine⟨⟨λi hi=>if_neg (by omega),λ_ _=>rfl⟩,Nat.le_succ _,λ_ h=>h,λi i1 i2=>?_,λi j i1 i2 j1 j2 _=>?_⟩
 ·have:i=s.fresh:=by have:i<s.fresh+1:=i2;omega
  subst this;show w.heap.size≤(if s.fresh=s.fresh then b else _)∧(if s.fresh=s.fresh then b else _)<_;rw[if_pos rfl];exact⟨h1,h2⟩
 ·have:i<s.fresh+1:=i2;have:j<s.fresh+1:=j2;omega
theorem bE.name {w:World}{R M g cap:Nat}{T:List Tok}{dp:Nat}{E E':Env}{s s':gW}(h:bE w R M g cap T dp E s)(h1:E'.ea=E.ea)(h2:s'.k=s.k)(h3:s'.aP=s.aP):bE w R M g cap T dp E' s':=by
 obtain⟨α,ea⟩:=E';obtain⟨k,f,aP⟩:=s';simp only at h1 h2 h3;subst h1 h2 h3;exact⟨h.rm,h.gr,h.gm,h.blk,h.row,h.lm,h.low,h.inj,h.small,h.deep⟩
theorem yE {N:Nat}(ih:∀n,n≤N→IH R M g cap T dp n)(p:Pl)(hp:p.ahead=[])(w:World)(E:Env)(s:gW)(hr:bE w R M g cap T dp E s)(hd:p.depth≤dp∧p.ahead.length≤p.depth)(r:RR Dt)(et:r=(jf T dp (N+1) [] p { s with fresh:=s.fresh+1 }).bind λl s'=> .ok (.vec s.fresh (uI l)) s')(ho:r≠.out):Calls prog 194 #[au R,gA p.depth p.passed (.slice none 0 0)] w λe w'=>jD R M g cap T dp none w E s r e w':=by
 have mixed:prog.follows Departure.mixedOrders=true:=by kernel_rfl
 have LP:R<w.heap.size:=hr.lt;have k8:M<w.heap.size:=hr.mlt;have hrg:g<w.heap.size:=(hr.row.lt g rfl).2;have hb0:Below w.heap.size w ((w.alloc (.cells #[.int .i64 p.depth,.bool p.passed,.slice none 0 0] 128)).alloc (.cells #[.slice none 0 0] 165)):=((Below.refl _ w).alloc (zaa _) _).alloc (by simp) _;have HP:Hid (((w.alloc (.cells #[.int .i64 p.depth,.bool p.passed,.slice none 0 0] 128)).alloc (.cells #[.slice none 0 0] 165)).heap[w.heap.size]?=some (.cells #[.int .i64 p.depth,.bool p.passed,.slice none 0 0] 128)):=(Lib.alloc_old _ _ _ (by simp)).trans (heap_alloc_new w _);have HV:Hid (((w.alloc (.cells #[.int .i64 p.depth,.bool p.passed,.slice none 0 0] 128)).alloc (.cells #[.slice none 0 0] 165)).heap[w.heap.size+1]?=some (.cells #[.slice none 0 0] 165)):=cO w _ _;have HR:Hid (bE ((w.alloc (.cells #[.int .i64 p.depth,.bool p.passed,.slice none 0 0] 128)).alloc (.cells #[.slice none 0 0] 165)) R M g cap T dp (E.one s.fresh (w.heap.size+1)) { s with fresh:=s.fresh+1 }):=bE.name (hr.below hb0) rfl rfl rfl;have HB:Hid _:=hb0;have HI:Hid _:=ih;have HO:Hid _:=ho;have vg:Hid _:=et;have hsm:=hr.small;have HA:Hid (∀(w':World) (E':Env) (s':gW),iJ w' E' s' p.ahead (.slice none 0 0)):=λw' E' s'=>by rw[hp];exact⟨⟨rfl,.inl ⟨rfl,rfl⟩⟩,⟨_,_,_,rfl⟩,λn hn=>by cases hn⟩
 clear hr hb0 ih ho et;unfold gA au;go_enter func194,ntmps194;go_wp2_with fail;go_loopw [] (λwr=>∃(m:Nat) (E1:Env) (s1:gW) (ds:List Dt) (vs:List Value) (sv:Value),m≤N+1∧w.heap.size+2≤wr.heap.size∧ds.length=vs.length∧vs.length≤s1.k∧s.fresh<s1.fresh∧E1.α s.fresh=w.heap.size+1∧Hid (r=(jf T dp m ds p s1).bind λl s'=> .ok (.vec s.fresh (uI l)) s')∧Hid (bE wr R M g cap T dp E1 s1)∧Hid (Ext w wr E E1 s s1)∧Hid (Kp R M w wr)∧Hid (wr.heap[w.heap.size]?=some (.cells #[.int .i64 p.depth,.bool p.passed,.slice none 0 0] 128))∧Hid (wr.heap[w.heap.size+1]?=some (.cells #[sv] 165))∧Hid (wr.ownsRow (w.heap.size+2) 58 1 sv vs.length vs)∧Hid (∀(j:Nat) d x,ds[j]?=some d→vs[j]?=some x→Held wr (w.heap.size+2) s1.fresh s1.aP E1 sv.ownBlock d x)) (λwr=>T.length+1-(intOf ((wr.cell? ⟨R,1,none⟩).getD undef)).toNat)
 case atStart=>exact⟨N+1,E.one s.fresh (w.heap.size+1),{ s with fresh:=s.fresh+1 },[],[],.slice none 0 0,zaa _,by simp,rfl,zah _,Nat.lt_succ_self _,if_pos rfl,vg.out,HR.out,Ext.one (by omega) (by simp),Kp.ay HB.out,HP.out,HV.out,World.ownsRow_nil _ _ _ _,λj d x h=>by simp at h⟩
 case round=>
  obtain⟨m,E1,s1,ds,vs,sv,hm,hsz,hl,hlen,Jq,hE1,HE,kK,HX,HK,PT,HV1,HW,HH⟩:=hrel;have FJ:jf T dp m ds p s1≠.out:=λh=>HO.out (by rw[HE.out,h];rfl);obtain⟨m',rfl⟩:∃m',m=m'+1:=by
   cases m with
   |zero=>exact absurd (by unfold jf;rfl) FJ
   |succ m'=>exact⟨m',rfl⟩
  have F7:Hid (r=((bq T dp m' p s1).bind λt s=>
   if t.kind=3 then .ok ds s
   else if ds.length=20 then .fail 3 t.from_
   else(cJ T dp m' t p s).bind λd s=>jf T dp m' (ds++[d]) p s).bind λl s'=> .ok (.vec s.fresh (uI l)) s'):=by
    show _=_;rw[HE.out]
    conv=>lhs;unfold jf
  clear FJ HE;obtain⟨a1,c1,rfl⟩:=bh HW.out;obtain⟨p0,p1,p2⟩:=eE PT.out;have hne:bq T dp m' p s1≠.out:=λh=>HO.out (by rw[F7.out,h];rfl);have HT:Hid _:=(HI.out m' (by omega)).take p (.slice none 0 0) _ E1 s1 kK.out (HA.out _ _ _) hd hne;clear hne;cases hT:bq T dp m' p s1 with
  |out=>exact absurd (by rw[F7.out,hT];rfl) HO.out
  |fail er a=>
   rw[hT]at HT;have jk:Hid (r=.fail er a):=by show _=_;rw[F7.out,hT];rfl
   unfold gA au at HT;go_wp2_with fail;refine Calls.mono HT.out ?_;rintro e w2 ⟨⟨b,t,rfl,hf⟩,hk⟩;have HF:Hid _:=hf;have lS:Hid _:=hk;clear hf hk HT;unfold aX au;go_wp2_with fail;go_ret2;rw[jk.out];exact⟨⟨b,rfl,cy.alloc HF.out _⟩,(Kp.trans (Kp.trans HK.out lS.out) (Kp.ay ((Below.refl _ _).alloc (zaa _) _))).a none⟩
  |ok t s3=>
   have htl:=Ir hT;rw[hT]at HT;have jk:Hid (r=(if t.kind=3 then .ok ds s3
   else if ds.length=20 then .fail 3 t.from_
   else(cJ T dp m' t p s3).bind λd s=>jf T dp m' (ds++[d]) p s:RR (List Dt)).bind λl s'=> .ok (.vec s.fresh (uI l)) s'):=by show _=_;rw[F7.out,hT];rfl
   unfold gA au at HT;go_wp2_with fail;refine Calls.mono HT.out ?_;rintro e w2 ⟨E3,rfl,hx3,hr3,hk3⟩;have hs3:=hk3.size;have hb4:Below w2.heap.size w2 (w2.alloc (.cells #[.int .i64 t.kind,.int .i64 t.from_,.int .i64 t.cA,.string ⟨⟨t.text⟩⟩,.int .i64 t.n,.int .i64 t.d,.int .i64 t.fault] 131)):=(Below.refl _ w2).alloc (zaa _) _;have LK:(w2.alloc (.cells #[.int .i64 t.kind,.int .i64 t.from_,.int .i64 t.cA,.string ⟨⟨t.text⟩⟩,.int .i64 t.n,.int .i64 t.d,.int .i64 t.fault] 131)).heap.size=w2.heap.size+1:=by simp
   have hk4:=Kp.trans hk3 (Kp.ay hb4);have LQ:Hid _:=hr3.below hb4;have qo:Hid _:=Kp.trans HK.out hk4;have Xi:Hid _:=Ext.wid (w:=w) (w3:=(w2.alloc (.cells #[.int .i64 t.kind,.int .i64 t.from_,.int .i64 t.cA,.string ⟨⟨t.text⟩⟩,.int .i64 t.n,.int .i64 t.d,.int .i64 t.fault] 131))) (Ext.trans HX.out hx3 (Kp.size HK.out) hs3) (zaa _) (by omega);have ui:Hid _:=bg HW.out (zaa _) (Kp.ge hk4 (by omega) (by omega));have Xj:Hid (∀(j:Nat) d x,ds[j]?=some d→vs[j]?=some x→Held (w2.alloc (.cells #[.int .i64 t.kind,.int .i64 t.from_,.int .i64 t.cA,.string ⟨⟨t.text⟩⟩,.int .i64 t.n,.int .i64 t.d,.int .i64 t.fault] 131)) (w.heap.size+2) s3.fresh s3.aP E3 (Value.slice a1 vs.length c1).ownBlock d x):=λj d x h1 h2=>
    Held.keep (HH.out j d x h1 h2) (by omega) hx3.fresh hx3.aP hx3.agree (λb b1 b2 _=>Kp.ge hk4 (lo:=w.heap.size+2) (by omega) (by omega) b b1 b2) (.inl rfl)
   have Zm:Hid _:=(hk4.block w.heap.size (by omega) (by omega) (by omega)).trans PT.out;have HV4:Hid _:=(hk4.block (w.heap.size+1) (by omega) (by omega) (by omega)).trans HV1.out;have hf3:s.fresh<s3.fresh:=zaw Jq hx3.fresh;have hE3:E3.α s.fresh=w.heap.size+1:=(hx3.agree.1 _ Jq).trans hE1;obtain⟨y0,y1,y2⟩:=eE Zm.out;have z0:(w2.alloc (.cells #[.int .i64 t.kind,.int .i64 t.from_,.int .i64 t.cA,.string ⟨⟨t.text⟩⟩,.int .i64 t.n,.int .i64 t.d,.int .i64 t.fault] 131)).cell? ⟨w.heap.size+1,0,none⟩=some (.slice a1 vs.length c1):=by simp only[World.cell?,HV4.out];rfl
   have z1:w2.cell? ⟨w.heap.size+1,0,none⟩=some (.slice a1 vs.length c1):=by simp only[World.cell?,(hk3.block (w.heap.size+1) (by omega) (by omega) (by omega)).trans HV1.out];rfl
   obtain⟨⟨o0,o1,o2,o3,o4,o5,o6⟩,-⟩:=cN (Below.refl _ _) (heap_alloc_new w2 (.cells #[.int .i64 t.kind,.int .i64 t.from_,.int .i64 t.cA,.string ⟨⟨t.text⟩⟩,.int .i64 t.n,.int .i64 t.d,.int .i64 t.fault] 131));have n1:¬w.heap.size+1=w2.heap.size:=by omega
   have n2:w.heap.size+1<w2.heap.size:=by omega
   clear hx3 hr3 hk3 hk4 hb4 HT p0 p1 p2;unfold aX;by_cases k3:t.kind=3
   ·have q3:(((t.kind:Nat):Int)==3)=true:=by rw[k3];rfl
    rw[if_pos k3]at jk;clear k3;have HG:Hid (jD R M g cap T dp none w E s (.ok (.vec s.fresh (uI ds)) s3) (.returned (.tuple #[.iface 163 (au (w.heap.size+1)),.pointer none])) (w2.alloc (.cells #[.int .i64 t.kind,.int .i64 t.from_,.int .i64 t.cA,.string ⟨⟨t.text⟩⟩,.int .i64 t.n,.int .i64 t.d,.int .i64 t.fault] 131))):=by
     refine⟨_,E3,rfl,⟨_,_,rfl⟩,?_,Xi.out,LQ.out,Kp.a qo.out none⟩;unfold ba;refine⟨hf3,by rw[hE3];omega,by rw[hE3],.slice a1 vs.length c1,vs,by rw[hE3];exact HV4.out,bg ui.out (by omega) λ_ _ _=>rfl,Iw ds vs hl λj d x h1 h2=>?_⟩;exact ba.keep (by omega) (zaa _) (λ_ h=>h) (λ_ _ _=>rfl) ⟨λ_ _=>rfl,λ_ _=>rfl⟩ d x (Xj.out j d x h1 h2).Vb
    go_wp2_with fail;go_ret2;rw[jk.out];exact HG.out
   have q3:(((t.kind:Nat):Int)==3)=false:=by rw[beq_eq_false_iff_ne];omega
   rw[if_neg k3]at jk;clear k3;by_cases k7:ds.length=20
   ·have q7:(((vs.length:Nat):Int)==20)=true:=by rw[←hl,k7];rfl
    rw[if_pos k7]at jk;clear k7;go_wp2_with fail;go_region;go_wp2_with fail;go_ret2;rw[jk.out];refine⟨⟨w2.heap.size+1,rfl,?_⟩,(Kp.trans qo.out (Kp.ay (((Below.refl _ _).alloc (zaa _) _).drew))).a none⟩;exact cO w2 _ _
   ·rw[if_neg k7]at jk;have q7:(((vs.length:Nat):Int)==20)=false:=by rw[beq_eq_false_iff_ne];omega
    clear k7;have hne:cJ T dp m' t p s3≠.out:=λh=>HO.out (by rw[jk.out,h];rfl);have HC:Hid _:=(HI.out m' (by omega)).Kf t p (.slice none 0 0) _ E3 s3 LQ.out (HA.out _ _ _) hd hne;clear hne;unfold aX gA au at HC;obtain⟨i0,hi,hz0,hz1,hz2⟩:=info_parts lT;go_wp2_with fail;refine Calls.mono HC.out ?_;intro e w5 bX;cases hF:cJ T dp m' t p s3 with
    |out=>exact absurd (by rw[jk.out,hF];rfl) HO.out
    |fail er a=>
     rw[hF]at bX;have Vc:Hid (r=.fail er a):=by show _=_;rw[jk.out,hF];rfl
     obtain⟨⟨b,rfl,hf⟩,hk2⟩:=bX;have HG:Hid (jD R M g cap T dp none w E s (RR.fail er a) (.returned (.tuple #[.nilIface,au b])) w5):=⟨⟨b,rfl,hf⟩,(Kp.trans qo.out (js.plain hk2)).a none⟩;clear hf hk2;unfold au;go_wp2_with fail;go_ret2;rw[Vc.out];exact HG.out
    |ok d s5=>
     rw[hF]at bX;have Vc:Hid (r=(jf T dp m' (ds++[d]) p s5).bind λl s'=> .ok (.vec s.fresh (uI l)) s'):=by show _=_;rw[jk.out,hF];rfl
     have WT:=(grows T dp m').Kf _ _ _ _ _ hF;obtain⟨v,E5,rfl,⟨ty,y,rfl⟩,bW,BM,PH,qp⟩:=bX;replace qp:=js.plain qp;have hs5:=qp.size;have EL:Hid _:=Kp.trans qo.out qp;have HX5:Hid _:=Ext.trans Xi.out BM (Kp.size qo.out) hs5;have HP5:Hid _:=(qp.block w.heap.size (by omega) (by omega) (by omega)).trans Zm.out;have Vd:Hid _:=(qp.block (w.heap.size+1) (by omega) (by omega) (by omega)).trans HV4.out;have pI:Hid _:=bg ui.out (zaa _) (Kp.ge qp (by omega) (by omega));have EM:Hid _:=PH;have HD5:Hid _:=bW;have hf5:s.fresh<s5.fresh:=zaw hf3 BM.fresh;have hE5:E5.α s.fresh=w.heap.size+1:=(BM.agree.1 _ hf3).trans hE3;have HH5:Hid (∀(j:Nat) d x,ds[j]?=some d→vs[j]?=some x→Held w5 (w.heap.size+2) s5.fresh s5.aP E5 (Value.slice a1 vs.length c1).ownBlock d x):=λj d x h1 h2=>
      Held.keep (Xj.out j d x h1 h2) (by omega) BM.fresh BM.aP BM.agree (λb b1 b2 _=>Kp.ge qp (lo:=w.heap.size+2) (by omega) (by omega) b b1 b2) (.inl rfl)
     have z5:w5.cell? ⟨w.heap.size+1,0,none⟩=some (.slice a1 vs.length c1):=by simp only[World.cell?,Vd.out];rfl
     have n5:¬w.heap.size+1=w5.heap.size:=by omega
     have n6:w.heap.size+1<w5.heap.size:=by omega
     clear bW BM PH qp hF y0 y1 y2 o0 o1 o2 o3 o4 o5 o6 z0 z1 n1 n2;have rF:∀k,(Value.slice a1 vs.length c1).ownBlock=some k→w.heap.size+2≤k∧k<w5.heap.size:=World.ownsRow.lt pI.out;go_wp2_with (at_builtin;refine eY rfl _ _ 162 rfl (w.heap.size+2) 58 i0 .nilIface 16 underlying162 hi hz0 hz1 hz2 (by decide) rfl _ vs.length vs rfl (World.ownsRow.alloc pI.out _) ⟨w5.heap.size,0,none⟩ 1 1 [.iface ty y] rfl (by decide) rfl ?c1 ?c2 ?c3 ?c4 ?_)
     case c1=>
      intro j u hj
      match j,hj with
      |0,hj=>simp at hj;subst hj;simp[Addr.add]
     case c2=>intro u hu;simp at hu;subst hu;rfl
     case c3=>omega
     case c4=>simp;omega
     intro v' w6 hown' hgrow kg;obtain⟨yq,LR,mZ,hs6⟩:=Db EM.out EL.out hgrow (λk hk=>by have:=rF k hk;omega) (Iu pI.out) LP k8 hrg;have hv6:=(mZ (w.heap.size+1) (by omega) (λe=>by have:=rF _ e.symm;omega)).trans Vd.out;obtain⟨g6,z6⟩:w6.cell? ⟨w.heap.size+1,0,none⟩=some (.slice a1 vs.length c1)∧w6.frozen? ⟨w.heap.size+1,0,none⟩=false:=by constructor<;>simp[World.cell?,World.frozen?,hv6]
     have Ve:Hid (∀b,b≠w.heap.size+1→(w6.setCell ⟨w.heap.size+1,0,none⟩ v').heap[b]?=w6.heap[b]?):=λb hb=>Below.heap_setCell _ _ _ _ hb;have HV7:Hid ((w6.setCell ⟨w.heap.size+1,0,none⟩ v').heap[w.heap.size+1]?=some (.cells #[v'] 165)):=dN hv6 0 v';have hs7:(w6.setCell ⟨w.heap.size+1,0,none⟩ v').heap.size=w6.heap.size:=by simp
     have LS:Hid (bE (w6.setCell ⟨w.heap.size+1,0,none⟩ v') R M g cap T dp E5 s5):=bE.step yq (k:=s5.k) ((Ve.out R (by omega)).trans yq.blk) (by omega) (λb _ b2=>Ve.out b (by omega)) λb x hb=>Ve.out b (λe=>by rw[e,hv6]at hb;simp at hb);have HK7:Hid (Kp R M w (w6.setCell ⟨w.heap.size+1,0,none⟩ v')):=Kp.kj LR ((Below.refl _ _).setCell (p:=⟨w.heap.size+1,0,none⟩) (by show w.heap.size≤w.heap.size+1;omega) _);have HW7:Hid ((w6.setCell ⟨w.heap.size+1,0,none⟩ v').ownsRow (w.heap.size+2) 58 1 v' (vs++[Value.iface ty y]).length (vs++[Value.iface ty y])):=by
      show World.ownsRow _ _ _ _ _ _ _;rw[zaL];exact bg hown' (zaa _) λb b1 _=>Ve.out b (by omega)
     have HP7:Hid _:=(Ve.out w.heap.size (by omega)).trans ((mZ w.heap.size (by omega) (λe=>by have:=rF _ e.symm;omega)).trans HP5.out);have Zo:v'.ownBlock=(Value.slice a1 vs.length c1).ownBlock∨∃b,v'.ownBlock=some b∧w5.heap.size≤b:=kg.imp id λ⟨k,k1,k2⟩=>⟨k,k1,zad (by simp) k2⟩;have HH7:Hid (∀(j:Nat) d' x,(ds++[d])[j]?=some d'→(vs++[Value.iface ty y])[j]?=some x→Held (w6.setCell ⟨w.heap.size+1,0,none⟩ v') (w.heap.size+2) s5.fresh s5.aP E5 v'.ownBlock d' x):=λj d' x h1 h2=>by
      rcases zag j ds.length with hj|hj
      ·rw[zaI hj]at h1;rw[zaI (by omega)]at h2;exact Held.keep (HH5.out j d' x h1 h2) (by omega) (zaa _) (λ_ h=>h) ⟨λ_ _=>rfl,λ_ _=>rfl⟩ (λb b1 b2 b3=>(Ve.out b (by omega)).trans (mZ b b2 b3)) Zo
      ·have e0:j=ds.length:=by
        have:=(zaT.1 h1).1;simp at this;omega
       subst e0;rw[zaK (zaa _)]at h1;rw[zaK (by omega)]at h2;simp at h1;simp[hl]at h2;subst h1 h2;refine⟨⟨_,_,rfl⟩,w5,_,?_,by omega,HD5.out,λb b1 b2=>(Ve.out b (by omega)).trans (mZ b b2 λe=>?_),λb e=>?_⟩
       ·omega
       ·have:=World.ownsRow.lt ui.out b e.symm;omega
       ·rcases Zo with q|⟨b',q,q'⟩
        ·have:=World.ownsRow.lt ui.out b (q.symm.trans e);omega
        ·rw[q]at e;cases e;exact .inr q'
     obtain⟨a6,c6,rfl⟩:=bh hown';clear yq LR hown' hgrow kg;go_wp2_with fail;refine⟨⟨m',E5,s5,ds++[d],vs++[Value.iface ty y],_,by omega,by omega,by simp;omega,by simp;omega,hf5,hE5,Vc,LS,Ext.wid HX5.out (zaa _) (by omega),HK7,HP7,HV7,HW7,HH7⟩,?_⟩;rw[(gJ LS.out.blk).1.2.1,(gJ kK.out.blk).1.2.1];simp only[zaF,intOf,zaE];omega
end
theorem Zp (w:World)(x y:Value):(w.alloc (.cells #[x,y] 58)).ownsRow w.heap.size 58 1 (.slice (some ⟨w.heap.size,0,none⟩) 2 2) 2 [x,y]:=
 ⟨rfl,.inr ⟨w.heap.size,2,#[x,y],rfl,zaa _,heap_alloc_new w _,zaa _,by decide,rfl,rfl⟩⟩
section
variable {R M g cap:Nat}{T:List Tok}{dp:Nat}
theorem F8 {n:Nat}(ih:IH R M g cap T dp n)(p:Pl)(hp:p.ahead=[])(w:World)(E:Env)(s:gW)(hr:bE w R M g cap T dp E s)(hd:p.depth≤dp∧p.ahead.length≤p.depth)(r:RR Dt)(et:r=(aV T dp n p s).bind λd s=> .ok (bO [.sym [113,117,111,116,101],d] .nil s.fresh).1 { s with fresh:=s.fresh+2 })(ho:r≠.out):Calls prog 195 #[au R,gA p.depth p.passed (.slice none 0 0)] w λe w'=>jD R M g cap T dp none w E s r e w':=by
 have mixed:prog.follows Departure.mixedOrders=true:=by kernel_rfl
 have hb0:Below w.heap.size w (w.alloc (.cells #[.int .i64 p.depth,.bool p.passed,.slice none 0 0] 128)):=(Below.refl _ w).alloc (zaa _) _;have HR:Hid _:=hr.below hb0;have HK:Hid (Kp R M w (w.alloc (.cells #[.int .i64 p.depth,.bool p.passed,.slice none 0 0] 128))):=Kp.ay hb0;have Ki:(w.alloc (.cells #[.int .i64 p.depth,.bool p.passed,.slice none 0 0] 128)).heap.size=w.heap.size+1:=by simp
 have hne:aV T dp n p s≠.out:=λh=>ho (by rw[et,h];rfl);have HT:Hid _:=ih.datum p (.slice none 0 0) _ E s HR.out (by rw[hp];exact⟨⟨rfl,.inl ⟨rfl,rfl⟩⟩,⟨_,_,_,rfl⟩,λn hn=>by cases hn⟩) hd hne;have HO:Hid _:=ho;have vg:Hid _:=et;have LP:R<w.heap.size:=hr.lt;have k8:M<w.heap.size:=hr.mlt;clear hr hb0 ih ho hne et;generalize hw0:w.alloc (.cells #[.int .i64 p.depth,.bool p.passed,.slice none 0 0] 128)=w0 at *;have PS:Hid _:=hw0;clear hw0;cases hT:aV T dp n p s with
 |out=>exact absurd (by rw[vg.out,hT];rfl) HO.out
 |fail er a=>
  rw[hT]at HT;have HE:Hid (r=.fail er a):=by show _=_;rw[vg.out,hT];rfl
  unfold gA au at HT ⊢;go_enter func195,ntmps195;go_wp2_with fail;rw[PS.out];refine Calls.mono HT.out ?_;rintro e w1 ⟨⟨b,rfl,hf⟩,hk⟩;have HF:Hid _:=hf;have xW:Hid _:=js.plain hk;clear hf hk HT;unfold au;go_wp2_with fail;go_ret2;rw[HE.out];exact⟨⟨b,rfl,HF.out⟩,(Kp.trans HK.out xW.out).a none⟩
 |ok d s2=>
  rw[hT]at HT;have HE:Hid (r=.ok (bO [.sym [113,117,111,116,101],d] .nil s2.fresh).1 { s2 with fresh:=(bO [.sym [113,117,111,116,101],d] .nil s2.fresh).2 }):=by show _=_;rw[vg.out,hT];rfl
  unfold gA au at HT ⊢;go_enter func195,ntmps195;go_wp2_with fail;rw[PS.out];refine Calls.mono HT.out ?_;rintro e w1 ⟨vr,E2,rfl,⟨ty,yy,rfl⟩,bW,hx2,hr2,hk2⟩;replace hk2:=js.plain hk2;have hs1:=hk2.size;have HD:Hid _:=bW;have HX:Hid (Ext w w1 E E2 s s2):=Ext.wid hx2 (by omega) (zaa _);have xf:Hid _:=hr2;have oQ:Hid _:=Kp.trans HK.out hk2;clear bW hx2 hr2 hk2 HT;have hb3:Below w1.heap.size w1 (w1.alloc (.cells #[.iface 168 (.agg #[.string ⟨#[113,117,111,116,101]⟩]),.iface ty yy] 58)):=(Below.refl _ w1).alloc (zaa _) _;have hs3:(w1.alloc (.cells #[.iface 168 (.agg #[.string ⟨#[113,117,111,116,101]⟩]),.iface ty yy] 58)).heap.size=w1.heap.size+1:=by simp
  have HC:Hid _:=th [.iface 168 (.agg #[.string ⟨#[113,117,111,116,101]⟩]),.iface ty yy] (.slice (some ⟨w1.heap.size,0,none⟩) 2 2) w1.heap.size (.iface 272 (.agg #[])) (w1.alloc (.cells #[.iface 168 (.agg #[.string ⟨#[113,117,111,116,101]⟩]),.iface ty yy] 58)) (Zp w1 _ _) (by simp) (λx hx=>by simp at hx;rcases hx with rfl|rfl<;>exact⟨_,_,rfl⟩) ⟨_,_,rfl⟩;have gQ:Hid _:=hb3;clear hb3;go_wp2_with fail;refine Calls.mono HC.out ?_;rintro e w5 ⟨v,rfl,hc,hs5,nP⟩;obtain⟨tv,yv,rfl⟩:=hc.iface ⟨_,_,rfl⟩;have HG:Hid _:=tj (T:=T) (dp:=dp) (g:=g) (cap:=cap) (w:=w) (lo:=w0.heap.size) (ds:=[.sym [113,117,111,116,101],d]) (rest:= .nil) (s1:=s2) (E1:=E2) (by omega) (by omega)
   (λj d' x h1 h2=>by
     match j,h1,h2 with
     |0,h1,h2=>simp at h1 h2;subst h1 h2;unfold ba;rfl
     |1,h1,h2=>
      simp at h1 h2;subst h1 h2;exact ba.keep (zaa _) (zaa _) (λ_ h=>h) (λb _ h=>gQ.out.block b h) ⟨λ_ _=>rfl,λ_ _=>rfl⟩ _ _ HD.out
     |j+2,h1,_=>simp at h1) (by unfold ba;rfl) rfl ⟨_,_,rfl⟩ hc hs5 nP (bE.below xf.out gQ.out) (Ext.wid (w:=w) HX.out (zaa _) (by omega)) (Kp.trans oQ.out (Kp.ay gQ.out))
  clear hc nP;go_wp2_with fail;go_ret2;rw[HE.out];exact HG.out
end
section
variable {R M g cap:Nat}{T:List Tok}{dp:Nat}
theorem jD.from {A:Option Nat}{w w2 w':World}{E:Env}{s:gW}{r:RR Dt}{e:Ending}(h:jD R M g cap T dp A w2 E s r e w')(hk:Kp R M w w2):jD R M g cap T dp A w E s r e w':=by
 cases r with
 |out=>trivial
 |fail er a=>exact⟨h.1,(hk.a A).trans h.2⟩
 |ok d s'=>
  obtain⟨v,E',h1,h2,h3,h4,h5,h6⟩:=h;exact⟨v,E',h1,h2,ba.keep hk.size (zaa _) (λ_ h=>h) (λ_ _ _=>rfl) ⟨λ_ _=>rfl,λ_ _=>rfl⟩ d v h3,Ext.wid h4 hk.size (zaa _),h5,(hk.a A).trans h6⟩
theorem Dc {n:Nat}(ih:∀m,m≤n→IH R M g cap T dp m)(t:Tok)(p:Pl)(a0:Option Addr)(n0 c0:Nat)(w:World)(E:Env)(s:gW)(hr:bE w R M g cap T dp E s)(hd:p.depth≤dp∧p.ahead.length≤p.depth)(r:RR Dt)
 (et:r=if p.depth=dp then .fail 6 t.from_
   else if t.kind=5 then(jf T dp n [] ⟨p.depth+1,p.passed,[]⟩ { s with fresh:=s.fresh+1 }).bind λl s'=> .ok (.vec s.fresh (uI l)) s'
   else if t.kind=4 then(aV T dp n ⟨p.depth+1,p.passed,[]⟩ s).bind λd s=> .ok (bO [.sym [113,117,111,116,101],d] .nil s.fresh).1 { s with fresh:=s.fresh+2 }
   else dh T dp n [] ⟨p.depth+1,p.passed,[]⟩ s)(ho:r≠.out):
 Calls prog 162 #[au R,aX t,gA p.depth p.passed (.slice a0 n0 c0)] w λe w'=>jD R M g cap T dp none w E s r e w':=by
 have mixed:prog.follows Departure.mixedOrders=true:=by kernel_rfl
 have LP:R<w.heap.size:=hr.lt;have wj:=hr.deep;have hb0:Below w.heap.size w ((w.alloc (.cells #[.int .i64 t.kind,.int .i64 t.from_,.int .i64 t.cA,.string ⟨⟨t.text⟩⟩,.int .i64 t.n,.int .i64 t.d,.int .i64 t.fault] 131)).alloc (.cells #[.int .i64 p.depth,.bool p.passed,.slice a0 n0 c0] 128)):=((Below.refl _ w).alloc (zaa _) _).alloc (by simp) _;have hs0:((w.alloc (.cells #[.int .i64 t.kind,.int .i64 t.from_,.int .i64 t.cA,.string ⟨⟨t.text⟩⟩,.int .i64 t.n,.int .i64 t.d,.int .i64 t.fault] 131)).alloc (.cells #[.int .i64 p.depth,.bool p.passed,.slice a0 n0 c0] 128)).heap.size=w.heap.size+1+1:=by simp
 have hP:((w.alloc (.cells #[.int .i64 t.kind,.int .i64 t.from_,.int .i64 t.cA,.string ⟨⟨t.text⟩⟩,.int .i64 t.n,.int .i64 t.d,.int .i64 t.fault] 131)).alloc (.cells #[.int .i64 p.depth,.bool p.passed,.slice a0 n0 c0] 128)).heap[w.heap.size+1]?=some (.cells #[.int .i64 p.depth,.bool p.passed,.slice a0 n0 c0] 128):=cO w _ _;have hT:((w.alloc (.cells #[.int .i64 t.kind,.int .i64 t.from_,.int .i64 t.cA,.string ⟨⟨t.text⟩⟩,.int .i64 t.n,.int .i64 t.d,.int .i64 t.fault] 131)).alloc (.cells #[.int .i64 p.depth,.bool p.passed,.slice a0 n0 c0] 128)).heap[w.heap.size]?=some (.cells #[.int .i64 t.kind,.int .i64 t.from_,.int .i64 t.cA,.string ⟨⟨t.text⟩⟩,.int .i64 t.n,.int .i64 t.d,.int .i64 t.fault] 131):=(Lib.alloc_old _ _ _ (by simp)).trans (heap_alloc_new w _);have xV:=hr.below hb0;have hc0:((w.alloc (.cells #[.int .i64 t.kind,.int .i64 t.from_,.int .i64 t.cA,.string ⟨⟨t.text⟩⟩,.int .i64 t.n,.int .i64 t.d,.int .i64 t.fault] 131)).alloc (.cells #[.int .i64 p.depth,.bool p.passed,.slice a0 n0 c0] 128)).cell? ⟨R,2,none⟩=some (.int .i64 dp):=(gJ xV.blk).1.2.2.1;have rG:Hid (Kp R M w ((w.alloc (.cells #[.int .i64 t.kind,.int .i64 t.from_,.int .i64 t.cA,.string ⟨⟨t.text⟩⟩,.int .i64 t.n,.int .i64 t.d,.int .i64 t.fault] 131)).alloc (.cells #[.int .i64 p.depth,.bool p.passed,.slice a0 n0 c0] 128))):=Kp.ay hb0;have qu:Hid _:=xV;have HI:Hid _:=ih;have HO:Hid _:=ho;have vg:Hid _:=et;have HT:Hid _:=hT;by_cases hdd:p.depth=dp
 ·have HE:Hid (r=.fail 6 t.from_):=by show _=_;rw[et,if_pos hdd]
  have HC:Hid _:=uh R dp t p.depth p.passed a0 n0 c0 _ hc0 (by omega) hdd;clear hr xV hb0 ih ho et hdd hc0 hP hT;unfold gA au aX at HC ⊢;go_enter func162,ntmps162;go_wp2_with fail;refine Calls.mono HC.out ?_;rintro e w1 ⟨b,rfl,hf,hb1⟩;have HF:Hid _:=hf;have xW:Hid _:=Kp.trans rG.out (Kp.ay hb1);clear hf hb1 HC;go_wp2_with fail;go_ret2;rw[HE.out];exact⟨⟨b,rfl,cy.alloc HF.out _⟩,(Kp.trans xW.out (Kp.ay ((Below.refl _ _).alloc (zaa _) _))).a none⟩
 ·have HC:Hid _:=zu R dp t p.depth p.passed a0 n0 c0 _ hc0 (by omega) (by omega) hdd;have HE:Hid _:=et.trans (if_neg hdd);have BN:p.depth+1≤dp:=by omega
  clear hr xV hb0 ih ho et hdd hc0 hP hT;unfold gA au aX at HC ⊢;go_enter func162,ntmps162;go_wp2_with fail;refine Calls.mono HC.out ?_;rintro e w1 ⟨rfl,hb1⟩;have hs1:=hb1.size;have mn:=(hb1.block w.heap.size (by omega)).trans HT.out;obtain⟨⟨o0,o1,o2,o3,o4,o5,o6⟩,-⟩:=cN (Below.refl _ _) mn;have n1:¬w.heap.size=w1.heap.size:=by omega
  have n2:w.heap.size<w1.heap.size:=by omega
  have hb2:Below w1.heap.size w1 (w1.alloc (.cells #[.int .i64 (p.depth+1),.bool p.passed,.slice none 0 0] 128)):=(Below.refl _ _).alloc (zaa _) _;have xf:Hid _:=(bE.below qu.out hb1).below hb2;have oQ:Hid _:=(Kp.trans rG.out (Kp.ay hb1)).trans (Kp.ay hb2);clear hb1 hb2 HC mn;by_cases k5:t.kind=5
  ·have q5:(((t.kind:Nat):Int)==5)=true:=by rw[k5];rfl
   have jk:Hid _:=HE.out.trans (if_pos k5);clear k5;cases n with
   |zero=>exact absurd (by rw[jk.out];unfold jf;rfl) HO.out
   |succ n=>
    have HC:Hid _:=yE (N:=n) (λm hm=>HI.out m (by omega)) ⟨p.depth+1,p.passed,[]⟩ rfl _ E s xf.out ⟨BN,zah _⟩ r jk.out HO.out;unfold gA au at HC;go_wp2_with fail;refine Calls.mono HC.out ?_;intro e w3 bX;have lU:=jD.from bX oQ.out;clear bX;cases r with
    |out=>exact absurd rfl HO.out
    |fail er a=>
     obtain⟨⟨b,rfl,hf⟩,hk2⟩:=lU;have HG:Hid (jD R M g cap T dp none w E s (RR.fail er a) (.returned (.tuple #[.nilIface,au b])) w3):=⟨⟨b,rfl,hf⟩,hk2⟩;clear hf hk2;unfold au;go_wp2_with fail;go_ret2;exact HG.out
    |ok d s2=>
     obtain⟨v,E2,rfl,⟨ty,y,rfl⟩,bW,hx2,hr2,hk2⟩:=lU;have HG:Hid (jD R M g cap T dp none w E s (RR.ok d s2) (.returned (.tuple #[.iface ty y,.pointer none])) w3):=⟨.iface ty y,E2,rfl,⟨ty,y,rfl⟩,bW,hx2,hr2,hk2⟩;clear bW hx2 hr2 hk2;go_wp2_with fail;go_ret2;exact HG.out
  have q5:(((t.kind:Nat):Int)==5)=false:=by rw[beq_eq_false_iff_ne];omega
  by_cases k4:t.kind=4
  ·have q4:(((t.kind:Nat):Int)==4)=true:=by rw[k4];rfl
   have jk:Hid _:=(HE.out.trans (if_neg k5)).trans (if_pos k4);clear k5 k4
   ·have HC:Hid _:=F8 (HI.out n (by omega)) ⟨p.depth+1,p.passed,[]⟩ rfl _ E s xf.out ⟨BN,zah _⟩ r jk.out HO.out;unfold gA au at HC;go_wp2_with fail;refine Calls.mono HC.out ?_;intro e w3 bX;have lU:=jD.from bX oQ.out;clear bX;cases r with
    |out=>exact absurd rfl HO.out
    |fail er a=>
     obtain⟨⟨b,rfl,hf⟩,hk2⟩:=lU;have HG:Hid (jD R M g cap T dp none w E s (RR.fail er a) (.returned (.tuple #[.nilIface,au b])) w3):=⟨⟨b,rfl,hf⟩,hk2⟩;clear hf hk2;unfold au;go_wp2_with fail;go_ret2;exact HG.out
    |ok d s2=>
     obtain⟨v,E2,rfl,⟨ty,y,rfl⟩,bW,hx2,hr2,hk2⟩:=lU;have HG:Hid (jD R M g cap T dp none w E s (RR.ok d s2) (.returned (.tuple #[.iface ty y,.pointer none])) w3):=⟨.iface ty y,E2,rfl,⟨ty,y,rfl⟩,bW,hx2,hr2,hk2⟩;clear bW hx2 hr2 hk2;go_wp2_with fail;go_ret2;exact HG.out
  ·have q4:(((t.kind:Nat):Int)==4)=false:=by rw[beq_eq_false_iff_ne];omega
   have jk:Hid _:=(HE.out.trans (if_neg k5)).trans (if_neg k4);clear k5 k4;cases n with
   |zero=>exact absurd (by rw[jk.out];unfold dh;rfl) HO.out
   |succ n=>
    have HC:Hid _:=Ko (N:=n) (λm hm=>HI.out m (by omega)) ⟨p.depth+1,p.passed,[]⟩ rfl _ E s xf.out ⟨BN,zah _⟩ (by rw[←jk.out];exact HO.out);rw[←jk.out]at HC;unfold gA au at HC;go_wp2_with fail;refine Calls.mono HC.out ?_;intro e w3 bX;have lU:=jD.from bX oQ.out;clear bX;cases r with
    |out=>exact absurd rfl HO.out
    |fail er a=>
     obtain⟨⟨b,rfl,hf⟩,hk2⟩:=lU;have HG:Hid (jD R M g cap T dp none w E s (RR.fail er a) (.returned (.tuple #[.nilIface,au b])) w3):=⟨⟨b,rfl,hf⟩,hk2⟩;clear hf hk2;unfold au;go_wp2_with fail;go_ret2;exact HG.out
    |ok d s2=>
     obtain⟨v,E2,rfl,⟨ty,y,rfl⟩,bW,hx2,hr2,hk2⟩:=lU;have HG:Hid (jD R M g cap T dp none w E s (RR.ok d s2) (.returned (.tuple #[.iface ty y,.pointer none])) w3):=⟨.iface ty y,E2,rfl,⟨ty,y,rfl⟩,bW,hx2,hr2,hk2⟩;clear bW hx2 hr2 hk2;go_wp2_with fail;go_ret2;exact HG.out
end
end Go.Proofs.YtlhimdjkkiflhaaGreatDoor
