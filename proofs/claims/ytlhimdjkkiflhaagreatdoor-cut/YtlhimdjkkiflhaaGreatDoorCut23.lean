import Derived.Test.YtlhimdjkkiflhaaGreatDoorCut22
set_option maxHeartbeats 8000000
set_option maxRecDepth 100000
namespace Go.Proofs.YtlhimdjkkiflhaaGreatDoor
open Go.Proofs.Tryz
open Go.RowKit Go.Loop
theorem bQ {w:World}{lo:Nat}{e:TypeId}{z:Nat}{v:Value}{n:Nat}{xs:List Value}(h:w.ownsRow lo e z v n xs):∃a c,v=.slice a n c:=by
 rcases h.2 with⟨rfl,rfl⟩|⟨g,cap,cur,rfl,_⟩
 ·exact⟨_,_,rfl⟩
 ·exact⟨_,_,rfl⟩
theorem CR {R M g cap:Nat}{T:List Tok}{dp:Nat}{E:Env}{s:eX}{w w5 w6:World}{row:Option Nat}{A:Obj}(hr:bZ w5 R M g cap T dp E s)(hk:Kp R M w w5)(hg:(w5.alloc A).grownBy w6 row)(hrow:∀k,row=some k→w.heap.size≤k)(Fg:∀(b:Nat) (v:Value),w5.heap[b]?=some (.cells #[v] 215)→some b≠row)(h1:R<w.heap.size)(h2:M<w.heap.size)(h3:g<w.heap.size):bZ w6 R M g cap T dp E s∧Kp R M w w6∧(∀b,b<w5.heap.size→some b≠row→w6.heap[b]?=w5.heap[b]?)∧w5.heap.size+1≤w6.heap.size:=by
 have hs:(w5.alloc A).heap.size=w5.heap.size+1:=by simp
 have hb:∀b,b<w5.heap.size→some b≠row→w6.heap[b]?=w5.heap[b]?:=λb h h'=>(hg.block b (by omega) h').trans (Lib.alloc_old _ _ _ h);have hz:=hg.size;have fW:∀b,b<w.heap.size→some b≠row:=λb h e=>by have:=hrow b e.symm;omega
 have h5:=hk.size;refine⟨?_,⟨hg.os.trans hk.os,hg.tape.trans hk.tape,hg.output.trans hk.output,by omega,λb b1 b2 b3=>(hb b (by omega) (fW b b1)).trans (hk.block b b1 b2 b3)⟩,hb,by omega⟩;exact bZ.step hr (k:=s.k) ((hb R (by omega) (fW R h1)).trans hr.blk) (by omega) (λb b1 b2=>hb b b1 (b2.elim (λe=>by rw[e];exact fW g h3) (λe=>by rw[e];exact fW M h2))) λb v hv=>hb b (zae.1 hv).1 (Fg b v hv)
theorem G5 {w:World}{lo:Nat}{v:Value}{n:Nat}{xs:List Value}(h:w.ownsRow lo 58 1 v n xs):∀(b:Nat) (x:Value),w.heap[b]?=some (.cells #[x] 215)→some b≠v.ownBlock:=by
 intro b x hb e;rcases h.2 with⟨rfl,_⟩|⟨g,cap,cur,rfl,_,hg,_⟩
 ·cases e
 ·have:b=g:=by cases e;rfl
  rw[this,hg]at hb;simp at hb
section
variable {R M g cap:Nat}{T:List Tok}{dp:Nat}
theorem Jr {N:Nat}(ih:∀n,n≤N→IH R M g cap T dp n)(p:Pl)(hp:p.ahead=[])(w:World)(E:Env)(s:eX)(hr:bZ w R M g cap T dp E s)(hd:p.depth≤dp∧p.ahead.length≤p.depth)(ho:bD T dp (N+1) [] p s≠.out):Calls prog 196 #[aH R,gX p.depth p.passed (.slice none 0 0)] w λe w'=>j0 R M g cap T dp none w E s (bD T dp (N+1) [] p s) e w':=by
 have mixed:prog.follows Departure.mixedOrders=true:=by kernel_rfl
 have Ko:R<w.heap.size:=hr.lt;have lB:M<w.heap.size:=hr.mlt;have hrg:g<w.heap.size:=(hr.row.lt g rfl).2;have hb0:Below w.heap.size w (w.alloc (.cells #[.int .i64 p.depth,.bool p.passed,.slice none 0 0] 128)):=(Below.refl _ w).alloc (zaa _) _;have HP:Hid _:=heap_alloc_new w (.cells #[.int .i64 p.depth,.bool p.passed,.slice none 0 0] 128);have HR:Hid _:=hr.below hb0;have HB:Hid _:=hb0;have HI:Hid _:=ih;have HO:Hid _:=ho;have hsm:=hr.small;have HA:Hid (∀(w':World) (E':Env) (s':eX),iZ w' E' s' p.ahead (.slice none 0 0)):=λw' E' s'=>by rw[hp];exact⟨⟨rfl,.inl ⟨rfl,rfl⟩⟩,⟨_,_,_,rfl⟩,λn hn=>by cases hn⟩
 clear hr hb0 ih ho;unfold gX aH;go_enter func196,ntmps196;go_wp2_with fail;go_loopw [6] (λsv wr=>∃(m:Nat) (E1:Env) (s1:eX) (ds:List Dt) (vs:List Value),m≤N+1∧w.heap.size+1≤wr.heap.size∧ds.length=vs.length∧vs.length≤s1.k∧Hid (bD T dp (N+1) [] p s=bD T dp m ds p s1)∧Hid (bZ wr R M g cap T dp E1 s1)∧Hid (Ext w wr E E1 s s1)∧Hid (Kp R M w wr)∧Hid (wr.heap[w.heap.size]?=some (.cells #[.int .i64 p.depth,.bool p.passed,.slice none 0 0] 128))∧Hid (wr.ownsRow (w.heap.size+1) 58 1 sv vs.length vs)∧Hid (∀(j:Nat) d x,ds[j]?=some d→vs[j]?=some x→Held wr (w.heap.size+1) s1.fresh s1.aN E1 sv.ownBlock d x)) (λ_ wr=>T.length+1-(intOf ((wr.cell? ⟨R,1,none⟩).getD undef)).toNat)
 case atStart=>exact⟨N+1,E,s,[],[],zaa _,by simp,rfl,zaj _,rfl,HR.out,Ext.refl rfl rfl,Kp.aJ HB.out,HP.out,World.ownsRow_nil _ _ _ _,λj d x h=>by simp at h⟩
 case round=>
  obtain⟨m,E1,s1,ds,vs,hm,hsz,hl,hlen,HE,u7,HX,HK,N1,HW,HH⟩:=hrel;have EO:bD T dp m ds p s1≠.out:=by rw[←HE.out];exact HO.out
  obtain⟨m',rfl⟩:∃m',m=m'+1:=by
   cases m with
   |zero=>exact absurd (by unfold bD;rfl) EO
   |succ m'=>exact⟨m',rfl⟩
  have Pv:Hid (bD T dp (N+1) [] p s=(aX T dp m' p s1).bind λt s=>
   if t.kind=3 then .ok (aW ds .nil s.fresh).1 { s with fresh:=(aW ds .nil s.fresh).2 }
   else if t.kind=7∧ds≠[]then
    (aM T dp m' p s).bind λrest s=>(aX T dp m' p s).bind λt s=>
      if t.kind=3 then .ok (aW ds rest s.fresh).1 { s with fresh:=(aW ds rest s.fresh).2 } else .fail 3 t.from_
   else(bG T dp m' t p s).bind λd s=>bD T dp m' (ds++[d]) p s):=by
    show _=_;rw[HE.out]
    conv=>lhs;unfold bD
  clear EO HE;obtain⟨a1,c1,rfl⟩:=bQ HW.out;obtain⟨p0,p1,p2⟩:=fL N1.out;have hne:aX T dp m' p s1≠.out:=λh=>HO.out (by rw[Pv.out,h];rfl);have HT:Hid _:=(HI.out m' (by omega)).take p (.slice none 0 0) _ E1 s1 u7.out (HA.out _ _ _) hd hne;have SH:∀x∈vs,∃t y,x=.iface t y:=λx hx=>by
   obtain⟨j,hj,rfl⟩:=List.getElem_of_mem hx;exact(HH.out j (ds[j]'(by omega)) vs[j] (zai (by omega)) (zai hj)).1
  have HIF:Hid _:=SH;clear hne SH;cases hT:aX T dp m' p s1 with
  |out=>exact absurd (by rw[Pv.out,hT];rfl) HO.out
  |fail er a=>
   rw[hT]at HT;have jK:Hid (bD T dp (N+1) [] p s=.fail er a):=by show _=_;rw[Pv.out,hT];rfl
   unfold gX aH at HT;go_wp2_with fail;refine Calls.mono HT.out ?_;rintro e w2 ⟨⟨b,t,rfl,hf⟩,hk⟩;have HF:Hid _:=hf;have nE:Hid _:=hk;clear hf hk HT;unfold bn aH;go_wp2_with fail;go_ret2;rw[jK.out];exact⟨⟨b,rfl,dL.alloc HF.out _⟩,(Kp.trans (Kp.trans HK.out nE.out) (Kp.aJ ((Below.refl _ _).alloc (zaa _) _))).a none⟩
  |ok t s3=>
   have htl:=G4 hT;rw[hT]at HT;have jK:Hid (bD T dp (N+1) [] p s=if t.kind=3 then .ok (aW ds .nil s3.fresh).1 { s3 with fresh:=(aW ds .nil s3.fresh).2 }
   else if t.kind=7∧ds≠[]then
    (aM T dp m' p s3).bind λrest s=>(aX T dp m' p s).bind λt s=>
      if t.kind=3 then .ok (aW ds rest s.fresh).1 { s with fresh:=(aW ds rest s.fresh).2 } else .fail 3 t.from_
   else(bG T dp m' t p s3).bind λd s=>bD T dp m' (ds++[d]) p s):=by show _=_;rw[Pv.out,hT];rfl
   unfold gX aH at HT;go_wp2_with fail;refine Calls.mono HT.out ?_;rintro e w2 ⟨E3,rfl,hx3,hr3,hk3⟩;have hs3:=hk3.size;have hb4:Below w2.heap.size w2 (w2.alloc (.cells #[.int .i64 t.kind,.int .i64 t.from_,.int .i64 t.dF,.string ⟨⟨t.text⟩⟩,.int .i64 t.n,.int .i64 t.d,.int .i64 t.fault] 131)):=(Below.refl _ w2).alloc (zaa _) _;have Kj:(w2.alloc (.cells #[.int .i64 t.kind,.int .i64 t.from_,.int .i64 t.dF,.string ⟨⟨t.text⟩⟩,.int .i64 t.n,.int .i64 t.d,.int .i64 t.fault] 131)).heap.size=w2.heap.size+1:=by simp
   have hk4:=Kp.trans hk3 (Kp.aJ hb4);have WT:Hid _:=hr3.below hb4;have qA:Hid _:=Kp.trans HK.out hk4;have WU:Hid _:=Ext.wid (w:=w) (w3:=(w2.alloc (.cells #[.int .i64 t.kind,.int .i64 t.from_,.int .i64 t.dF,.string ⟨⟨t.text⟩⟩,.int .i64 t.n,.int .i64 t.d,.int .i64 t.fault] 131))) (Ext.trans HX.out hx3 (Kp.size HK.out) hs3) (zaa _) (by omega);have tY:Hid _:=bH HW.out (zaa _) (Kp.ge hk4 (by omega) (by omega));have WV:Hid (∀(j:Nat) d x,ds[j]?=some d→vs[j]?=some x→Held (w2.alloc (.cells #[.int .i64 t.kind,.int .i64 t.from_,.int .i64 t.dF,.string ⟨⟨t.text⟩⟩,.int .i64 t.n,.int .i64 t.d,.int .i64 t.fault] 131)) (w.heap.size+1) s3.fresh s3.aN E3 (Value.slice a1 vs.length c1).ownBlock d x):=λj d x h1 h2=>
    Held.keep (HH.out j d x h1 h2) (by omega) hx3.fresh hx3.aN hx3.agree (λb b1 b2 _=>Kp.ge hk4 (lo:=w.heap.size+1) (by omega) (by omega) b b1 b2) (.inl rfl)
   have YO:Hid _:=(hk4.block w.heap.size (by omega) (by omega) (by omega)).trans N1.out;obtain⟨y0,y1,y2⟩:=fL YO.out;obtain⟨⟨o0,o1,o2,o3,o4,o5,o6⟩,-⟩:=dz (Below.refl _ _) (heap_alloc_new w2 (.cells #[.int .i64 t.kind,.int .i64 t.from_,.int .i64 t.dF,.string ⟨⟨t.text⟩⟩,.int .i64 t.n,.int .i64 t.d,.int .i64 t.fault] 131));clear hx3 hr3 hk3 hk4 hb4 HT p0 p1 p2;unfold bn;by_cases k3:t.kind=3
   ·have q3:(((t.kind:Nat):Int)==3)=true:=by rw[k3];rfl
    rw[if_pos k3]at jK;clear k3;have HC:Hid _:=sX vs (.slice a1 vs.length c1) (w.heap.size+1) (.iface 272 (.agg #[])) _ tY.out (by omega) HIF.out ⟨_,_,rfl⟩;go_wp2_with fail;refine Calls.mono HC.out ?_;rintro e w5 ⟨v,rfl,hc,hs5,lC⟩;obtain⟨tv,yv,rfl⟩:=hc.iface ⟨_,_,rfl⟩;have HG:Hid _:=sY (T:=T) (dp:=dp) (g:=g) (cap:=cap) (w:=w) (lo:=w.heap.size+1) (ds:=ds) (rest:= .nil) (s1:=s3) (E1:=E3) (by omega) (by omega)
     (λj d x h1 h2=>(WV.out j d x h1 h2).YN) (by unfold cz;rfl) hl ⟨_,_,rfl⟩ hc hs5 lC WT.out WU.out qA.out
    clear hc lC;go_wp2_with fail;go_ret2;rw[jK.out];exact HG.out
   have q3:(((t.kind:Nat):Int)==3)=false:=by rw[beq_eq_false_iff_ne];omega
   rw[if_neg k3]at jK;clear k3;by_cases k7:t.kind=7∧ds≠[]
   ·have q7:(((t.kind:Nat):Int)==7)=true:=by rw[k7.1];rfl
    have jS:0<vs.length:=by have:=zbC.2 k7.2;omega
    have q8:decide ((0:Int)<(vs.length:Int))=true:=by simp;omega
    rw[if_pos k7]at jK;clear k7;have HC:Hid _:=CQ (HI.out m' (by omega)) p hp hd w _ E E3 s s3 WT.out WU.out qA.out (w.heap.size+1) (by omega) (by omega) (by omega) (by omega) ds vs hl (by omega) a1 vs.length c1 tY.out WV.out HIF.out _ jK.out HO.out;unfold gX aH at HC;go_wp2_with fail;refine Calls.mono HC.out ?_;intro e w5 cC;cases hF:bD T dp (N+1) [] p s with
    |out=>exact absurd hF HO.out
    |fail er a=>
     rw[hF]at cC;obtain⟨⟨b,rfl,hf⟩,hk2⟩:=cC;have HG:Hid (j0 R M g cap T dp none w E s (RR.fail er a) (.returned (.tuple #[.nilIface,aH b])) w5):=⟨⟨b,rfl,hf⟩,hk2⟩;clear hf hk2;unfold aH;go_wp2_with fail;go_ret2;rw[hF];exact HG.out
    |ok d s2=>
     rw[hF]at cC;obtain⟨v,E2,rfl,⟨ty,y,rfl⟩,cH,hx2,hr2,hk2⟩:=cC;have HG:Hid (j0 R M g cap T dp none w E s (RR.ok d s2) (.returned (.tuple #[.iface ty y,.pointer none])) w5):=⟨.iface ty y,E2,rfl,⟨ty,y,rfl⟩,cH,hx2,hr2,hk2⟩;clear cH hx2 hr2 hk2;go_wp2_with fail;go_ret2;rw[hF];exact HG.out
   ·rw[if_neg k7]at jK;have hq:(((t.kind:Nat):Int)==7)=false∨((((t.kind:Nat):Int)==7)=true∧¬0<vs.length∧¬((0:Int)<(vs.length:Int))):=by
     by_cases h7:t.kind=7
     ·refine .inr ⟨by rw[h7];rfl,?_⟩;have:ds=[]:=by
       cases ds with
       |nil=>rfl
       |cons x l=>exact absurd ⟨h7,by simp⟩ k7
      have h0:vs.length=0:=by rw[←hl,this];rfl
      exact⟨by omega,by omega⟩
     ·exact .inl (by rw[beq_eq_false_iff_ne];omega)
    clear k7;have hne:bG T dp m' t p s3≠.out:=λh=>HO.out (by rw[jK.out,h];rfl);have HC:Hid _:=(HI.out m' (by omega)).sj t p (.slice none 0 0) _ E3 s3 WT.out (HA.out _ _ _) hd hne;clear hne;unfold bn gX aH at HC;obtain⟨i0,hi,hz0,hz1,hz2⟩:=info_parts zr;rcases hq with q7|⟨q7,q9,q10⟩
    all_goals
     go_wp2_with fail;refine Calls.mono HC.out ?_;intro e w5 cC;cases hF:bG T dp m' t p s3 with
     |out=>exact absurd (by rw[jK.out,hF];rfl) HO.out
     |fail er a=>
      rw[hF]at cC;have Uz:Hid (bD T dp (N+1) [] p s=.fail er a):=by show _=_;rw[jK.out,hF];rfl
      obtain⟨⟨b,rfl,hf⟩,hk2⟩:=cC;have HG:Hid (j0 R M g cap T dp none w E s (RR.fail er a) (.returned (.tuple #[.nilIface,aH b])) w5):=⟨⟨b,rfl,hf⟩,(Kp.trans qA.out (jP.plain hk2)).a none⟩;clear hf hk2;unfold aH;go_wp2_with fail;go_ret2;rw[Uz.out];exact HG.out
     |ok d s5=>
      rw[hF]at cC;have Uz:Hid (bD T dp (N+1) [] p s=bD T dp m' (ds++[d]) p s5):=by show _=_;rw[jK.out,hF];rfl
      have WE:=(grows T dp m').sj _ _ _ _ _ hF;obtain⟨v,E5,rfl,⟨ty,y,rfl⟩,cH,Js,xR,qC⟩:=cC;replace qC:=jP.plain qC;have hs5:=qC.size;have DV:Hid _:=Kp.trans qA.out qC;have HX5:Hid _:=Ext.trans WU.out Js (Kp.size qA.out) hs5;have HP5:Hid _:=(qC.block w.heap.size (by omega) (by omega) (by omega)).trans YO.out;have tZ:Hid _:=bH tY.out (zaa _) (Kp.ge qC (by omega) (by omega));have SK:Hid _:=xR;have HD5:Hid _:=cH;have HH5:Hid (∀(j:Nat) d x,ds[j]?=some d→vs[j]?=some x→Held w5 (w.heap.size+1) s5.fresh s5.aN E5 (Value.slice a1 vs.length c1).ownBlock d x):=λj d x h1 h2=>
       Held.keep (WV.out j d x h1 h2) (by omega) Js.fresh Js.aN Js.agree (λb b1 b2 _=>Kp.ge qC (lo:=w.heap.size+1) (by omega) (by omega) b b1 b2) (.inl rfl)
      clear cH Js xR qC hF y0 y1 y2 o0 o1 o2 o3 o4 o5 o6;have zv:∀k,(Value.slice a1 vs.length c1).ownBlock=some k→w.heap.size+1≤k∧k<w5.heap.size:=World.ownsRow.lt tZ.out;go_wp2_with (at_builtin;refine iq rfl _ _ 162 rfl (w.heap.size+1) 58 i0 .nilIface 16 underlying162 hi hz0 hz1 hz2 (by decide) rfl _ vs.length vs rfl (World.ownsRow.alloc tZ.out _) ⟨w5.heap.size,0,none⟩ 1 1 [.iface ty y] rfl (by decide) rfl ?c1 ?c2 ?c3 ?c4 ?_)
      case c1=>
       intro j u hj
       match j,hj with
       |0,hj=>simp at hj;subst hj;simp[Addr.add]
      case c2=>intro u hu;simp at hu;subst hu;rfl
      case c3=>omega
      case c4=>simp;omega
      intro v' w6 hown' hgrow lH;obtain⟨yh,Kr,mL,hs6⟩:=CR SK.out DV.out hgrow (λk hk=>by have:=zv k hk;omega) (G5 tZ.out) Ko lB hrg;have UA:Hid _:=yh;have HK6:Hid _:=Kr;have HW6:Hid (w6.ownsRow (w.heap.size+1) 58 1 v' (vs++[Value.iface ty y]).length (vs++[Value.iface ty y])):=by show World.ownsRow _ _ _ _ _ _ _;rw[zaw];exact hown'
      have HP6:Hid _:=(mL w.heap.size (by omega) (λe=>by have:=zv _ e.symm;omega)).trans HP5.out;have WW:v'.ownBlock=(Value.slice a1 vs.length c1).ownBlock∨∃b,v'.ownBlock=some b∧w5.heap.size≤b:=lH.imp id λ⟨k,k1,k2⟩=>⟨k,k1,zad (by simp) k2⟩;have HH6:Hid (∀(j:Nat) d' x,(ds++[d])[j]?=some d'→(vs++[Value.iface ty y])[j]?=some x→Held w6 (w.heap.size+1) s5.fresh s5.aN E5 v'.ownBlock d' x):=λj d' x h1 h2=>by
       rcases zag j ds.length with hj|hj
       ·rw[zaF hj]at h1;rw[zaF (by omega)]at h2;exact Held.keep (HH5.out j d' x h1 h2) (by omega) (zaa _) (λ_ h=>h) ⟨λ_ _=>rfl,λ_ _=>rfl⟩ (λb _ b2 b3=>mL b b2 b3) WW
       ·have e0:j=ds.length:=by
         have:=(zbg.1 h1).1;simp at this;omega
        subst e0;rw[zaK (zaa _)]at h1;rw[zaK (by omega)]at h2;simp at h1;simp[hl]at h2;subst h1 h2;refine⟨⟨_,_,rfl⟩,w5,_,?_,by omega,HD5.out,λb b1 b2=>mL b b2 λe=>?_,λb e=>?_⟩
        ·omega
        ·have:=World.ownsRow.lt tY.out b e.symm;omega
        ·rcases WW with q|⟨b',q,q'⟩
         ·have:=World.ownsRow.lt tY.out b (q.symm.trans e);omega
         ·rw[q]at e;cases e;exact .inr q'
      have Yk:ds.length+1=vs.length+1:=by omega
      clear yh Kr hown' hgrow lH;obtain⟨a6,c6,rfl⟩:=bQ HW6.out;go_wp2_with fail;refine⟨⟨m',E5,s5,ds++[d],vs++[Value.iface ty y],by omega,by omega,by simp;omega,by simp;omega,Uz,UA,Ext.wid HX5.out (zaa _) (by omega),HK6,HP6,HW6,HH6⟩,?_⟩;rw[(im UA.out.blk).1.2.1,(im u7.out.blk).1.2.1];simp only[zaD,intOf,zaB];omega
end
theorem G6 {lo k:Nat}{L:List Int}{w:World}{E:Env}:∀(ds:List Dt) (vs:List Value),ds.length=vs.length→(∀(j:Nat) d x,ds[j]?=some d→vs[j]?=some x→cz lo k L w E d x)→df lo k L w E (lJ ds) vs
 |[],[],_,_=>by unfold lJ df;rfl
 |d::ds,x::vs,hl,h=>by
  unfold lJ df;exact⟨x,vs,rfl,h 0 d x (by simp) (by simp),G6 ds vs (by simpa using hl) λj d' x' h1 h2=>h (j+1) d' x' (by simpa using h1) (by simpa using h2)⟩
 |[],_::_,hl,_=>by simp at hl
 |_::_,[],hl,_=>by simp at hl
section
variable {R M g cap:Nat}{T:List Tok}{dp:Nat}
def Env.one (E:Env)(i b:Nat):Env:=⟨λj=>if j=i then b else E.α j,E.eL⟩
theorem Ext.one {w w':World}{E:Env}{s:eX}{b:Nat}(h1:w.heap.size≤b)(h2:b<w'.heap.size):Ext w w' E (E.one s.fresh b) s { s with fresh:=s.fresh+1 }:=by
 refine⟨⟨λi hi=>if_neg (by omega),λ_ _=>rfl⟩,Nat.le_succ _,λ_ h=>h,λi i1 i2=>?_,λi j i1 i2 j1 j2 _=>?_⟩
 ·have:i=s.fresh:=by have:i<s.fresh+1:=i2;omega
  subst this;show w.heap.size≤(if s.fresh=s.fresh then b else _)∧(if s.fresh=s.fresh then b else _)<_;rw[if_pos rfl];exact⟨h1,h2⟩
 ·have:i<s.fresh+1:=i2;have:j<s.fresh+1:=j2;omega
theorem bZ.name {w:World}{R M g cap:Nat}{T:List Tok}{dp:Nat}{E E':Env}{s s':eX}(h:bZ w R M g cap T dp E s)(h1:E'.eL=E.eL)(h2:s'.k=s.k)(h3:s'.aN=s.aN):bZ w R M g cap T dp E' s':=by
 obtain⟨α,eL⟩:=E';obtain⟨k,f,aN⟩:=s';simp only at h1 h2 h3;subst h1 h2 h3;exact⟨h.rm,h.gr,h.gm,h.blk,h.row,h.lm,h.low,h.inj,h.small,h.deep⟩
theorem yu {N:Nat}(ih:∀n,n≤N→IH R M g cap T dp n)(p:Pl)(hp:p.ahead=[])(w:World)(E:Env)(s:eX)(hr:bZ w R M g cap T dp E s)(hd:p.depth≤dp∧p.ahead.length≤p.depth)(r:RR Dt)(gl:r=(dR T dp (N+1) [] p { s with fresh:=s.fresh+1 }).bind λl s'=> .ok (.vec s.fresh (lJ l)) s')(ho:r≠.out):Calls prog 194 #[aH R,gX p.depth p.passed (.slice none 0 0)] w λe w'=>j0 R M g cap T dp none w E s r e w':=by
 have mixed:prog.follows Departure.mixedOrders=true:=by kernel_rfl
 have Ko:R<w.heap.size:=hr.lt;have lB:M<w.heap.size:=hr.mlt;have hrg:g<w.heap.size:=(hr.row.lt g rfl).2;have hb0:Below w.heap.size w ((w.alloc (.cells #[.int .i64 p.depth,.bool p.passed,.slice none 0 0] 128)).alloc (.cells #[.slice none 0 0] 165)):=((Below.refl _ w).alloc (zaa _) _).alloc (by simp) _;have HP:Hid (((w.alloc (.cells #[.int .i64 p.depth,.bool p.passed,.slice none 0 0] 128)).alloc (.cells #[.slice none 0 0] 165)).heap[w.heap.size]?=some (.cells #[.int .i64 p.depth,.bool p.passed,.slice none 0 0] 128)):=(Lib.alloc_old _ _ _ (by simp)).trans (heap_alloc_new w _);have HV:Hid (((w.alloc (.cells #[.int .i64 p.depth,.bool p.passed,.slice none 0 0] 128)).alloc (.cells #[.slice none 0 0] 165)).heap[w.heap.size+1]?=some (.cells #[.slice none 0 0] 165)):=ed w _ _;have HR:Hid (bZ ((w.alloc (.cells #[.int .i64 p.depth,.bool p.passed,.slice none 0 0] 128)).alloc (.cells #[.slice none 0 0] 165)) R M g cap T dp (E.one s.fresh (w.heap.size+1)) { s with fresh:=s.fresh+1 }):=bZ.name (hr.below hb0) rfl rfl rfl;have HB:Hid _:=hb0;have HI:Hid _:=ih;have HO:Hid _:=ho;have Kq:Hid _:=gl;have hsm:=hr.small;have HA:Hid (∀(w':World) (E':Env) (s':eX),iZ w' E' s' p.ahead (.slice none 0 0)):=λw' E' s'=>by rw[hp];exact⟨⟨rfl,.inl ⟨rfl,rfl⟩⟩,⟨_,_,_,rfl⟩,λn hn=>by cases hn⟩
 clear hr hb0 ih ho gl;unfold gX aH;go_enter func194,ntmps194;go_wp2_with fail;go_loopw [] (λwr=>∃(m:Nat) (E1:Env) (s1:eX) (ds:List Dt) (vs:List Value) (sv:Value),m≤N+1∧w.heap.size+2≤wr.heap.size∧ds.length=vs.length∧vs.length≤s1.k∧s.fresh<s1.fresh∧E1.α s.fresh=w.heap.size+1∧Hid (r=(dR T dp m ds p s1).bind λl s'=> .ok (.vec s.fresh (lJ l)) s')∧Hid (bZ wr R M g cap T dp E1 s1)∧Hid (Ext w wr E E1 s s1)∧Hid (Kp R M w wr)∧Hid (wr.heap[w.heap.size]?=some (.cells #[.int .i64 p.depth,.bool p.passed,.slice none 0 0] 128))∧Hid (wr.heap[w.heap.size+1]?=some (.cells #[sv] 165))∧Hid (wr.ownsRow (w.heap.size+2) 58 1 sv vs.length vs)∧Hid (∀(j:Nat) d x,ds[j]?=some d→vs[j]?=some x→Held wr (w.heap.size+2) s1.fresh s1.aN E1 sv.ownBlock d x)) (λwr=>T.length+1-(intOf ((wr.cell? ⟨R,1,none⟩).getD undef)).toNat)
 case atStart=>exact⟨N+1,E.one s.fresh (w.heap.size+1),{ s with fresh:=s.fresh+1 },[],[],.slice none 0 0,zaa _,by simp,rfl,zaj _,Nat.lt_succ_self _,if_pos rfl,Kq.out,HR.out,Ext.one (by omega) (by simp),Kp.aJ HB.out,HP.out,HV.out,World.ownsRow_nil _ _ _ _,λj d x h=>by simp at h⟩
 case round=>
  obtain⟨m,E1,s1,ds,vs,sv,hm,hsz,hl,hlen,xZ,hE1,HE,u7,HX,HK,N1,HV1,HW,HH⟩:=hrel;have EO:dR T dp m ds p s1≠.out:=λh=>HO.out (by rw[HE.out,h];rfl);obtain⟨m',rfl⟩:∃m',m=m'+1:=by
   cases m with
   |zero=>exact absurd (by unfold dR;rfl) EO
   |succ m'=>exact⟨m',rfl⟩
  have Pv:Hid (r=((aX T dp m' p s1).bind λt s=>
   if t.kind=3 then .ok ds s
   else if ds.length=20 then .fail 3 t.from_
   else(bG T dp m' t p s).bind λd s=>dR T dp m' (ds++[d]) p s).bind λl s'=> .ok (.vec s.fresh (lJ l)) s'):=by
    show _=_;rw[HE.out]
    conv=>lhs;unfold dR
  clear EO HE;obtain⟨a1,c1,rfl⟩:=bQ HW.out;obtain⟨p0,p1,p2⟩:=fL N1.out;have hne:aX T dp m' p s1≠.out:=λh=>HO.out (by rw[Pv.out,h];rfl);have HT:Hid _:=(HI.out m' (by omega)).take p (.slice none 0 0) _ E1 s1 u7.out (HA.out _ _ _) hd hne;clear hne;cases hT:aX T dp m' p s1 with
  |out=>exact absurd (by rw[Pv.out,hT];rfl) HO.out
  |fail er a=>
   rw[hT]at HT;have jK:Hid (r=.fail er a):=by show _=_;rw[Pv.out,hT];rfl
   unfold gX aH at HT;go_wp2_with fail;refine Calls.mono HT.out ?_;rintro e w2 ⟨⟨b,t,rfl,hf⟩,hk⟩;have HF:Hid _:=hf;have nE:Hid _:=hk;clear hf hk HT;unfold bn aH;go_wp2_with fail;go_ret2;rw[jK.out];exact⟨⟨b,rfl,dL.alloc HF.out _⟩,(Kp.trans (Kp.trans HK.out nE.out) (Kp.aJ ((Below.refl _ _).alloc (zaa _) _))).a none⟩
  |ok t s3=>
   have htl:=G4 hT;rw[hT]at HT;have jK:Hid (r=(if t.kind=3 then .ok ds s3
   else if ds.length=20 then .fail 3 t.from_
   else(bG T dp m' t p s3).bind λd s=>dR T dp m' (ds++[d]) p s:RR (List Dt)).bind λl s'=> .ok (.vec s.fresh (lJ l)) s'):=by show _=_;rw[Pv.out,hT];rfl
   unfold gX aH at HT;go_wp2_with fail;refine Calls.mono HT.out ?_;rintro e w2 ⟨E3,rfl,hx3,hr3,hk3⟩;have hs3:=hk3.size;have hb4:Below w2.heap.size w2 (w2.alloc (.cells #[.int .i64 t.kind,.int .i64 t.from_,.int .i64 t.dF,.string ⟨⟨t.text⟩⟩,.int .i64 t.n,.int .i64 t.d,.int .i64 t.fault] 131)):=(Below.refl _ w2).alloc (zaa _) _;have Kj:(w2.alloc (.cells #[.int .i64 t.kind,.int .i64 t.from_,.int .i64 t.dF,.string ⟨⟨t.text⟩⟩,.int .i64 t.n,.int .i64 t.d,.int .i64 t.fault] 131)).heap.size=w2.heap.size+1:=by simp
   have hk4:=Kp.trans hk3 (Kp.aJ hb4);have WT:Hid _:=hr3.below hb4;have qA:Hid _:=Kp.trans HK.out hk4;have WU:Hid _:=Ext.wid (w:=w) (w3:=(w2.alloc (.cells #[.int .i64 t.kind,.int .i64 t.from_,.int .i64 t.dF,.string ⟨⟨t.text⟩⟩,.int .i64 t.n,.int .i64 t.d,.int .i64 t.fault] 131))) (Ext.trans HX.out hx3 (Kp.size HK.out) hs3) (zaa _) (by omega);have tY:Hid _:=bH HW.out (zaa _) (Kp.ge hk4 (by omega) (by omega));have WV:Hid (∀(j:Nat) d x,ds[j]?=some d→vs[j]?=some x→Held (w2.alloc (.cells #[.int .i64 t.kind,.int .i64 t.from_,.int .i64 t.dF,.string ⟨⟨t.text⟩⟩,.int .i64 t.n,.int .i64 t.d,.int .i64 t.fault] 131)) (w.heap.size+2) s3.fresh s3.aN E3 (Value.slice a1 vs.length c1).ownBlock d x):=λj d x h1 h2=>
    Held.keep (HH.out j d x h1 h2) (by omega) hx3.fresh hx3.aN hx3.agree (λb b1 b2 _=>Kp.ge hk4 (lo:=w.heap.size+2) (by omega) (by omega) b b1 b2) (.inl rfl)
   have YO:Hid _:=(hk4.block w.heap.size (by omega) (by omega) (by omega)).trans N1.out;have HV4:Hid _:=(hk4.block (w.heap.size+1) (by omega) (by omega) (by omega)).trans HV1.out;have hf3:s.fresh<s3.fresh:=zaq xZ hx3.fresh;have hE3:E3.α s.fresh=w.heap.size+1:=(hx3.agree.1 _ xZ).trans hE1;obtain⟨y0,y1,y2⟩:=fL YO.out;have z0:(w2.alloc (.cells #[.int .i64 t.kind,.int .i64 t.from_,.int .i64 t.dF,.string ⟨⟨t.text⟩⟩,.int .i64 t.n,.int .i64 t.d,.int .i64 t.fault] 131)).cell? ⟨w.heap.size+1,0,none⟩=some (.slice a1 vs.length c1):=by simp only[World.cell?,HV4.out];rfl
   have z1:w2.cell? ⟨w.heap.size+1,0,none⟩=some (.slice a1 vs.length c1):=by simp only[World.cell?,(hk3.block (w.heap.size+1) (by omega) (by omega) (by omega)).trans HV1.out];rfl
   obtain⟨⟨o0,o1,o2,o3,o4,o5,o6⟩,-⟩:=dz (Below.refl _ _) (heap_alloc_new w2 (.cells #[.int .i64 t.kind,.int .i64 t.from_,.int .i64 t.dF,.string ⟨⟨t.text⟩⟩,.int .i64 t.n,.int .i64 t.d,.int .i64 t.fault] 131));have n1:¬w.heap.size+1=w2.heap.size:=by omega
   have n2:w.heap.size+1<w2.heap.size:=by omega
   clear hx3 hr3 hk3 hk4 hb4 HT p0 p1 p2;unfold bn;by_cases k3:t.kind=3
   ·have q3:(((t.kind:Nat):Int)==3)=true:=by rw[k3];rfl
    rw[if_pos k3]at jK;clear k3;have HG:Hid (j0 R M g cap T dp none w E s (.ok (.vec s.fresh (lJ ds)) s3) (.returned (.tuple #[.iface 163 (aH (w.heap.size+1)),.pointer none])) (w2.alloc (.cells #[.int .i64 t.kind,.int .i64 t.from_,.int .i64 t.dF,.string ⟨⟨t.text⟩⟩,.int .i64 t.n,.int .i64 t.d,.int .i64 t.fault] 131))):=by
     refine⟨_,E3,rfl,⟨_,_,rfl⟩,?_,WU.out,WT.out,Kp.a qA.out none⟩;unfold cz;refine⟨hf3,by rw[hE3];omega,by rw[hE3],.slice a1 vs.length c1,vs,by rw[hE3];exact HV4.out,bH tY.out (by omega) λ_ _ _=>rfl,G6 ds vs hl λj d x h1 h2=>?_⟩;exact cz.keep (by omega) (zaa _) (λ_ h=>h) (λ_ _ _=>rfl) ⟨λ_ _=>rfl,λ_ _=>rfl⟩ d x (WV.out j d x h1 h2).YN
    go_wp2_with fail;go_ret2;rw[jK.out];exact HG.out
   have q3:(((t.kind:Nat):Int)==3)=false:=by rw[beq_eq_false_iff_ne];omega
   rw[if_neg k3]at jK;clear k3;by_cases k7:ds.length=20
   ·have q7:(((vs.length:Nat):Int)==20)=true:=by rw[←hl,k7];rfl
    rw[if_pos k7]at jK;clear k7;go_wp2_with fail;go_region;go_wp2_with fail;go_ret2;rw[jK.out];refine⟨⟨w2.heap.size+1,rfl,?_⟩,(Kp.trans qA.out (Kp.aJ (((Below.refl _ _).alloc (zaa _) _).drew))).a none⟩;exact ed w2 _ _
   ·rw[if_neg k7]at jK;have q7:(((vs.length:Nat):Int)==20)=false:=by rw[beq_eq_false_iff_ne];omega
    clear k7;have hne:bG T dp m' t p s3≠.out:=λh=>HO.out (by rw[jK.out,h];rfl);have HC:Hid _:=(HI.out m' (by omega)).sj t p (.slice none 0 0) _ E3 s3 WT.out (HA.out _ _ _) hd hne;clear hne;unfold bn gX aH at HC;obtain⟨i0,hi,hz0,hz1,hz2⟩:=info_parts zr;go_wp2_with fail;refine Calls.mono HC.out ?_;intro e w5 cC;cases hF:bG T dp m' t p s3 with
    |out=>exact absurd (by rw[jK.out,hF];rfl) HO.out
    |fail er a=>
     rw[hF]at cC;have Uz:Hid (r=.fail er a):=by show _=_;rw[jK.out,hF];rfl
     obtain⟨⟨b,rfl,hf⟩,hk2⟩:=cC;have HG:Hid (j0 R M g cap T dp none w E s (RR.fail er a) (.returned (.tuple #[.nilIface,aH b])) w5):=⟨⟨b,rfl,hf⟩,(Kp.trans qA.out (jP.plain hk2)).a none⟩;clear hf hk2;unfold aH;go_wp2_with fail;go_ret2;rw[Uz.out];exact HG.out
    |ok d s5=>
     rw[hF]at cC;have Uz:Hid (r=(dR T dp m' (ds++[d]) p s5).bind λl s'=> .ok (.vec s.fresh (lJ l)) s'):=by show _=_;rw[jK.out,hF];rfl
     have WE:=(grows T dp m').sj _ _ _ _ _ hF;obtain⟨v,E5,rfl,⟨ty,y,rfl⟩,cH,Js,xR,qC⟩:=cC;replace qC:=jP.plain qC;have hs5:=qC.size;have DV:Hid _:=Kp.trans qA.out qC;have HX5:Hid _:=Ext.trans WU.out Js (Kp.size qA.out) hs5;have HP5:Hid _:=(qC.block w.heap.size (by omega) (by omega) (by omega)).trans YO.out;have UB:Hid _:=(qC.block (w.heap.size+1) (by omega) (by omega) (by omega)).trans HV4.out;have tZ:Hid _:=bH tY.out (zaa _) (Kp.ge qC (by omega) (by omega));have SK:Hid _:=xR;have HD5:Hid _:=cH;have hf5:s.fresh<s5.fresh:=zaq hf3 Js.fresh;have hE5:E5.α s.fresh=w.heap.size+1:=(Js.agree.1 _ hf3).trans hE3;have HH5:Hid (∀(j:Nat) d x,ds[j]?=some d→vs[j]?=some x→Held w5 (w.heap.size+2) s5.fresh s5.aN E5 (Value.slice a1 vs.length c1).ownBlock d x):=λj d x h1 h2=>
      Held.keep (WV.out j d x h1 h2) (by omega) Js.fresh Js.aN Js.agree (λb b1 b2 _=>Kp.ge qC (lo:=w.heap.size+2) (by omega) (by omega) b b1 b2) (.inl rfl)
     have z5:w5.cell? ⟨w.heap.size+1,0,none⟩=some (.slice a1 vs.length c1):=by simp only[World.cell?,UB.out];rfl
     have n5:¬w.heap.size+1=w5.heap.size:=by omega
     have n6:w.heap.size+1<w5.heap.size:=by omega
     clear cH Js xR qC hF y0 y1 y2 o0 o1 o2 o3 o4 o5 o6 z0 z1 n1 n2;have zv:∀k,(Value.slice a1 vs.length c1).ownBlock=some k→w.heap.size+2≤k∧k<w5.heap.size:=World.ownsRow.lt tZ.out;go_wp2_with (at_builtin;refine iq rfl _ _ 162 rfl (w.heap.size+2) 58 i0 .nilIface 16 underlying162 hi hz0 hz1 hz2 (by decide) rfl _ vs.length vs rfl (World.ownsRow.alloc tZ.out _) ⟨w5.heap.size,0,none⟩ 1 1 [.iface ty y] rfl (by decide) rfl ?c1 ?c2 ?c3 ?c4 ?_)
     case c1=>
      intro j u hj
      match j,hj with
      |0,hj=>simp at hj;subst hj;simp[Addr.add]
     case c2=>intro u hu;simp at hu;subst hu;rfl
     case c3=>omega
     case c4=>simp;omega
     intro v' w6 hown' hgrow lH;obtain⟨yh,Kr,mL,hs6⟩:=CR SK.out DV.out hgrow (λk hk=>by have:=zv k hk;omega) (G5 tZ.out) Ko lB hrg;have hv6:=(mL (w.heap.size+1) (by omega) (λe=>by have:=zv _ e.symm;omega)).trans UB.out;obtain⟨g6,z6⟩:w6.cell? ⟨w.heap.size+1,0,none⟩=some (.slice a1 vs.length c1)∧w6.frozen? ⟨w.heap.size+1,0,none⟩=false:=by constructor<;>simp[World.cell?,World.frozen?,hv6]
     have UC:Hid (∀b,b≠w.heap.size+1→(w6.setCell ⟨w.heap.size+1,0,none⟩ v').heap[b]?=w6.heap[b]?):=λb hb=>Below.heap_setCell _ _ _ _ hb;have HV7:Hid ((w6.setCell ⟨w.heap.size+1,0,none⟩ v').heap[w.heap.size+1]?=some (.cells #[v'] 165)):=ey hv6 0 v';have hs7:(w6.setCell ⟨w.heap.size+1,0,none⟩ v').heap.size=w6.heap.size:=by simp
     have Pw:Hid (bZ (w6.setCell ⟨w.heap.size+1,0,none⟩ v') R M g cap T dp E5 s5):=bZ.step yh (k:=s5.k) ((UC.out R (by omega)).trans yh.blk) (by omega) (λb _ b2=>UC.out b (by omega)) λb x hb=>UC.out b (λe=>by rw[e,hv6]at hb;simp at hb);have HK7:Hid (Kp R M w (w6.setCell ⟨w.heap.size+1,0,none⟩ v')):=Kp.kN Kr ((Below.refl _ _).setCell (p:=⟨w.heap.size+1,0,none⟩) (by show w.heap.size≤w.heap.size+1;omega) _);have HW7:Hid ((w6.setCell ⟨w.heap.size+1,0,none⟩ v').ownsRow (w.heap.size+2) 58 1 v' (vs++[Value.iface ty y]).length (vs++[Value.iface ty y])):=by
      show World.ownsRow _ _ _ _ _ _ _;rw[zaw];exact bH hown' (zaa _) λb b1 _=>UC.out b (by omega)
     have HP7:Hid _:=(UC.out w.heap.size (by omega)).trans ((mL w.heap.size (by omega) (λe=>by have:=zv _ e.symm;omega)).trans HP5.out);have WW:v'.ownBlock=(Value.slice a1 vs.length c1).ownBlock∨∃b,v'.ownBlock=some b∧w5.heap.size≤b:=lH.imp id λ⟨k,k1,k2⟩=>⟨k,k1,zad (by simp) k2⟩;have HH7:Hid (∀(j:Nat) d' x,(ds++[d])[j]?=some d'→(vs++[Value.iface ty y])[j]?=some x→Held (w6.setCell ⟨w.heap.size+1,0,none⟩ v') (w.heap.size+2) s5.fresh s5.aN E5 v'.ownBlock d' x):=λj d' x h1 h2=>by
      rcases zag j ds.length with hj|hj
      ·rw[zaF hj]at h1;rw[zaF (by omega)]at h2;exact Held.keep (HH5.out j d' x h1 h2) (by omega) (zaa _) (λ_ h=>h) ⟨λ_ _=>rfl,λ_ _=>rfl⟩ (λb b1 b2 b3=>(UC.out b (by omega)).trans (mL b b2 b3)) WW
      ·have e0:j=ds.length:=by
        have:=(zbg.1 h1).1;simp at this;omega
       subst e0;rw[zaK (zaa _)]at h1;rw[zaK (by omega)]at h2;simp at h1;simp[hl]at h2;subst h1 h2;refine⟨⟨_,_,rfl⟩,w5,_,?_,by omega,HD5.out,λb b1 b2=>(UC.out b (by omega)).trans (mL b b2 λe=>?_),λb e=>?_⟩
       ·omega
       ·have:=World.ownsRow.lt tY.out b e.symm;omega
       ·rcases WW with q|⟨b',q,q'⟩
        ·have:=World.ownsRow.lt tY.out b (q.symm.trans e);omega
        ·rw[q]at e;cases e;exact .inr q'
     obtain⟨a6,c6,rfl⟩:=bQ hown';clear yh Kr hown' hgrow lH;go_wp2_with fail;refine⟨⟨m',E5,s5,ds++[d],vs++[Value.iface ty y],_,by omega,by omega,by simp;omega,by simp;omega,hf5,hE5,Uz,Pw,Ext.wid HX5.out (zaa _) (by omega),HK7,HP7,HV7,HW7,HH7⟩,?_⟩;rw[(im Pw.out.blk).1.2.1,(im u7.out.blk).1.2.1];simp only[zaD,intOf,zaB];omega
end
theorem YP (w:World)(x y:Value):(w.alloc (.cells #[x,y] 58)).ownsRow w.heap.size 58 1 (.slice (some ⟨w.heap.size,0,none⟩) 2 2) 2 [x,y]:=
 ⟨rfl,.inr ⟨w.heap.size,2,#[x,y],rfl,zaa _,heap_alloc_new w _,zaa _,by decide,rfl,rfl⟩⟩
section
variable {R M g cap:Nat}{T:List Tok}{dp:Nat}
theorem Fh {n:Nat}(ih:IH R M g cap T dp n)(p:Pl)(hp:p.ahead=[])(w:World)(E:Env)(s:eX)(hr:bZ w R M g cap T dp E s)(hd:p.depth≤dp∧p.ahead.length≤p.depth)(r:RR Dt)(gl:r=(aM T dp n p s).bind λd s=> .ok (aW [.sym [113,117,111,116,101],d] .nil s.fresh).1 { s with fresh:=s.fresh+2 })(ho:r≠.out):Calls prog 195 #[aH R,gX p.depth p.passed (.slice none 0 0)] w λe w'=>j0 R M g cap T dp none w E s r e w':=by
 have mixed:prog.follows Departure.mixedOrders=true:=by kernel_rfl
 have hb0:Below w.heap.size w (w.alloc (.cells #[.int .i64 p.depth,.bool p.passed,.slice none 0 0] 128)):=(Below.refl _ w).alloc (zaa _) _;have HR:Hid _:=hr.below hb0;have HK:Hid (Kp R M w (w.alloc (.cells #[.int .i64 p.depth,.bool p.passed,.slice none 0 0] 128))):=Kp.aJ hb0;have Mu:(w.alloc (.cells #[.int .i64 p.depth,.bool p.passed,.slice none 0 0] 128)).heap.size=w.heap.size+1:=by simp
 have hne:aM T dp n p s≠.out:=λh=>ho (by rw[gl,h];rfl);have HT:Hid _:=ih.datum p (.slice none 0 0) _ E s HR.out (by rw[hp];exact⟨⟨rfl,.inl ⟨rfl,rfl⟩⟩,⟨_,_,_,rfl⟩,λn hn=>by cases hn⟩) hd hne;have HO:Hid _:=ho;have Kq:Hid _:=gl;have Ko:R<w.heap.size:=hr.lt;have lB:M<w.heap.size:=hr.mlt;clear hr hb0 ih ho hne gl;generalize hw0:w.alloc (.cells #[.int .i64 p.depth,.bool p.passed,.slice none 0 0] 128)=w0 at *;have NZ:Hid _:=hw0;clear hw0;cases hT:aM T dp n p s with
 |out=>exact absurd (by rw[Kq.out,hT];rfl) HO.out
 |fail er a=>
  rw[hT]at HT;have HE:Hid (r=.fail er a):=by show _=_;rw[Kq.out,hT];rfl
  unfold gX aH at HT ⊢;go_enter func195,ntmps195;go_wp2_with fail;rw[NZ.out];refine Calls.mono HT.out ?_;rintro e w1 ⟨⟨b,rfl,hf⟩,hk⟩;have HF:Hid _:=hf;have zu:Hid _:=jP.plain hk;clear hf hk HT;unfold aH;go_wp2_with fail;go_ret2;rw[HE.out];exact⟨⟨b,rfl,HF.out⟩,(Kp.trans HK.out zu.out).a none⟩
 |ok d s2=>
  rw[hT]at HT;have HE:Hid (r=.ok (aW [.sym [113,117,111,116,101],d] .nil s2.fresh).1 { s2 with fresh:=(aW [.sym [113,117,111,116,101],d] .nil s2.fresh).2 }):=by show _=_;rw[Kq.out,hT];rfl
  unfold gX aH at HT ⊢;go_enter func195,ntmps195;go_wp2_with fail;rw[NZ.out];refine Calls.mono HT.out ?_;rintro e w1 ⟨vr,E2,rfl,⟨ty,yy,rfl⟩,cH,hx2,hr2,hk2⟩;replace hk2:=jP.plain hk2;have hs1:=hk2.size;have HD:Hid _:=cH;have HX:Hid (Ext w w1 E E2 s s2):=Ext.wid hx2 (by omega) (zaa _);have Ff:Hid _:=hr2;have pg:Hid _:=Kp.trans HK.out hk2;clear cH hx2 hr2 hk2 HT;have hb3:Below w1.heap.size w1 (w1.alloc (.cells #[.iface 168 (.agg #[.string ⟨#[113,117,111,116,101]⟩]),.iface ty yy] 58)):=(Below.refl _ w1).alloc (zaa _) _;have hs3:(w1.alloc (.cells #[.iface 168 (.agg #[.string ⟨#[113,117,111,116,101]⟩]),.iface ty yy] 58)).heap.size=w1.heap.size+1:=by simp
  have HC:Hid _:=sX [.iface 168 (.agg #[.string ⟨#[113,117,111,116,101]⟩]),.iface ty yy] (.slice (some ⟨w1.heap.size,0,none⟩) 2 2) w1.heap.size (.iface 272 (.agg #[])) (w1.alloc (.cells #[.iface 168 (.agg #[.string ⟨#[113,117,111,116,101]⟩]),.iface ty yy] 58)) (YP w1 _ _) (by simp) (λx hx=>by simp at hx;rcases hx with rfl|rfl<;>exact⟨_,_,rfl⟩) ⟨_,_,rfl⟩;have iz:Hid _:=hb3;clear hb3;go_wp2_with fail;refine Calls.mono HC.out ?_;rintro e w5 ⟨v,rfl,hc,hs5,lC⟩;obtain⟨tv,yv,rfl⟩:=hc.iface ⟨_,_,rfl⟩;have HG:Hid _:=sY (T:=T) (dp:=dp) (g:=g) (cap:=cap) (w:=w) (lo:=w0.heap.size) (ds:=[.sym [113,117,111,116,101],d]) (rest:= .nil) (s1:=s2) (E1:=E2) (by omega) (by omega)
   (λj d' x h1 h2=>by
     match j,h1,h2 with
     |0,h1,h2=>simp at h1 h2;subst h1 h2;unfold cz;rfl
     |1,h1,h2=>
      simp at h1 h2;subst h1 h2;exact cz.keep (zaa _) (zaa _) (λ_ h=>h) (λb _ h=>iz.out.block b h) ⟨λ_ _=>rfl,λ_ _=>rfl⟩ _ _ HD.out
     |j+2,h1,_=>simp at h1) (by unfold cz;rfl) rfl ⟨_,_,rfl⟩ hc hs5 lC (bZ.below Ff.out iz.out) (Ext.wid (w:=w) HX.out (zaa _) (by omega)) (Kp.trans pg.out (Kp.aJ iz.out))
  clear hc lC;go_wp2_with fail;go_ret2;rw[HE.out];exact HG.out
end
section
variable {R M g cap:Nat}{T:List Tok}{dp:Nat}
theorem j0.from {A:Option Nat}{w w2 w':World}{E:Env}{s:eX}{r:RR Dt}{e:Ending}(h:j0 R M g cap T dp A w2 E s r e w')(hk:Kp R M w w2):j0 R M g cap T dp A w E s r e w':=by
 cases r with
 |out=>trivial
 |fail er a=>exact⟨h.1,(hk.a A).trans h.2⟩
 |ok d s'=>
  obtain⟨v,E',h1,h2,h3,h4,h5,h6⟩:=h;exact⟨v,E',h1,h2,cz.keep hk.size (zaa _) (λ_ h=>h) (λ_ _ _=>rfl) ⟨λ_ _=>rfl,λ_ _=>rfl⟩ d v h3,Ext.wid h4 hk.size (zaa _),h5,(hk.a A).trans h6⟩
theorem CS {n:Nat}(ih:∀m,m≤n→IH R M g cap T dp m)(t:Tok)(p:Pl)(a0:Option Addr)(n0 c0:Nat)(w:World)(E:Env)(s:eX)(hr:bZ w R M g cap T dp E s)(hd:p.depth≤dp∧p.ahead.length≤p.depth)(r:RR Dt)
 (gl:r=if p.depth=dp then .fail 6 t.from_
   else if t.kind=5 then(dR T dp n [] ⟨p.depth+1,p.passed,[]⟩ { s with fresh:=s.fresh+1 }).bind λl s'=> .ok (.vec s.fresh (lJ l)) s'
   else if t.kind=4 then(aM T dp n ⟨p.depth+1,p.passed,[]⟩ s).bind λd s=> .ok (aW [.sym [113,117,111,116,101],d] .nil s.fresh).1 { s with fresh:=s.fresh+2 }
   else bD T dp n [] ⟨p.depth+1,p.passed,[]⟩ s)(ho:r≠.out):
 Calls prog 162 #[aH R,bn t,gX p.depth p.passed (.slice a0 n0 c0)] w λe w'=>j0 R M g cap T dp none w E s r e w':=by
 have mixed:prog.follows Departure.mixedOrders=true:=by kernel_rfl
 have Ko:R<w.heap.size:=hr.lt;have yc:=hr.deep;have hb0:Below w.heap.size w ((w.alloc (.cells #[.int .i64 t.kind,.int .i64 t.from_,.int .i64 t.dF,.string ⟨⟨t.text⟩⟩,.int .i64 t.n,.int .i64 t.d,.int .i64 t.fault] 131)).alloc (.cells #[.int .i64 p.depth,.bool p.passed,.slice a0 n0 c0] 128)):=((Below.refl _ w).alloc (zaa _) _).alloc (by simp) _;have hs0:((w.alloc (.cells #[.int .i64 t.kind,.int .i64 t.from_,.int .i64 t.dF,.string ⟨⟨t.text⟩⟩,.int .i64 t.n,.int .i64 t.d,.int .i64 t.fault] 131)).alloc (.cells #[.int .i64 p.depth,.bool p.passed,.slice a0 n0 c0] 128)).heap.size=w.heap.size+1+1:=by simp
 have hP:((w.alloc (.cells #[.int .i64 t.kind,.int .i64 t.from_,.int .i64 t.dF,.string ⟨⟨t.text⟩⟩,.int .i64 t.n,.int .i64 t.d,.int .i64 t.fault] 131)).alloc (.cells #[.int .i64 p.depth,.bool p.passed,.slice a0 n0 c0] 128)).heap[w.heap.size+1]?=some (.cells #[.int .i64 p.depth,.bool p.passed,.slice a0 n0 c0] 128):=ed w _ _;have hT:((w.alloc (.cells #[.int .i64 t.kind,.int .i64 t.from_,.int .i64 t.dF,.string ⟨⟨t.text⟩⟩,.int .i64 t.n,.int .i64 t.d,.int .i64 t.fault] 131)).alloc (.cells #[.int .i64 p.depth,.bool p.passed,.slice a0 n0 c0] 128)).heap[w.heap.size]?=some (.cells #[.int .i64 t.kind,.int .i64 t.from_,.int .i64 t.dF,.string ⟨⟨t.text⟩⟩,.int .i64 t.n,.int .i64 t.d,.int .i64 t.fault] 131):=(Lib.alloc_old _ _ _ (by simp)).trans (heap_alloc_new w _);have tP:=hr.below hb0;have hc0:((w.alloc (.cells #[.int .i64 t.kind,.int .i64 t.from_,.int .i64 t.dF,.string ⟨⟨t.text⟩⟩,.int .i64 t.n,.int .i64 t.d,.int .i64 t.fault] 131)).alloc (.cells #[.int .i64 p.depth,.bool p.passed,.slice a0 n0 c0] 128)).cell? ⟨R,2,none⟩=some (.int .i64 dp):=(im tP.blk).1.2.2.1;have ua:Hid (Kp R M w ((w.alloc (.cells #[.int .i64 t.kind,.int .i64 t.from_,.int .i64 t.dF,.string ⟨⟨t.text⟩⟩,.int .i64 t.n,.int .i64 t.d,.int .i64 t.fault] 131)).alloc (.cells #[.int .i64 p.depth,.bool p.passed,.slice a0 n0 c0] 128))):=Kp.aJ hb0;have qD:Hid _:=tP;have HI:Hid _:=ih;have HO:Hid _:=ho;have Kq:Hid _:=gl;have HT:Hid _:=hT;by_cases hdd:p.depth=dp
 ·have HE:Hid (r=.fail 6 t.from_):=by show _=_;rw[gl,if_pos hdd]
  have HC:Hid _:=tX R dp t p.depth p.passed a0 n0 c0 _ hc0 (by omega) hdd;clear hr tP hb0 ih ho gl hdd hc0 hP hT;unfold gX aH bn at HC ⊢;go_enter func162,ntmps162;go_wp2_with fail;refine Calls.mono HC.out ?_;rintro e w1 ⟨b,rfl,hf,hb1⟩;have HF:Hid _:=hf;have zu:Hid _:=Kp.trans ua.out (Kp.aJ hb1);clear hf hb1 HC;go_wp2_with fail;go_ret2;rw[HE.out];exact⟨⟨b,rfl,dL.alloc HF.out _⟩,(Kp.trans zu.out (Kp.aJ ((Below.refl _ _).alloc (zaa _) _))).a none⟩
 ·have HC:Hid _:=zn R dp t p.depth p.passed a0 n0 c0 _ hc0 (by omega) (by omega) hdd;have HE:Hid _:=gl.trans (if_neg hdd);have Fi:p.depth+1≤dp:=by omega
  clear hr tP hb0 ih ho gl hdd hc0 hP hT;unfold gX aH bn at HC ⊢;go_enter func162,ntmps162;go_wp2_with fail;refine Calls.mono HC.out ?_;rintro e w1 ⟨rfl,hb1⟩;have hs1:=hb1.size;have qy:=(hb1.block w.heap.size (by omega)).trans HT.out;obtain⟨⟨o0,o1,o2,o3,o4,o5,o6⟩,-⟩:=dz (Below.refl _ _) qy;have n1:¬w.heap.size=w1.heap.size:=by omega
  have n2:w.heap.size<w1.heap.size:=by omega
  have hb2:Below w1.heap.size w1 (w1.alloc (.cells #[.int .i64 (p.depth+1),.bool p.passed,.slice none 0 0] 128)):=(Below.refl _ _).alloc (zaa _) _;have Ff:Hid _:=(bZ.below qD.out hb1).below hb2;have pg:Hid _:=(Kp.trans ua.out (Kp.aJ hb1)).trans (Kp.aJ hb2);clear hb1 hb2 HC qy;by_cases k5:t.kind=5
  ·have q5:(((t.kind:Nat):Int)==5)=true:=by rw[k5];rfl
   have jK:Hid _:=HE.out.trans (if_pos k5);clear k5;cases n with
   |zero=>exact absurd (by rw[jK.out];unfold dR;rfl) HO.out
   |succ n=>
    have HC:Hid _:=yu (N:=n) (λm hm=>HI.out m (by omega)) ⟨p.depth+1,p.passed,[]⟩ rfl _ E s Ff.out ⟨Fi,zaj _⟩ r jK.out HO.out;unfold gX aH at HC;go_wp2_with fail;refine Calls.mono HC.out ?_;intro e w3 cC;have mj:=j0.from cC pg.out;clear cC;cases r with
    |out=>exact absurd rfl HO.out
    |fail er a=>
     obtain⟨⟨b,rfl,hf⟩,hk2⟩:=mj;have HG:Hid (j0 R M g cap T dp none w E s (RR.fail er a) (.returned (.tuple #[.nilIface,aH b])) w3):=⟨⟨b,rfl,hf⟩,hk2⟩;clear hf hk2;unfold aH;go_wp2_with fail;go_ret2;exact HG.out
    |ok d s2=>
     obtain⟨v,E2,rfl,⟨ty,y,rfl⟩,cH,hx2,hr2,hk2⟩:=mj;have HG:Hid (j0 R M g cap T dp none w E s (RR.ok d s2) (.returned (.tuple #[.iface ty y,.pointer none])) w3):=⟨.iface ty y,E2,rfl,⟨ty,y,rfl⟩,cH,hx2,hr2,hk2⟩;clear cH hx2 hr2 hk2;go_wp2_with fail;go_ret2;exact HG.out
  have q5:(((t.kind:Nat):Int)==5)=false:=by rw[beq_eq_false_iff_ne];omega
  by_cases k4:t.kind=4
  ·have q4:(((t.kind:Nat):Int)==4)=true:=by rw[k4];rfl
   have jK:Hid _:=(HE.out.trans (if_neg k5)).trans (if_pos k4);clear k5 k4
   ·have HC:Hid _:=Fh (HI.out n (by omega)) ⟨p.depth+1,p.passed,[]⟩ rfl _ E s Ff.out ⟨Fi,zaj _⟩ r jK.out HO.out;unfold gX aH at HC;go_wp2_with fail;refine Calls.mono HC.out ?_;intro e w3 cC;have mj:=j0.from cC pg.out;clear cC;cases r with
    |out=>exact absurd rfl HO.out
    |fail er a=>
     obtain⟨⟨b,rfl,hf⟩,hk2⟩:=mj;have HG:Hid (j0 R M g cap T dp none w E s (RR.fail er a) (.returned (.tuple #[.nilIface,aH b])) w3):=⟨⟨b,rfl,hf⟩,hk2⟩;clear hf hk2;unfold aH;go_wp2_with fail;go_ret2;exact HG.out
    |ok d s2=>
     obtain⟨v,E2,rfl,⟨ty,y,rfl⟩,cH,hx2,hr2,hk2⟩:=mj;have HG:Hid (j0 R M g cap T dp none w E s (RR.ok d s2) (.returned (.tuple #[.iface ty y,.pointer none])) w3):=⟨.iface ty y,E2,rfl,⟨ty,y,rfl⟩,cH,hx2,hr2,hk2⟩;clear cH hx2 hr2 hk2;go_wp2_with fail;go_ret2;exact HG.out
  ·have q4:(((t.kind:Nat):Int)==4)=false:=by rw[beq_eq_false_iff_ne];omega
   have jK:Hid _:=(HE.out.trans (if_neg k5)).trans (if_neg k4);clear k5 k4;cases n with
   |zero=>exact absurd (by rw[jK.out];unfold bD;rfl) HO.out
   |succ n=>
    have HC:Hid _:=Jr (N:=n) (λm hm=>HI.out m (by omega)) ⟨p.depth+1,p.passed,[]⟩ rfl _ E s Ff.out ⟨Fi,zaj _⟩ (by rw[←jK.out];exact HO.out);rw[←jK.out]at HC;unfold gX aH at HC;go_wp2_with fail;refine Calls.mono HC.out ?_;intro e w3 cC;have mj:=j0.from cC pg.out;clear cC;cases r with
    |out=>exact absurd rfl HO.out
    |fail er a=>
     obtain⟨⟨b,rfl,hf⟩,hk2⟩:=mj;have HG:Hid (j0 R M g cap T dp none w E s (RR.fail er a) (.returned (.tuple #[.nilIface,aH b])) w3):=⟨⟨b,rfl,hf⟩,hk2⟩;clear hf hk2;unfold aH;go_wp2_with fail;go_ret2;exact HG.out
    |ok d s2=>
     obtain⟨v,E2,rfl,⟨ty,y,rfl⟩,cH,hx2,hr2,hk2⟩:=mj;have HG:Hid (j0 R M g cap T dp none w E s (RR.ok d s2) (.returned (.tuple #[.iface ty y,.pointer none])) w3):=⟨.iface ty y,E2,rfl,⟨ty,y,rfl⟩,cH,hx2,hr2,hk2⟩;clear cH hx2 hr2 hk2;go_wp2_with fail;go_ret2;exact HG.out
end
end Go.Proofs.YtlhimdjkkiflhaaGreatDoor
