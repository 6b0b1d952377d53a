import Derived.Test.YtlhimdjkkiflhaaGreatReads18
set_option maxHeartbeats 8000000
set_option maxRecDepth 100000
open Go renaming Value→Γ,World→Δ,Calls→Λ
open Go.Departure renaming mixedOrders→Θ
namespace Go.Proofs.YtlhimdjkkiflhaaGreat
open Go.Proofs.Tryz
open Go.RowKit Go.Loop
theorem aw {w:Δ}{lo:Nat}{e:TypeId}{z:Nat}{v:Γ}{n:Nat}{xs:List Γ}(h:w.ownsRow lo e z v n xs):∃a c,v=.slice a n c:=by
 rcases h.2 with⟨rfl,rfl⟩|⟨g,cap,cur,rfl,_⟩
 ·exact⟨_,_,rfl⟩
 ·exact⟨_,_,rfl⟩
theorem Dw {R M g cap:Nat}{T:List Tok}{dp:Nat}{E:Env}{s:eA}{w w5 w6:Δ}{row:Option Nat}{A:Obj}(hr:bH w5 R M g cap T dp E s)(hk:Kp R M w w5)(hg:(w5.alloc A).grownBy w6 row)(hrow:∀k,row=some k→w.heap.size≤k)(JK:∀(b:Nat) (v:Γ),w5.heap[b]?=some (.cells #[v] 157)→some b≠row)(h1:R<w.heap.size)(h2:M<w.heap.size)(h3:g<w.heap.size):bH w6 R M g cap T dp E s∧Kp R M w w6∧(∀b,b<w5.heap.size→some b≠row→w6.heap[b]?=w5.heap[b]?)∧w5.heap.size+1≤w6.heap.size:=by
 have hs:(w5.alloc A).heap.size=w5.heap.size+1:=by simp
 have hb:∀b,b<w5.heap.size→some b≠row→w6.heap[b]?=w5.heap[b]?:=λb h h'=>(hg.block b (by omega) h').trans (zaK _ _ _ h);have hz:=hg.size;have eQ:∀b,b<w.heap.size→some b≠row:=λb h e=>by have:=hrow b e.symm;omega
 have h5:=hk.size;refine⟨?_,⟨hg.os.trans hk.os,hg.tape.trans hk.tape,hg.output.trans hk.output,by omega,λb b1 b2 b3=>(hb b (by omega) (eQ b b1)).trans (hk.block b b1 b2 b3)⟩,hb,by omega⟩;exact bH.step hr (k:=s.k) ((hb R (by omega) (eQ R h1)).trans hr.blk) (by omega) (λb b1 b2=>hb b b1 (b2.elim (λe=>by rw[e];exact eQ g h3) (λe=>by rw[e];exact eQ M h2))) λb v hv=>hb b (zag.1 hv).1 (JK b v hv)
theorem Hq {w:Δ}{lo:Nat}{v:Γ}{n:Nat}{xs:List Γ}(h:w.ownsRow lo 31 1 v n xs):∀(b:Nat) (x:Γ),w.heap[b]?=some (.cells #[x] 157)→some b≠v.ownBlock:=by
 intro b x hb e;rcases h.2 with⟨rfl,_⟩|⟨g,cap,cur,rfl,_,hg,_⟩
 ·cases e
 ·have:b=g:=by cases e;rfl
  rw[this,hg]at hb;simp at hb
section
variable {R M g cap:Nat}{T:List Tok}{dp:Nat}
theorem JL {N:Nat}(ih:∀n,n≤N→IH R M g cap T dp n)(p:Pl)(hp:p.ahead=[])(w:Δ)(E:Env)(s:eA)(hr:bH w R M g cap T dp E s)(hd:p.depth≤dp∧p.ahead.length≤p.depth)(ho:cg T dp (N+1) [] p s≠.out):Λ prog 95 #[ai R,gf p.depth p.passed (.slice none 0 0)] w λe w'=>jM R M g cap T dp none w E s (cg T dp (N+1) [] p s) e w':=by
 have mixed:prog.follows Θ=true:=by kernel_rfl
 have KI:R<w.heap.size:=hr.lt;have lG:M<w.heap.size:=hr.mlt;have hrg:g<w.heap.size:=(hr.row.lt g rfl).2;have hb0:Below w.heap.size w (w.alloc (gL p.depth p.passed none 0 0)):=(zad _ w).alloc (zab _) _;have HP:Hid _:=zau w (gL p.depth p.passed none 0 0);have HR:Hid _:=hr.below hb0;have HB:Hid _:=hb0;have HI:Hid _:=ih;have HO:Hid _:=ho;have hsm:=hr.small;have HA:Hid (∀(w':Δ) (E':Env) (s':eA),iR w' E' s' p.ahead (.slice none 0 0)):=λw' E' s'=>by rw[hp];exact⟨⟨rfl,.inl ⟨rfl,rfl⟩⟩,⟨_,_,_,rfl⟩,λn hn=>by cases hn⟩
 clear hr hb0 ih ho;unfold gf ai;go_enter func95,ntmps95;go_wp2_with fail;go_loopw [6] (λsv wr=>∃(m:Nat) (E1:Env) (s1:eA) (ds:List Dt) (vs:List Γ),m≤N+1∧w.heap.size+1≤wr.heap.size∧ds.length=vs.length∧vs.length≤s1.k∧Hid (cg T dp (N+1) [] p s=cg T dp m ds p s1)∧Hid (bH wr R M g cap T dp E1 s1)∧Hid (Ext w wr E E1 s s1)∧Hid (Kp R M w wr)∧Hid (wr.heap[w.heap.size]?=some (gL p.depth p.passed none 0 0))∧Hid (wr.ownsRow (w.heap.size+1) 31 1 sv vs.length vs)∧Hid (∀(j:Nat) d x,ds[j]?=some d→vs[j]?=some x→Held wr (w.heap.size+1) s1.fresh s1.ax E1 sv.ownBlock d x)) (λ_ wr=>T.length+1-(intOf ((wr.cell? ⟨R,1,none⟩).getD undef)).toNat)
 case atStart=>exact⟨N+1,E,s,[],[],zab _,by simp,rfl,zap _,rfl,HR.out,Ext.refl rfl rfl,Kp.aF HB.out,HP.out,zcm _ _ _ _,λj d x h=>by simp at h⟩
 case round=>
  obtain⟨m,E1,s1,ds,vs,hm,hsz,hl,hlen,HE,sH,HX,HK,yI,HW,HH⟩:=hrel;have Fu:cg T dp m ds p s1≠.out:=by rw[←HE.out];exact HO.out
  obtain⟨m',rfl⟩:∃m',m=m'+1:=by
   cases m with
   |zero=>exact absurd (by unfold cg;rfl) Fu
   |succ m'=>exact⟨m',rfl⟩
  have Qc:Hid (cg T dp (N+1) [] p s=(aM T dp m' p s1).bind λt s=>
   if t.kind=3 then .ok (aU ds .nil s.fresh).1 { s with fresh:=(aU ds .nil s.fresh).2 }
   else if t.kind=7∧ds≠[]then
    (aI T dp m' p s).bind λrest s=>(aM T dp m' p s).bind λt s=>
      if t.kind=3 then .ok (aU ds rest s.fresh).1 { s with fresh:=(aU ds rest s.fresh).2 } else .fail 3 t.from_
   else(bQ T dp m' t p s).bind λd s=>cg T dp m' (ds++[d]) p s):=by
    show _=_;rw[HE.out]
    conv=>lhs;unfold cg
  clear Fu HE;obtain⟨a1,c1,rfl⟩:=aw HW.out;obtain⟨p0,p1,p2⟩:=fh yI.out;have hne:aM T dp m' p s1≠.out:=λh=>HO.out (by rw[Qc.out,h];rfl);have HT:Hid _:=(HI.out m' (by omega)).take p (.slice none 0 0) _ E1 s1 sH.out (HA.out _ _ _) hd hne;have R6:∀x∈vs,∃t y,x=.iface t y:=λx hx=>by
   obtain⟨j,hj,rfl⟩:=List.getElem_of_mem hx;exact(HH.out j (ds[j]'(by omega)) vs[j] (zaP (by omega)) (zaP hj)).1
  have HIF:Hid _:=R6;clear hne R6;cases hT:aM T dp m' p s1 with
  |out=>exact absurd (by rw[Qc.out,hT];rfl) HO.out
  |fail er a=>
   rw[hT]at HT;have jG:Hid (cg T dp (N+1) [] p s=.fail er a):=by show _=_;rw[Qc.out,hT];rfl
   unfold gf ai at HT;go_wp2_with fail;refine zae HT.out ?_;rintro e w2 ⟨⟨b,t,rfl,hf⟩,hk⟩;have HF:Hid _:=hf;have uS:Hid _:=hk;clear hf hk HT;unfold bC ai;go_wp2_with fail;go_ret2;rw[jG.out];exact⟨⟨b,rfl,dK.alloc HF.out _⟩,(Kp.trans (Kp.trans HK.out uS.out) (Kp.aF ((zad _ _).alloc (zab _) _))).a none⟩
  |ok t s3=>
   have Ys:Hid (t∈T):=rJ _ _ _ _ _ hT;have htl:=Hp hT;rw[hT]at HT;have jG:Hid (cg T dp (N+1) [] p s=if t.kind=3 then .ok (aU ds .nil s3.fresh).1 { s3 with fresh:=(aU ds .nil s3.fresh).2 }
   else if t.kind=7∧ds≠[]then
    (aI T dp m' p s3).bind λrest s=>(aM T dp m' p s).bind λt s=>
      if t.kind=3 then .ok (aU ds rest s.fresh).1 { s with fresh:=(aU ds rest s.fresh).2 } else .fail 3 t.from_
   else(bQ T dp m' t p s3).bind λd s=>cg T dp m' (ds++[d]) p s):=by show _=_;rw[Qc.out,hT];rfl
   unfold gf ai at HT;go_wp2_with fail;refine zae HT.out ?_;rintro e w2 ⟨E3,rfl,hx3,hr3,hk3⟩;have hs3:=hk3.size;have hb4:Below w2.heap.size w2 (w2.alloc (ic t)):=(zad _ w2).alloc (zab _) _;have KD:(w2.alloc (ic t)).heap.size=w2.heap.size+1:=by simp
   have hk4:=Kp.trans hk3 (Kp.aF hb4);have pV:Hid _:=hr3.below hb4;have JJ:Hid _:=Kp.trans HK.out hk4;have VD:Hid _:=Ext.wid (w:=w) (w3:=(w2.alloc (ic t))) (Ext.trans HX.out hx3 (Kp.size HK.out) hs3) (zab _) (by omega);have KJ:Hid _:=aT HW.out (zab _) (Kp.ge hk4 (by omega) (by omega));have VE:Hid (∀(j:Nat) d x,ds[j]?=some d→vs[j]?=some x→Held (w2.alloc (ic t)) (w.heap.size+1) s3.fresh s3.ax E3 (Γ.slice a1 vs.length c1).ownBlock d x):=λj d x h1 h2=>
    Held.keep (HH.out j d x h1 h2) (by omega) hx3.fresh hx3.ax hx3.agree (λb b1 b2 _=>Kp.ge hk4 (lo:=w.heap.size+1) (by omega) (by omega) b b1 b2) (.inl rfl)
   have Yv:Hid _:=(hk4.block w.heap.size (by omega) (by omega) (by omega)).trans yI.out;obtain⟨y0,y1,y2⟩:=fh Yv.out;obtain⟨⟨o0,o1,o2,o3,o4,o5,o6⟩,-⟩:=cZ (zad _ _) (zau w2 (ic t));clear hx3 hr3 hk3 hk4 hb4 HT p0 p1 p2;unfold bC;by_cases k3:t.kind=3
   ·have q3:(((t.kind:Nat):Int)==3)=true:=by rw[k3];rfl
    rw[zac k3]at jG;clear k3;have HC:Hid _:=tJ vs (.slice a1 vs.length c1) (w.heap.size+1) (.iface 188 (.agg #[])) _ KJ.out (by omega) HIF.out ⟨_,_,rfl⟩;go_wp2_with fail;refine zae HC.out ?_;rintro e w5 ⟨v,rfl,hc,hs5,qA⟩;obtain⟨tv,yv,rfl⟩:=hc.iface ⟨_,_,rfl⟩;have HG:Hid _:=tK (T:=T) (dp:=dp) (g:=g) (cap:=cap) (w:=w) (lo:=w.heap.size+1) (ds:=ds) (rest:= .nil) (s1:=s3) (E1:=E3) (by omega) (by omega)
     (λj d x h1 h2=>(VE.out j d x h1 h2).mj) (by unfold bX;rfl) hl ⟨_,_,rfl⟩ hc hs5 qA pV.out VD.out JJ.out
    clear hc qA;go_wp2_with fail;go_ret2;rw[jG.out];exact HG.out
   have q3:(((t.kind:Nat):Int)==3)=false:=by rw[zao];omega
   rw[zaa k3]at jG;clear k3;by_cases k7:t.kind=7∧ds≠[]
   ·have q7:(((t.kind:Nat):Int)==7)=true:=by rw[k7.1];rfl
    have jT:0<vs.length:=by have:=zbS.2 k7.2;omega
    have q8:decide ((0:Int)<(vs.length:Int))=true:=by simp;omega
    rw[zac k7]at jG;clear k7;have HC:Hid _:=Dv (HI.out m' (by omega)) p hp hd w _ E E3 s s3 pV.out VD.out JJ.out (w.heap.size+1) (by omega) (by omega) (by omega) (by omega) ds vs hl (by omega) a1 vs.length c1 KJ.out VE.out HIF.out _ jG.out HO.out;unfold gf ai at HC;go_wp2_with fail;refine zae HC.out ?_;intro e w5 bM;cases hF:cg T dp (N+1) [] p s with
    |out=>exact absurd hF HO.out
    |fail er a=>
     rw[hF]at bM;obtain⟨⟨b,rfl,hf⟩,hk2⟩:=bM;have HG:Hid (jM R M g cap T dp none w E s (RR.fail er a) (.returned (.tuple #[.nilIface,ai b])) w5):=⟨⟨b,rfl,hf⟩,hk2⟩;clear hf hk2;unfold ai;go_wp2_with fail;go_ret2;rw[hF];exact HG.out
    |ok d s2=>
     rw[hF]at bM;obtain⟨v,E2,rfl,⟨ty,y,rfl⟩,cy,hx2,hr2,hk2⟩:=bM;have HG:Hid (jM R M g cap T dp none w E s (RR.ok d s2) (.returned (.tuple #[.iface ty y,.pointer none])) w5):=⟨.iface ty y,E2,rfl,⟨ty,y,rfl⟩,cy,hx2,hr2,hk2⟩;clear cy hx2 hr2 hk2;go_wp2_with fail;go_ret2;rw[hF];exact HG.out
   ·rw[zaa k7]at jG;have hq:(((t.kind:Nat):Int)==7)=false∨((((t.kind:Nat):Int)==7)=true∧¬0<vs.length∧¬((0:Int)<(vs.length:Int))):=by
     by_cases h7:t.kind=7
     ·refine .inr ⟨by rw[h7];rfl,?_⟩;have:ds=[]:=by
       cases ds with
       |nil=>rfl
       |cons x l=>exact absurd ⟨h7,by simp⟩ k7
      have h0:vs.length=0:=by rw[←hl,this];rfl
      exact⟨by omega,by omega⟩
     ·exact .inl (by rw[zao];omega)
    clear k7;have hne:bQ T dp m' t p s3≠.out:=λh=>HO.out (by rw[jG.out,h];rfl);have HC:Hid _:=(HI.out m' (by omega)).yH t p (.slice none 0 0) _ E3 s3 Ys.out pV.out (HA.out _ _ _) hd hne;clear hne;unfold bC gf ai at HC;obtain⟨i0,hi,hz0,hz1,hz2⟩:=info_parts zQ;rcases hq with q7|⟨q7,q9,q10⟩
    all_goals
     go_wp2_with fail;refine zae HC.out ?_;intro e w5 bM;cases hF:bQ T dp m' t p s3 with
     |out=>exact absurd (by rw[jG.out,hF];rfl) HO.out
     |fail er a=>
      rw[hF]at bM;have TP:Hid (cg T dp (N+1) [] p s=.fail er a):=by show _=_;rw[jG.out,hF];rfl
      obtain⟨⟨b,rfl,hf⟩,hk2⟩:=bM;have HG:Hid (jM R M g cap T dp none w E s (RR.fail er a) (.returned (.tuple #[.nilIface,ai b])) w5):=⟨⟨b,rfl,hf⟩,(Kp.trans JJ.out (jL.plain hk2)).a none⟩;clear hf hk2;unfold ai;go_wp2_with fail;go_ret2;rw[TP.out];exact HG.out
     |ok d s5=>
      rw[hF]at bM;have TP:Hid (cg T dp (N+1) [] p s=cg T dp m' (ds++[d]) p s5):=by show _=_;rw[jG.out,hF];rfl
      have Vu:=(grows T dp m').yH _ _ _ _ _ hF;obtain⟨v,E5,rfl,⟨ty,y,rfl⟩,cy,JM,Ou,zS⟩:=bM;replace zS:=jL.plain zS;have hs5:=zS.size;have R9:Hid _:=Kp.trans JJ.out zS;have HX5:Hid _:=Ext.trans VD.out JM (Kp.size JJ.out) hs5;have HP5:Hid _:=(zS.block w.heap.size (by omega) (by omega) (by omega)).trans Yv.out;have B6:Hid _:=aT KJ.out (zab _) (Kp.ge zS (by omega) (by omega));have JN:Hid _:=Ou;have HD5:Hid _:=cy;have HH5:Hid (∀(j:Nat) d x,ds[j]?=some d→vs[j]?=some x→Held w5 (w.heap.size+1) s5.fresh s5.ax E5 (Γ.slice a1 vs.length c1).ownBlock d x):=λj d x h1 h2=>
       Held.keep (VE.out j d x h1 h2) (by omega) JM.fresh JM.ax JM.agree (λb b1 b2 _=>Kp.ge zS (lo:=w.heap.size+1) (by omega) (by omega) b b1 b2) (.inl rfl)
      clear cy JM Ou zS hF y0 y1 y2 o0 o1 o2 o3 o4 o5 o6;have zT:∀k,(Γ.slice a1 vs.length c1).ownBlock=some k→w.heap.size+1≤k∧k<w5.heap.size:=zcc B6.out;go_wp2_with (at_builtin;refine cj rfl _ _ 126 rfl (w.heap.size+1) 31 i0 .nilIface 16 underlying126 hi hz0 hz1 hz2 (by decide) rfl _ vs.length vs rfl (zbL B6.out _) ⟨w5.heap.size,0,none⟩ 1 1 [.iface ty y] rfl (by decide) rfl ?c1 ?c2 ?c3 ?c4 ?_)
      case c1=>
       intro j u hj
       match j,hj with
       |0,hj=>simp at hj;subst hj;simp[Addr.add]
      case c2=>intro u hu;simp at hu;subst hu;rfl
      case c3=>omega
      case c4=>simp;omega
      intro v' w6 hown' hgrow cG;obtain⟨yu,KL,uq,hs6⟩:=Dw JN.out R9.out hgrow (λk hk=>by have:=zT k hk;omega) (Hq B6.out) KI lG hrg;have TQ:Hid _:=yu;have HK6:Hid _:=KL;have HW6:Hid (w6.ownsRow (w.heap.size+1) 31 1 v' (vs++[Γ.iface ty y]).length (vs++[Γ.iface ty y])):=by show Δ.ownsRow _ _ _ _ _ _ _;rw[zaT];exact hown'
      have HP6:Hid _:=(uq w.heap.size (by omega) (λe=>by have:=zT _ e.symm;omega)).trans HP5.out;have Yw:v'.ownBlock=(Γ.slice a1 vs.length c1).ownBlock∨∃b,v'.ownBlock=some b∧w5.heap.size≤b:=cG.imp id λ⟨k,k1,k2⟩=>⟨k,k1,zaj (by simp) k2⟩;have HH6:Hid (∀(j:Nat) d' x,(ds++[d])[j]?=some d'→(vs++[Γ.iface ty y])[j]?=some x→Held w6 (w.heap.size+1) s5.fresh s5.ax E5 v'.ownBlock d' x):=λj d' x h1 h2=>by
       rcases zar j ds.length with hj|hj
       ·rw[zaS hj]at h1;rw[zaS (by omega)]at h2;exact Held.keep (HH5.out j d' x h1 h2) (by omega) (zab _) (λ_ h=>h) ⟨λ_ _=>rfl,λ_ _=>rfl⟩ (λb _ b2 b3=>uq b b2 b3) Yw
       ·have e0:j=ds.length:=by
         have:=(zaD.1 h1).1;simp at this;omega
        subst e0;rw[zaZ (zab _)]at h1;rw[zaZ (by omega)]at h2;simp at h1;simp[hl]at h2;subst h1 h2;refine⟨⟨_,_,rfl⟩,w5,_,?_,by omega,HD5.out,λb b1 b2=>uq b b2 λe=>?_,λb e=>?_⟩
        ·omega
        ·have:=zcc KJ.out b e.symm;omega
        ·rcases Yw with q|⟨b',q,q'⟩
         ·have:=zcc KJ.out b (q.symm.trans e);omega
         ·rw[q]at e;cases e;exact .inr q'
      have XY:ds.length+1=vs.length+1:=by omega
      clear yu KL hown' hgrow cG;obtain⟨a6,c6,rfl⟩:=aw HW6.out;go_wp2_with fail;refine⟨⟨m',E5,s5,ds++[d],vs++[Γ.iface ty y],by omega,by omega,by simp;omega,by simp;omega,TP,TQ,Ext.wid HX5.out (zab _) (by omega),HK6,HP6,HW6,HH6⟩,?_⟩;rw[(gP TQ.out.blk).1.2.1,(gP sH.out.blk).1.2.1];simp only[zbw,intOf,zbn];omega
end
theorem Hr {lo k:Nat}{L:List Int}{w:Δ}{E:Env}:∀(ds:List Dt) (vs:List Γ),ds.length=vs.length→(∀(j:Nat) d x,ds[j]?=some d→vs[j]?=some x→bX lo k L w E d x)→cT lo k L w E (fG ds) vs
 |[],[],_,_=>by unfold fG cT;rfl
 |d::ds,x::vs,hl,h=>by
  unfold fG cT;exact⟨x,vs,rfl,h 0 d x (by simp) (by simp),Hr ds vs (by simpa using hl) λj d' x' h1 h2=>h (j+1) d' x' (by simpa using h1) (by simpa using h2)⟩
 |[],_::_,hl,_=>by simp at hl
 |_::_,[],hl,_=>by simp at hl
section
variable {R M g cap:Nat}{T:List Tok}{dp:Nat}
def Env.one (E:Env)(i b:Nat):Env:=⟨λj=>if j=i then b else E.α j,E.bT⟩
theorem Ext.one {w w':Δ}{E:Env}{s:eA}{b:Nat}(h1:w.heap.size≤b)(h2:b<w'.heap.size):Ext w w' E (E.one s.fresh b) s { s with fresh:=s.fresh+1 }:=by
 refine⟨⟨λi hi=>zaa (by omega),λ_ _=>rfl⟩,Nat.le_succ _,λ_ h=>h,λi i1 i2=>?_,λi j i1 i2 j1 j2 _=>?_⟩
 ·have:i=s.fresh:=by have:i<s.fresh+1:=i2;omega
  subst this;show w.heap.size≤(if s.fresh=s.fresh then b else _)∧(if s.fresh=s.fresh then b else _)<_;rw[zac rfl];exact⟨h1,h2⟩
 ·have:i<s.fresh+1:=i2;have:j<s.fresh+1:=j2;omega
theorem bH.name {w:Δ}{R M g cap:Nat}{T:List Tok}{dp:Nat}{E E':Env}{s s':eA}(h:bH w R M g cap T dp E s)(h1:E'.bT=E.bT)(h2:s'.k=s.k)(h3:s'.ax=s.ax):bH w R M g cap T dp E' s':=by
 obtain⟨α,bT⟩:=E';obtain⟨k,f,ax⟩:=s';simp only at h1 h2 h3;subst h1 h2 h3;exact⟨h.rm,h.gr,h.gm,h.blk,h.row,h.lm,h.low,h.inj,h.small,h.deep⟩
theorem yJ {N:Nat}(ih:∀n,n≤N→IH R M g cap T dp n)(p:Pl)(hp:p.ahead=[])(w:Δ)(E:Env)(s:eA)(hr:bH w R M g cap T dp E s)(hd:p.depth≤dp∧p.ahead.length≤p.depth)(r:RR Dt)(et:r=(eF T dp (N+1) [] p { s with fresh:=s.fresh+1 }).bind λl s'=> .ok (.vec s.fresh (fG l)) s')(ho:r≠.out):Λ prog 93 #[ai R,gf p.depth p.passed (.slice none 0 0)] w λe w'=>jM R M g cap T dp none w E s r e w':=by
 have mixed:prog.follows Θ=true:=by kernel_rfl
 have KI:R<w.heap.size:=hr.lt;have lG:M<w.heap.size:=hr.mlt;have hrg:g<w.heap.size:=(hr.row.lt g rfl).2;have hb0:Below w.heap.size w ((w.alloc (gL p.depth p.passed none 0 0)).alloc (.cells #[.slice none 0 0] 129)):=((zad _ w).alloc (zab _) _).alloc (by simp) _;have HP:Hid (((w.alloc (gL p.depth p.passed none 0 0)).alloc (.cells #[.slice none 0 0] 129)).heap[w.heap.size]?=some (gL p.depth p.passed none 0 0)):=(zaK _ _ _ (by simp)).trans (zau w _);have HV:Hid (((w.alloc (gL p.depth p.passed none 0 0)).alloc (.cells #[.slice none 0 0] 129)).heap[w.heap.size+1]?=some (.cells #[.slice none 0 0] 129)):=dJ w _ _;have HR:Hid (bH ((w.alloc (gL p.depth p.passed none 0 0)).alloc (.cells #[.slice none 0 0] 129)) R M g cap T dp (E.one s.fresh (w.heap.size+1)) { s with fresh:=s.fresh+1 }):=bH.name (hr.below hb0) rfl rfl rfl;have HB:Hid _:=hb0;have HI:Hid _:=ih;have HO:Hid _:=ho;have B5:Hid _:=et;have hsm:=hr.small;have HA:Hid (∀(w':Δ) (E':Env) (s':eA),iR w' E' s' p.ahead (.slice none 0 0)):=λw' E' s'=>by rw[hp];exact⟨⟨rfl,.inl ⟨rfl,rfl⟩⟩,⟨_,_,_,rfl⟩,λn hn=>by cases hn⟩
 clear hr hb0 ih ho et;unfold gf ai;go_enter func93,ntmps93;go_wp2_with fail;go_loopw [] (λwr=>∃(m:Nat) (E1:Env) (s1:eA) (ds:List Dt) (vs:List Γ) (sv:Γ),m≤N+1∧w.heap.size+2≤wr.heap.size∧ds.length=vs.length∧vs.length≤s1.k∧s.fresh<s1.fresh∧E1.α s.fresh=w.heap.size+1∧Hid (r=(eF T dp m ds p s1).bind λl s'=> .ok (.vec s.fresh (fG l)) s')∧Hid (bH wr R M g cap T dp E1 s1)∧Hid (Ext w wr E E1 s s1)∧Hid (Kp R M w wr)∧Hid (wr.heap[w.heap.size]?=some (gL p.depth p.passed none 0 0))∧Hid (wr.heap[w.heap.size+1]?=some (.cells #[sv] 129))∧Hid (wr.ownsRow (w.heap.size+2) 31 1 sv vs.length vs)∧Hid (∀(j:Nat) d x,ds[j]?=some d→vs[j]?=some x→Held wr (w.heap.size+2) s1.fresh s1.ax E1 sv.ownBlock d x)) (λwr=>T.length+1-(intOf ((wr.cell? ⟨R,1,none⟩).getD undef)).toNat)
 case atStart=>exact⟨N+1,E.one s.fresh (w.heap.size+1),{ s with fresh:=s.fresh+1 },[],[],.slice none 0 0,zab _,by simp,rfl,zap _,Nat.lt_succ_self _,zac rfl,B5.out,HR.out,Ext.one (by omega) (by simp),Kp.aF HB.out,HP.out,HV.out,zcm _ _ _ _,λj d x h=>by simp at h⟩
 case round=>
  obtain⟨m,E1,s1,ds,vs,sv,hm,hsz,hl,hlen,lf,hE1,HE,sH,HX,HK,yI,HV1,HW,HH⟩:=hrel;have Fu:eF T dp m ds p s1≠.out:=λh=>HO.out (by rw[HE.out,h];rfl);obtain⟨m',rfl⟩:∃m',m=m'+1:=by
   cases m with
   |zero=>exact absurd (by unfold eF;rfl) Fu
   |succ m'=>exact⟨m',rfl⟩
  have Qc:Hid (r=((aM T dp m' p s1).bind λt s=>
   if t.kind=3 then .ok ds s
   else if ds.length=20 then .fail 3 t.from_
   else(bQ T dp m' t p s).bind λd s=>eF T dp m' (ds++[d]) p s).bind λl s'=> .ok (.vec s.fresh (fG l)) s'):=by
    show _=_;rw[HE.out]
    conv=>lhs;unfold eF
  clear Fu HE;obtain⟨a1,c1,rfl⟩:=aw HW.out;obtain⟨p0,p1,p2⟩:=fh yI.out;have hne:aM T dp m' p s1≠.out:=λh=>HO.out (by rw[Qc.out,h];rfl);have HT:Hid _:=(HI.out m' (by omega)).take p (.slice none 0 0) _ E1 s1 sH.out (HA.out _ _ _) hd hne;clear hne;cases hT:aM T dp m' p s1 with
  |out=>exact absurd (by rw[Qc.out,hT];rfl) HO.out
  |fail er a=>
   rw[hT]at HT;have jG:Hid (r=.fail er a):=by show _=_;rw[Qc.out,hT];rfl
   unfold gf ai at HT;go_wp2_with fail;refine zae HT.out ?_;rintro e w2 ⟨⟨b,t,rfl,hf⟩,hk⟩;have HF:Hid _:=hf;have uS:Hid _:=hk;clear hf hk HT;unfold bC ai;go_wp2_with fail;go_ret2;rw[jG.out];exact⟨⟨b,rfl,dK.alloc HF.out _⟩,(Kp.trans (Kp.trans HK.out uS.out) (Kp.aF ((zad _ _).alloc (zab _) _))).a none⟩
  |ok t s3=>
   have Ys:Hid (t∈T):=rJ _ _ _ _ _ hT;have htl:=Hp hT;rw[hT]at HT;have jG:Hid (r=(if t.kind=3 then .ok ds s3
   else if ds.length=20 then .fail 3 t.from_
   else(bQ T dp m' t p s3).bind λd s=>eF T dp m' (ds++[d]) p s:RR (List Dt)).bind λl s'=> .ok (.vec s.fresh (fG l)) s'):=by show _=_;rw[Qc.out,hT];rfl
   unfold gf ai at HT;go_wp2_with fail;refine zae HT.out ?_;rintro e w2 ⟨E3,rfl,hx3,hr3,hk3⟩;have hs3:=hk3.size;have hb4:Below w2.heap.size w2 (w2.alloc (ic t)):=(zad _ w2).alloc (zab _) _;have KD:(w2.alloc (ic t)).heap.size=w2.heap.size+1:=by simp
   have hk4:=Kp.trans hk3 (Kp.aF hb4);have pV:Hid _:=hr3.below hb4;have JJ:Hid _:=Kp.trans HK.out hk4;have VD:Hid _:=Ext.wid (w:=w) (w3:=(w2.alloc (ic t))) (Ext.trans HX.out hx3 (Kp.size HK.out) hs3) (zab _) (by omega);have KJ:Hid _:=aT HW.out (zab _) (Kp.ge hk4 (by omega) (by omega));have VE:Hid (∀(j:Nat) d x,ds[j]?=some d→vs[j]?=some x→Held (w2.alloc (ic t)) (w.heap.size+2) s3.fresh s3.ax E3 (Γ.slice a1 vs.length c1).ownBlock d x):=λj d x h1 h2=>
    Held.keep (HH.out j d x h1 h2) (by omega) hx3.fresh hx3.ax hx3.agree (λb b1 b2 _=>Kp.ge hk4 (lo:=w.heap.size+2) (by omega) (by omega) b b1 b2) (.inl rfl)
   have Yv:Hid _:=(hk4.block w.heap.size (by omega) (by omega) (by omega)).trans yI.out;have HV4:Hid _:=(hk4.block (w.heap.size+1) (by omega) (by omega) (by omega)).trans HV1.out;have hf3:s.fresh<s3.fresh:=zaH lf hx3.fresh;have hE3:E3.α s.fresh=w.heap.size+1:=(hx3.agree.1 _ lf).trans hE1;obtain⟨y0,y1,y2⟩:=fh Yv.out;have z0:(w2.alloc (ic t)).cell? ⟨w.heap.size+1,0,none⟩=some (.slice a1 vs.length c1):=by simp only[Δ.cell?,HV4.out];rfl
   have z1:w2.cell? ⟨w.heap.size+1,0,none⟩=some (.slice a1 vs.length c1):=by simp only[Δ.cell?,(hk3.block (w.heap.size+1) (by omega) (by omega) (by omega)).trans HV1.out];rfl
   obtain⟨⟨o0,o1,o2,o3,o4,o5,o6⟩,-⟩:=cZ (zad _ _) (zau w2 (ic t));have n1:¬w.heap.size+1=w2.heap.size:=by omega
   have n2:w.heap.size+1<w2.heap.size:=by omega
   clear hx3 hr3 hk3 hk4 hb4 HT p0 p1 p2;unfold bC;by_cases k3:t.kind=3
   ·have q3:(((t.kind:Nat):Int)==3)=true:=by rw[k3];rfl
    rw[zac k3]at jG;clear k3;have HG:Hid (jM R M g cap T dp none w E s (.ok (.vec s.fresh (fG ds)) s3) (.returned (.tuple #[.iface 127 (ai (w.heap.size+1)),.pointer none])) (w2.alloc (ic t))):=by
     refine⟨_,E3,rfl,⟨_,_,rfl⟩,?_,VD.out,pV.out,Kp.a JJ.out none⟩;unfold bX;refine⟨hf3,by rw[hE3];omega,by rw[hE3],.slice a1 vs.length c1,vs,by rw[hE3];exact HV4.out,aT KJ.out (by omega) λ_ _ _=>rfl,Hr ds vs hl λj d x h1 h2=>?_⟩;exact bX.keep (by omega) (zab _) (λ_ h=>h) (λ_ _ _=>rfl) ⟨λ_ _=>rfl,λ_ _=>rfl⟩ d x (VE.out j d x h1 h2).mj
    go_wp2_with fail;go_ret2;rw[jG.out];exact HG.out
   have q3:(((t.kind:Nat):Int)==3)=false:=by rw[zao];omega
   rw[zaa k3]at jG;clear k3;by_cases k7:ds.length=20
   ·have q7:(((vs.length:Nat):Int)==20)=true:=by rw[←hl,k7];rfl
    rw[zac k7]at jG;clear k7;go_wp2_with fail;go_region;go_wp2_with fail;go_ret2;rw[jG.out];refine⟨⟨w2.heap.size+1,rfl,?_⟩,(Kp.trans JJ.out (Kp.aF (((zad _ _).alloc (zab _) _).drew))).a none⟩;exact dJ w2 _ _
   ·rw[zaa k7]at jG;have q7:(((vs.length:Nat):Int)==20)=false:=by rw[zao];omega
    clear k7;have hne:bQ T dp m' t p s3≠.out:=λh=>HO.out (by rw[jG.out,h];rfl);have HC:Hid _:=(HI.out m' (by omega)).yH t p (.slice none 0 0) _ E3 s3 Ys.out pV.out (HA.out _ _ _) hd hne;clear hne;unfold bC gf ai at HC;obtain⟨i0,hi,hz0,hz1,hz2⟩:=info_parts zQ;go_wp2_with fail;refine zae HC.out ?_;intro e w5 bM;cases hF:bQ T dp m' t p s3 with
    |out=>exact absurd (by rw[jG.out,hF];rfl) HO.out
    |fail er a=>
     rw[hF]at bM;have TP:Hid (r=.fail er a):=by show _=_;rw[jG.out,hF];rfl
     obtain⟨⟨b,rfl,hf⟩,hk2⟩:=bM;have HG:Hid (jM R M g cap T dp none w E s (RR.fail er a) (.returned (.tuple #[.nilIface,ai b])) w5):=⟨⟨b,rfl,hf⟩,(Kp.trans JJ.out (jL.plain hk2)).a none⟩;clear hf hk2;unfold ai;go_wp2_with fail;go_ret2;rw[TP.out];exact HG.out
    |ok d s5=>
     rw[hF]at bM;have TP:Hid (r=(eF T dp m' (ds++[d]) p s5).bind λl s'=> .ok (.vec s.fresh (fG l)) s'):=by show _=_;rw[jG.out,hF];rfl
     have Vu:=(grows T dp m').yH _ _ _ _ _ hF;obtain⟨v,E5,rfl,⟨ty,y,rfl⟩,cy,JM,Ou,zS⟩:=bM;replace zS:=jL.plain zS;have hs5:=zS.size;have R9:Hid _:=Kp.trans JJ.out zS;have HX5:Hid _:=Ext.trans VD.out JM (Kp.size JJ.out) hs5;have HP5:Hid _:=(zS.block w.heap.size (by omega) (by omega) (by omega)).trans Yv.out;have TS:Hid _:=(zS.block (w.heap.size+1) (by omega) (by omega) (by omega)).trans HV4.out;have B6:Hid _:=aT KJ.out (zab _) (Kp.ge zS (by omega) (by omega));have JN:Hid _:=Ou;have HD5:Hid _:=cy;have hf5:s.fresh<s5.fresh:=zaH hf3 JM.fresh;have hE5:E5.α s.fresh=w.heap.size+1:=(JM.agree.1 _ hf3).trans hE3;have HH5:Hid (∀(j:Nat) d x,ds[j]?=some d→vs[j]?=some x→Held w5 (w.heap.size+2) s5.fresh s5.ax E5 (Γ.slice a1 vs.length c1).ownBlock d x):=λj d x h1 h2=>
      Held.keep (VE.out j d x h1 h2) (by omega) JM.fresh JM.ax JM.agree (λb b1 b2 _=>Kp.ge zS (lo:=w.heap.size+2) (by omega) (by omega) b b1 b2) (.inl rfl)
     have z5:w5.cell? ⟨w.heap.size+1,0,none⟩=some (.slice a1 vs.length c1):=by simp only[Δ.cell?,TS.out];rfl
     have n5:¬w.heap.size+1=w5.heap.size:=by omega
     have n6:w.heap.size+1<w5.heap.size:=by omega
     clear cy JM Ou zS hF y0 y1 y2 o0 o1 o2 o3 o4 o5 o6 z0 z1 n1 n2;have zT:∀k,(Γ.slice a1 vs.length c1).ownBlock=some k→w.heap.size+2≤k∧k<w5.heap.size:=zcc B6.out;go_wp2_with (at_builtin;refine cj rfl _ _ 126 rfl (w.heap.size+2) 31 i0 .nilIface 16 underlying126 hi hz0 hz1 hz2 (by decide) rfl _ vs.length vs rfl (zbL B6.out _) ⟨w5.heap.size,0,none⟩ 1 1 [.iface ty y] rfl (by decide) rfl ?c1 ?c2 ?c3 ?c4 ?_)
     case c1=>
      intro j u hj
      match j,hj with
      |0,hj=>simp at hj;subst hj;simp[Addr.add]
     case c2=>intro u hu;simp at hu;subst hu;rfl
     case c3=>omega
     case c4=>simp;omega
     intro v' w6 hown' hgrow cG;obtain⟨yu,KL,uq,hs6⟩:=Dw JN.out R9.out hgrow (λk hk=>by have:=zT k hk;omega) (Hq B6.out) KI lG hrg;have hv6:=(uq (w.heap.size+1) (by omega) (λe=>by have:=zT _ e.symm;omega)).trans TS.out;obtain⟨g6,z6⟩:w6.cell? ⟨w.heap.size+1,0,none⟩=some (.slice a1 vs.length c1)∧w6.frozen? ⟨w.heap.size+1,0,none⟩=false:=by constructor<;>simp[Δ.cell?,Δ.frozen?,hv6]
     have KM:Hid (∀b,b≠w.heap.size+1→(w6.setCell ⟨w.heap.size+1,0,none⟩ v').heap[b]?=w6.heap[b]?):=λb hb=>zay _ _ _ _ hb;have HV7:Hid ((w6.setCell ⟨w.heap.size+1,0,none⟩ v').heap[w.heap.size+1]?=some (.cells #[v'] 129)):=bk hv6 0 v';have hs7:(w6.setCell ⟨w.heap.size+1,0,none⟩ v').heap.size=w6.heap.size:=by simp
     have Qd:Hid (bH (w6.setCell ⟨w.heap.size+1,0,none⟩ v') R M g cap T dp E5 s5):=bH.step yu (k:=s5.k) ((KM.out R (by omega)).trans yu.blk) (by omega) (λb _ b2=>KM.out b (by omega)) λb x hb=>KM.out b (λe=>by rw[e,hv6]at hb;simp at hb);have HK7:Hid (Kp R M w (w6.setCell ⟨w.heap.size+1,0,none⟩ v')):=Kp.kN KL ((zad _ _).setCell (p:=⟨w.heap.size+1,0,none⟩) (by show w.heap.size≤w.heap.size+1;omega) _);have HW7:Hid ((w6.setCell ⟨w.heap.size+1,0,none⟩ v').ownsRow (w.heap.size+2) 31 1 v' (vs++[Γ.iface ty y]).length (vs++[Γ.iface ty y])):=by
      show Δ.ownsRow _ _ _ _ _ _ _;rw[zaT];exact aT hown' (zab _) λb b1 _=>KM.out b (by omega)
     have HP7:Hid _:=(KM.out w.heap.size (by omega)).trans ((uq w.heap.size (by omega) (λe=>by have:=zT _ e.symm;omega)).trans HP5.out);have Yw:v'.ownBlock=(Γ.slice a1 vs.length c1).ownBlock∨∃b,v'.ownBlock=some b∧w5.heap.size≤b:=cG.imp id λ⟨k,k1,k2⟩=>⟨k,k1,zaj (by simp) k2⟩;have HH7:Hid (∀(j:Nat) d' x,(ds++[d])[j]?=some d'→(vs++[Γ.iface ty y])[j]?=some x→Held (w6.setCell ⟨w.heap.size+1,0,none⟩ v') (w.heap.size+2) s5.fresh s5.ax E5 v'.ownBlock d' x):=λj d' x h1 h2=>by
      rcases zar j ds.length with hj|hj
      ·rw[zaS hj]at h1;rw[zaS (by omega)]at h2;exact Held.keep (HH5.out j d' x h1 h2) (by omega) (zab _) (λ_ h=>h) ⟨λ_ _=>rfl,λ_ _=>rfl⟩ (λb b1 b2 b3=>(KM.out b (by omega)).trans (uq b b2 b3)) Yw
      ·have e0:j=ds.length:=by
        have:=(zaD.1 h1).1;simp at this;omega
       subst e0;rw[zaZ (zab _)]at h1;rw[zaZ (by omega)]at h2;simp at h1;simp[hl]at h2;subst h1 h2;refine⟨⟨_,_,rfl⟩,w5,_,?_,by omega,HD5.out,λb b1 b2=>(KM.out b (by omega)).trans (uq b b2 λe=>?_),λb e=>?_⟩
       ·omega
       ·have:=zcc KJ.out b e.symm;omega
       ·rcases Yw with q|⟨b',q,q'⟩
        ·have:=zcc KJ.out b (q.symm.trans e);omega
        ·rw[q]at e;cases e;exact .inr q'
     obtain⟨a6,c6,rfl⟩:=aw hown';clear yu KL hown' hgrow cG;go_wp2_with fail;refine⟨⟨m',E5,s5,ds++[d],vs++[Γ.iface ty y],_,by omega,by omega,by simp;omega,by simp;omega,hf5,hE5,TP,Qd,Ext.wid HX5.out (zab _) (by omega),HK7,HP7,HV7,HW7,HH7⟩,?_⟩;rw[(gP Qd.out.blk).1.2.1,(gP sH.out.blk).1.2.1];simp only[zbw,intOf,zbn];omega
theorem Yx:Dp R M g cap T dp:=λ_ ih p hp w E s hr hd r et ho=>yJ ih p hp w E s hr hd r et ho
end
theorem Yy (w:Δ)(x y:Γ):(w.alloc (.cells #[x,y] 31)).ownsRow w.heap.size 31 1 (.slice (some ⟨w.heap.size,0,none⟩) 2 2) 2 [x,y]:=
 ⟨rfl,.inr ⟨w.heap.size,2,#[x,y],rfl,zab _,zau w _,zab _,by decide,rfl,rfl⟩⟩
section
variable {R M g cap:Nat}{T:List Tok}{dp:Nat}
theorem F0 {n:Nat}(ih:IH R M g cap T dp n)(p:Pl)(hp:p.ahead=[])(w:Δ)(E:Env)(s:eA)(hr:bH w R M g cap T dp E s)(hd:p.depth≤dp∧p.ahead.length≤p.depth)(r:RR Dt)(et:r=(aI T dp n p s).bind λd s=> .ok (aU [.sym [113,117,111,116,101],d] .nil s.fresh).1 { s with fresh:=s.fresh+2 })(ho:r≠.out):Λ prog 94 #[ai R,gf p.depth p.passed (.slice none 0 0)] w λe w'=>jM R M g cap T dp none w E s r e w':=by
 have mixed:prog.follows Θ=true:=by kernel_rfl
 have hb0:Below w.heap.size w (w.alloc (gL p.depth p.passed none 0 0)):=(zad _ w).alloc (zab _) _;have HR:Hid _:=hr.below hb0;have HK:Hid (Kp R M w (w.alloc (gL p.depth p.passed none 0 0))):=Kp.aF hb0;have MB:(w.alloc (gL p.depth p.passed none 0 0)).heap.size=w.heap.size+1:=by simp
 have hne:aI T dp n p s≠.out:=λh=>ho (by rw[et,h];rfl);have HT:Hid _:=ih.datum p (.slice none 0 0) _ E s HR.out (by rw[hp];exact⟨⟨rfl,.inl ⟨rfl,rfl⟩⟩,⟨_,_,_,rfl⟩,λn hn=>by cases hn⟩) hd hne;have HO:Hid _:=ho;have B5:Hid _:=et;have KI:R<w.heap.size:=hr.lt;have lG:M<w.heap.size:=hr.mlt;clear hr hb0 ih ho hne et;generalize hw0:w.alloc (gL p.depth p.passed none 0 0)=w0 at *;have P5:Hid _:=hw0;clear hw0;cases hT:aI T dp n p s with
 |out=>exact absurd (by rw[B5.out,hT];rfl) HO.out
 |fail er a=>
  rw[hT]at HT;have HE:Hid (r=.fail er a):=by show _=_;rw[B5.out,hT];rfl
  unfold gf ai at HT ⊢;go_enter func94,ntmps94;go_wp2_with fail;rw[P5.out];refine zae HT.out ?_;rintro e w1 ⟨⟨b,rfl,hf⟩,hk⟩;have HF:Hid _:=hf;have Qb:Hid _:=jL.plain hk;clear hf hk HT;unfold ai;go_wp2_with fail;go_ret2;rw[HE.out];exact⟨⟨b,rfl,HF.out⟩,(Kp.trans HK.out Qb.out).a none⟩
 |ok d s2=>
  rw[hT]at HT;have HE:Hid (r=.ok (aU [.sym [113,117,111,116,101],d] .nil s2.fresh).1 { s2 with fresh:=(aU [.sym [113,117,111,116,101],d] .nil s2.fresh).2 }):=by show _=_;rw[B5.out,hT];rfl
  unfold gf ai at HT ⊢;go_enter func94,ntmps94;go_wp2_with fail;rw[P5.out];refine zae HT.out ?_;rintro e w1 ⟨vr,E2,rfl,⟨ty,yy,rfl⟩,cy,hx2,hr2,hk2⟩;replace hk2:=jL.plain hk2;have hs1:=hk2.size;have HD:Hid _:=cy;have HX:Hid (Ext w w1 E E2 s s2):=Ext.wid hx2 (by omega) (zab _);have Du:Hid _:=hr2;have oX:Hid _:=Kp.trans HK.out hk2;clear cy hx2 hr2 hk2 HT;have hb3:Below w1.heap.size w1 (w1.alloc (.cells #[.iface 133 (.agg #[.string ⟨#[113,117,111,116,101]⟩]),.iface ty yy] 31)):=(zad _ w1).alloc (zab _) _;have hs3:(w1.alloc (.cells #[.iface 133 (.agg #[.string ⟨#[113,117,111,116,101]⟩]),.iface ty yy] 31)).heap.size=w1.heap.size+1:=by simp
  have HC:Hid _:=tJ [.iface 133 (.agg #[.string ⟨#[113,117,111,116,101]⟩]),.iface ty yy] (.slice (some ⟨w1.heap.size,0,none⟩) 2 2) w1.heap.size (.iface 188 (.agg #[])) (w1.alloc (.cells #[.iface 133 (.agg #[.string ⟨#[113,117,111,116,101]⟩]),.iface ty yy] 31)) (Yy w1 _ _) (by simp) (λx hx=>by simp at hx;rcases hx with rfl|rfl<;>exact⟨_,_,rfl⟩) ⟨_,_,rfl⟩;have yK:Hid _:=hb3;clear hb3;go_wp2_with fail;refine zae HC.out ?_;rintro e w5 ⟨v,rfl,hc,hs5,qA⟩;obtain⟨tv,yv,rfl⟩:=hc.iface ⟨_,_,rfl⟩;have HG:Hid _:=tK (T:=T) (dp:=dp) (g:=g) (cap:=cap) (w:=w) (lo:=w0.heap.size) (ds:=[.sym [113,117,111,116,101],d]) (rest:= .nil) (s1:=s2) (E1:=E2) (by omega) (by omega)
   (λj d' x h1 h2=>by
     match j,h1,h2 with
     |0,h1,h2=>simp at h1 h2;subst h1 h2;unfold bX;rfl
     |1,h1,h2=>
      simp at h1 h2;subst h1 h2;exact bX.keep (zab _) (zab _) (λ_ h=>h) (λb _ h=>yK.out.block b h) ⟨λ_ _=>rfl,λ_ _=>rfl⟩ _ _ HD.out
     |j+2,h1,_=>simp at h1) (by unfold bX;rfl) rfl ⟨_,_,rfl⟩ hc hs5 qA (bH.below Du.out yK.out) (Ext.wid (w:=w) HX.out (zab _) (by omega)) (Kp.trans oX.out (Kp.aF yK.out))
  clear hc qA;go_wp2_with fail;go_ret2;rw[HE.out];exact HG.out
theorem Yz:Dq R M g cap T dp:=λ_ ih p hp w E s hr hd r et ho=>F0 ih p hp w E s hr hd r et ho
end
section
variable {R M g cap:Nat}{T:List Tok}{dp:Nat}
theorem jM.from {A:Option Nat}{w w2 w':Δ}{E:Env}{s:eA}{r:RR Dt}{e:Ending}(h:jM R M g cap T dp A w2 E s r e w')(hk:Kp R M w w2):jM R M g cap T dp A w E s r e w':=by
 cases r with
 |out=>trivial
 |fail er a=>exact⟨h.1,(hk.a A).trans h.2⟩
 |ok d s'=>
  obtain⟨v,E',h1,h2,h3,h4,h5,h6⟩:=h;exact⟨v,E',h1,h2,bX.keep hk.size (zab _) (λ_ h=>h) (λ_ _ _=>rfl) ⟨λ_ _=>rfl,λ_ _=>rfl⟩ d v h3,Ext.wid h4 hk.size (zab _),h5,(hk.a A).trans h6⟩
theorem Dx {n:Nat}(ih:∀m,m≤n→IH R M g cap T dp m)(t:Tok)(VF:Hid ((t.kind=5→Dp R M g cap T dp)∧(t.kind=4→Dq R M g cap T dp)))(p:Pl)(a0:Option Addr)(n0 c0:Nat)(w:Δ)(E:Env)(s:eA)(hr:bH w R M g cap T dp E s)(hd:p.depth≤dp∧p.ahead.length≤p.depth)(r:RR Dt)
 (et:r=if p.depth=dp then .fail 6 t.from_
   else if t.kind=5 then(eF T dp n [] ⟨p.depth+1,p.passed,[]⟩ { s with fresh:=s.fresh+1 }).bind λl s'=> .ok (.vec s.fresh (fG l)) s'
   else if t.kind=4 then(aI T dp n ⟨p.depth+1,p.passed,[]⟩ s).bind λd s=> .ok (aU [.sym [113,117,111,116,101],d] .nil s.fresh).1 { s with fresh:=s.fresh+2 }
   else cg T dp n [] ⟨p.depth+1,p.passed,[]⟩ s)(ho:r≠.out):
 Λ prog 68 #[ai R,bC t,gf p.depth p.passed (.slice a0 n0 c0)] w λe w'=>jM R M g cap T dp none w E s r e w':=by
 have mixed:prog.follows Θ=true:=by kernel_rfl
 have KI:R<w.heap.size:=hr.lt;have qa:=hr.deep;have hb0:Below w.heap.size w ((w.alloc (ic t)).alloc (gL p.depth p.passed a0 n0 c0)):=((zad _ w).alloc (zab _) _).alloc (by simp) _;have hs0:((w.alloc (ic t)).alloc (gL p.depth p.passed a0 n0 c0)).heap.size=w.heap.size+1+1:=by simp
 have hP:((w.alloc (ic t)).alloc (gL p.depth p.passed a0 n0 c0)).heap[w.heap.size+1]?=some (gL p.depth p.passed a0 n0 c0):=dJ w _ _;have hT:((w.alloc (ic t)).alloc (gL p.depth p.passed a0 n0 c0)).heap[w.heap.size]?=some (ic t):=(zaK _ _ _ (by simp)).trans (zau w _);have sD:=hr.below hb0;have hc0:((w.alloc (ic t)).alloc (gL p.depth p.passed a0 n0 c0)).cell? ⟨R,2,none⟩=some (.int .i64 dp):=(gP sD.blk).1.2.2.1;have uU:Hid (Kp R M w ((w.alloc (ic t)).alloc (gL p.depth p.passed a0 n0 c0))):=Kp.aF hb0;have sI:Hid _:=sD;have HI:Hid _:=ih;have HO:Hid _:=ho;have B5:Hid _:=et;have HT:Hid _:=hT;by_cases hdd:p.depth=dp
 ·have HE:Hid (r=.fail 6 t.from_):=by show _=_;rw[et,zac hdd]
  have HC:Hid _:=uw R dp t p.depth p.passed a0 n0 c0 _ hc0 (by omega) hdd;clear hr sD hb0 ih ho et hdd hc0 hP hT;unfold gf ai bC at HC ⊢;go_enter func68,ntmps68;go_wp2_with fail;refine zae HC.out ?_;rintro e w1 ⟨b,rfl,hf,hb1⟩;have HF:Hid _:=hf;have Qb:Hid _:=Kp.trans uU.out (Kp.aF hb1);clear hf hb1 HC;go_wp2_with fail;go_ret2;rw[HE.out];exact⟨⟨b,rfl,dK.alloc HF.out _⟩,(Kp.trans Qb.out (Kp.aF ((zad _ _).alloc (zab _) _))).a none⟩
 ·have HC:Hid _:=zM R dp t p.depth p.passed a0 n0 c0 _ hc0 (by omega) (by omega) hdd;have HE:Hid _:=et.trans (zaa hdd);have yL:p.depth+1≤dp:=by omega
  clear hr sD hb0 ih ho et hdd hc0 hP hT;unfold gf ai bC at HC ⊢;go_enter func68,ntmps68;go_wp2_with fail;refine zae HC.out ?_;rintro e w1 ⟨rfl,hb1⟩;have hs1:=hb1.size;have FD:=(hb1.block w.heap.size (by omega)).trans HT.out;obtain⟨⟨o0,o1,o2,o3,o4,o5,o6⟩,-⟩:=cZ (zad _ _) FD;have n1:¬w.heap.size=w1.heap.size:=by omega
  have n2:w.heap.size<w1.heap.size:=by omega
  have hb2:Below w1.heap.size w1 (w1.alloc (.cells #[.int .i64 (p.depth+1),.bool p.passed,.slice none 0 0] 73)):=(zad _ _).alloc (zab _) _;have Du:Hid _:=(bH.below sI.out hb1).below hb2;have oX:Hid _:=(Kp.trans uU.out (Kp.aF hb1)).trans (Kp.aF hb2);clear hb1 hb2 HC FD;by_cases k5:t.kind=5
  ·have q5:(((t.kind:Nat):Int)==5)=true:=by rw[k5];rfl
   have jG:Hid _:=HE.out.trans (zac k5);have HV:Hid _:=VF.out.1 k5;clear k5 VF;cases n with
   |zero=>exact absurd (by rw[jG.out];unfold eF;rfl) HO.out
   |succ n=>
    have HC:Hid _:=HV.out n (λm hm=>HI.out m (by omega)) ⟨p.depth+1,p.passed,[]⟩ rfl _ E s Du.out ⟨yL,zap _⟩ r jG.out HO.out;unfold gf ai at HC;go_wp2_with fail;refine zae HC.out ?_;intro e w3 bM;have l7:=jM.from bM oX.out;clear bM;cases r with
    |out=>exact absurd rfl HO.out
    |fail er a=>
     obtain⟨⟨b,rfl,hf⟩,hk2⟩:=l7;have HG:Hid (jM R M g cap T dp none w E s (RR.fail er a) (.returned (.tuple #[.nilIface,ai b])) w3):=⟨⟨b,rfl,hf⟩,hk2⟩;clear hf hk2;unfold ai;go_wp2_with fail;go_ret2;exact HG.out
    |ok d s2=>
     obtain⟨v,E2,rfl,⟨ty,y,rfl⟩,cy,hx2,hr2,hk2⟩:=l7;have HG:Hid (jM R M g cap T dp none w E s (RR.ok d s2) (.returned (.tuple #[.iface ty y,.pointer none])) w3):=⟨.iface ty y,E2,rfl,⟨ty,y,rfl⟩,cy,hx2,hr2,hk2⟩;clear cy hx2 hr2 hk2;go_wp2_with fail;go_ret2;exact HG.out
  have q5:(((t.kind:Nat):Int)==5)=false:=by rw[zao];omega
  by_cases k4:t.kind=4
  ·have q4:(((t.kind:Nat):Int)==4)=true:=by rw[k4];rfl
   have jG:Hid _:=(HE.out.trans (zaa k5)).trans (zac k4);have HV:Hid _:=VF.out.2 k4;clear k5 k4 VF
   ·have HC:Hid _:=HV.out n (HI.out n (by omega)) ⟨p.depth+1,p.passed,[]⟩ rfl _ E s Du.out ⟨yL,zap _⟩ r jG.out HO.out;unfold gf ai at HC;go_wp2_with fail;refine zae HC.out ?_;intro e w3 bM;have l7:=jM.from bM oX.out;clear bM;cases r with
    |out=>exact absurd rfl HO.out
    |fail er a=>
     obtain⟨⟨b,rfl,hf⟩,hk2⟩:=l7;have HG:Hid (jM R M g cap T dp none w E s (RR.fail er a) (.returned (.tuple #[.nilIface,ai b])) w3):=⟨⟨b,rfl,hf⟩,hk2⟩;clear hf hk2;unfold ai;go_wp2_with fail;go_ret2;exact HG.out
    |ok d s2=>
     obtain⟨v,E2,rfl,⟨ty,y,rfl⟩,cy,hx2,hr2,hk2⟩:=l7;have HG:Hid (jM R M g cap T dp none w E s (RR.ok d s2) (.returned (.tuple #[.iface ty y,.pointer none])) w3):=⟨.iface ty y,E2,rfl,⟨ty,y,rfl⟩,cy,hx2,hr2,hk2⟩;clear cy hx2 hr2 hk2;go_wp2_with fail;go_ret2;exact HG.out
  ·have q4:(((t.kind:Nat):Int)==4)=false:=by rw[zao];omega
   have jG:Hid _:=(HE.out.trans (zaa k5)).trans (zaa k4);clear k5 k4;cases n with
   |zero=>exact absurd (by rw[jG.out];unfold cg;rfl) HO.out
   |succ n=>
    have HC:Hid _:=JL (N:=n) (λm hm=>HI.out m (by omega)) ⟨p.depth+1,p.passed,[]⟩ rfl _ E s Du.out ⟨yL,zap _⟩ (by rw[←jG.out];exact HO.out);rw[←jG.out]at HC;unfold gf ai at HC;go_wp2_with fail;refine zae HC.out ?_;intro e w3 bM;have l7:=jM.from bM oX.out;clear bM;cases r with
    |out=>exact absurd rfl HO.out
    |fail er a=>
     obtain⟨⟨b,rfl,hf⟩,hk2⟩:=l7;have HG:Hid (jM R M g cap T dp none w E s (RR.fail er a) (.returned (.tuple #[.nilIface,ai b])) w3):=⟨⟨b,rfl,hf⟩,hk2⟩;clear hf hk2;unfold ai;go_wp2_with fail;go_ret2;exact HG.out
    |ok d s2=>
     obtain⟨v,E2,rfl,⟨ty,y,rfl⟩,cy,hx2,hr2,hk2⟩:=l7;have HG:Hid (jM R M g cap T dp none w E s (RR.ok d s2) (.returned (.tuple #[.iface ty y,.pointer none])) w3):=⟨.iface ty y,E2,rfl,⟨ty,y,rfl⟩,cy,hx2,hr2,hk2⟩;clear cy hx2 hr2 hk2;go_wp2_with fail;go_ret2;exact HG.out
end
end Go.Proofs.YtlhimdjkkiflhaaGreat
