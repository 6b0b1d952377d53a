import Derived.LaidEqlPtr
import Derived.Test.YtlhimdjkkiflhaaGreatDoorRet17
set_option maxHeartbeats 8000000
set_option maxRecDepth 100000
open Go renaming Value→Γ,World→Δ,Calls→Λ
open Go.Departure renaming mixedOrders→Θ
namespace Go.Proofs.YtlhimdjkkiflhaaGreatDoor
open Go.Proofs.Tryz
open Go.RowKit Go.Loop
theorem Ko {lo k:Nat}{L:List Int}{w:Δ}{E:Env}:∀(ds:List Dt) (vs:List Γ),ds.length=vs.length→(∀(j:Nat) d x,ds[j]?=some d→vs[j]?=some x→ct lo k L w E d x)→df lo k L w E (fX ds) vs
 |[],[],_,_=>by unfold fX df;rfl
 |d::ds,x::vs,hl,h=>by
  unfold fX df;exact⟨x,vs,rfl,h 0 d x (by simp) (by simp),Ko ds vs (by simpa using hl) λj d' x' h1 h2=>h (j+1) d' x' (by simpa using h1) (by simpa using h2)⟩
 |[],_::_,hl,_=>by simp at hl
 |_::_,[],hl,_=>by simp at hl
section
variable {R M g cap:Nat}{T:List Tok}{dp:Nat}
def Env.one (E:Env)(i b:Nat):Env:=⟨λj=>if j=i then b else E.α j,E.cE⟩
theorem Ext.one {w w':Δ}{E:Env}{s:eD}{b:Nat}(h1:w.heap.size≤b)(h2:b<w'.heap.size):Ext w w' E (E.one s.fresh b) s { s with fresh:=s.fresh+1 }:=by
 refine⟨⟨λi hi=>zaa (by omega),λ_ _=>rfl⟩,Nat.le_succ _,λ_ h=>h,λi i1 i2=>?_,λi j i1 i2 j1 j2 _=>?_⟩
 ·have:i=s.fresh:=by have:i<s.fresh+1:=i2;omega
  subst this;show w.heap.size≤(if s.fresh=s.fresh then b else _)∧(if s.fresh=s.fresh then b else _)<_;rw[zab rfl];exact⟨h1,h2⟩
 ·have:i<s.fresh+1:=i2;have:j<s.fresh+1:=j2;omega
theorem bS.name {w:Δ}{R M g cap:Nat}{T:List Tok}{dp:Nat}{E E':Env}{s s':eD}(h:bS w R M g cap T dp E s)(h1:E'.cE=E.cE)(h2:s'.k=s.k)(h3:s'.ak=s.ak):bS w R M g cap T dp E' s':=by
 obtain⟨α,cE⟩:=E';obtain⟨k,f,ak⟩:=s';simp only at h1 h2 h3;subst h1 h2 h3;exact⟨h.rm,h.gr,h.gm,h.blk,h.row,h.lm,h.low,h.inj,h.small,h.deep⟩
theorem AP {N:Nat}(ih:∀n,n≤N→IH R M g cap T dp n)(p:Pl)(hp:p.ahead=[])(w:Δ)(E:Env)(s:eD)(hr:bS w R M g cap T dp E s)(hd:p.depth≤dp∧p.ahead.length≤p.depth)(r:RR Dt)(eK:r=(cy T dp (N+1) [] p { s with fresh:=s.fresh+1 }).bind λl s'=> .ok (.vec s.fresh (fX l)) s')(ho:r≠.out):Λ prog 194 #[aC R,gI p.depth p.passed (.slice none 0 0)] w λe w'=>jP R M g cap T dp none w E s r e w':=by
 have mixed:prog.follows Θ=true:=by kernel_rfl
 have NH:R<w.heap.size:=hr.lt;have lS:M<w.heap.size:=hr.mlt;have hrg:g<w.heap.size:=(hr.row.lt g rfl).2;have hb0:Below w.heap.size w ((w.alloc (gW p.depth p.passed none 0 0)).alloc (.cells #[.slice none 0 0] 165)):=((zad _ w).alloc (zac _) _).alloc (by simp) _;have HP:Hid (((w.alloc (gW p.depth p.passed none 0 0)).alloc (.cells #[.slice none 0 0] 165)).heap[w.heap.size]?=some (gW p.depth p.passed none 0 0)):=(zaT _ _ _ (by simp)).trans (zav w _);have HV:Hid (((w.alloc (gW p.depth p.passed none 0 0)).alloc (.cells #[.slice none 0 0] 165)).heap[w.heap.size+1]?=some (.cells #[.slice none 0 0] 165)):=en w _ _;have HR:Hid (bS ((w.alloc (gW p.depth p.passed none 0 0)).alloc (.cells #[.slice none 0 0] 165)) R M g cap T dp (E.one s.fresh (w.heap.size+1)) { s with fresh:=s.fresh+1 }):=bS.name (hr.below hb0) rfl rfl rfl;have HB:Hid _:=hb0;have HI:Hid _:=ih;have HO:Hid _:=ho;have NL:Hid _:=eK;have hsm:=hr.small;have HA:Hid (∀(w':Δ) (E':Env) (s':eD),jd w' E' s' p.ahead (.slice none 0 0)):=λw' E' s'=>by rw[hp];exact⟨⟨rfl,.inl ⟨rfl,rfl⟩⟩,⟨_,_,_,rfl⟩,λn hn=>by cases hn⟩
 clear hr hb0 ih ho eK;unfold gI aC;go_enter func194,ntmps194;go_wp2_with fail;go_loopw [] (λwr=>∃(m:Nat) (E1:Env) (s1:eD) (ds:List Dt) (vs:List Γ) (sv:Γ),m≤N+1∧w.heap.size+2≤wr.heap.size∧ds.length=vs.length∧vs.length≤s1.k∧s.fresh<s1.fresh∧E1.α s.fresh=w.heap.size+1∧Hid (r=(cy T dp m ds p s1).bind λl s'=> .ok (.vec s.fresh (fX l)) s')∧Hid (bS wr R M g cap T dp E1 s1)∧Hid (Ext w wr E E1 s s1)∧Hid (Kp R M w wr)∧Hid (wr.heap[w.heap.size]?=some (gW p.depth p.passed none 0 0))∧Hid (wr.heap[w.heap.size+1]?=some (.cells #[sv] 165))∧Hid (wr.ownsRow (w.heap.size+2) 58 1 sv vs.length vs)∧Hid (∀(j:Nat) d x,ds[j]?=some d→vs[j]?=some x→Held wr (w.heap.size+2) s1.fresh s1.ak E1 sv.ownBlock d x)) (λwr=>T.length+1-(intOf ((wr.cell? ⟨R,1,none⟩).getD undef)).toNat)
 case atStart=>exact⟨N+1,E.one s.fresh (w.heap.size+1),{ s with fresh:=s.fresh+1 },[],[],.slice none 0 0,zac _,by simp,rfl,zaq _,Nat.lt_succ_self _,zab rfl,NL.out,HR.out,Ext.one (by omega) (by simp),Kp.aG HB.out,HP.out,HV.out,zck _ _ _ _,λj d x h=>by simp at h⟩
 case round=>
  obtain⟨m,E1,s1,ds,vs,sv,hm,hsz,hl,hlen,Lr,hE1,HE,wO,HX,HK,SS,HV1,HW,HH⟩:=hrel;have yg:cy T dp m ds p s1≠.out:=λh=>HO.out (by rw[HE.out,h];rfl);obtain⟨m',rfl⟩:∃m',m=m'+1:=by
   cases m with
   |zero=>exact absurd (by unfold cy;rfl) yg
   |succ m'=>exact⟨m',rfl⟩
  have Uq:Hid (r=((aM T dp m' p s1).bind λt s=>
   if t.kind=3 then .ok ds s
   else if ds.length=20 then .fail 3 t.from_
   else(aL T dp m' t p s).bind λd s=>cy T dp m' (ds++[d]) p s).bind λl s'=> .ok (.vec s.fresh (fX l)) s'):=by
    show _=_;rw[HE.out]
    conv=>lhs;unfold cy
  clear yg HE;obtain⟨a1,c1,rfl⟩:=bD HW.out;obtain⟨p0,p1,p2⟩:=fG SS.out;have hne:aM T dp m' p s1≠.out:=λh=>HO.out (by rw[Uq.out,h];rfl);have HT:Hid _:=(HI.out m' (by omega)).take p (.slice none 0 0) _ E1 s1 wO.out (HA.out _ _ _) hd hne;clear hne;cases hT:aM T dp m' p s1 with
  |out=>exact absurd (by rw[Uq.out,hT];rfl) HO.out
  |fail er a=>
   rw[hT]at HT;have jL:Hid (r=.fail er a):=by show _=_;rw[Uq.out,hT];rfl
   unfold gI aC at HT;go_wp2_with fail;refine zai HT.out ?_;rintro e w2 ⟨⟨b,t,rfl,hf⟩,hk⟩;have HF:Hid _:=hf;have nZ:Hid _:=hk;clear hf hk HT;unfold bP aC;go_wp2_with fail;go_ret2;rw[jL.out];exact⟨⟨b,rfl,dQ.alloc HF.out _⟩,(Kp.trans (Kp.trans HK.out nZ.out) (Kp.aG ((zad _ _).alloc (zac _) _))).a none⟩
  |ok t s3=>
   have HMt:Hid (t∈T):=sR _ _ _ _ _ hT;have htl:=Km hT;rw[hT]at HT;have jL:Hid (r=(if t.kind=3 then .ok ds s3
   else if ds.length=20 then .fail 3 t.from_
   else(aL T dp m' t p s3).bind λd s=>cy T dp m' (ds++[d]) p s:RR (List Dt)).bind λl s'=> .ok (.vec s.fresh (fX l)) s'):=by show _=_;rw[Uq.out,hT];rfl
   unfold gI aC at HT;go_wp2_with fail;refine zai HT.out ?_;rintro e w2 ⟨E3,rfl,hx3,hr3,hk3⟩;have hs3:=hk3.size;have hb4:Below w2.heap.size w2 (w2.alloc (iz t)):=(zad _ w2).alloc (zac _) _;have NB:(w2.alloc (iz t)).heap.size=w2.heap.size+1:=by simp
   have hk4:=Kp.trans hk3 (Kp.aG hb4);have HR4:Hid _:=hr3.below hb4;have rJ:Hid _:=Kp.trans HK.out hk4;have HX4:Hid _:=Ext.wid (w:=w) (w3:=(w2.alloc (iz t))) (Ext.trans HX.out hx3 (Kp.size HK.out) hs3) (zac _) (by omega);have vh:Hid _:=bC HW.out (zac _) (Kp.ge hk4 (by omega) (by omega));have HH4:Hid (∀(j:Nat) d x,ds[j]?=some d→vs[j]?=some x→Held (w2.alloc (iz t)) (w.heap.size+2) s3.fresh s3.ak E3 (Γ.slice a1 vs.length c1).ownBlock d x):=λj d x h1 h2=>
    Held.keep (HH.out j d x h1 h2) (by omega) hx3.fresh hx3.ak hx3.agree (λb b1 b2 _=>Kp.ge hk4 (lo:=w.heap.size+2) (by omega) (by omega) b b1 b2) (.inl rfl)
   have HP4:Hid _:=(hk4.block w.heap.size (by omega) (by omega) (by omega)).trans SS.out;have HV4:Hid _:=(hk4.block (w.heap.size+1) (by omega) (by omega) (by omega)).trans HV1.out;have hf3:s.fresh<s3.fresh:=zaI Lr hx3.fresh;have hE3:E3.α s.fresh=w.heap.size+1:=(hx3.agree.1 _ Lr).trans hE1;obtain⟨y0,y1,y2⟩:=fG HP4.out;have z0:(w2.alloc (iz t)).cell? ⟨w.heap.size+1,0,none⟩=some (.slice a1 vs.length c1):=by simp only[Δ.cell?,HV4.out];rfl
   have z1:w2.cell? ⟨w.heap.size+1,0,none⟩=some (.slice a1 vs.length c1):=by simp only[Δ.cell?,(hk3.block (w.heap.size+1) (by omega) (by omega) (by omega)).trans HV1.out];rfl
   obtain⟨⟨o0,o1,o2,o3,o4,o5,o6⟩,-⟩:=dt (zad _ _) (zav w2 (iz t));have n1:¬w.heap.size+1=w2.heap.size:=by omega
   have n2:w.heap.size+1<w2.heap.size:=by omega
   clear hx3 hr3 hk3 hk4 hb4 HT p0 p1 p2;unfold bP;by_cases k3:t.kind=3
   ·have q3:(((t.kind:Nat):Int)==3)=true:=by rw[k3];rfl
    rw[zab k3]at jL;clear k3;have HG:Hid (jP R M g cap T dp none w E s (.ok (.vec s.fresh (fX ds)) s3) (.returned (.tuple #[.iface 163 (aC (w.heap.size+1)),.pointer none])) (w2.alloc (iz t))):=by
     refine⟨_,E3,rfl,⟨_,_,rfl⟩,?_,HX4.out,HR4.out,Kp.a rJ.out none⟩;unfold ct;refine⟨hf3,by rw[hE3];omega,by rw[hE3],.slice a1 vs.length c1,vs,by rw[hE3];exact HV4.out,bC vh.out (by omega) λ_ _ _=>rfl,Ko ds vs hl λj d x h1 h2=>?_⟩;exact ct.keep (by omega) (zac _) (λ_ h=>h) (λ_ _ _=>rfl) ⟨λ_ _=>rfl,λ_ _=>rfl⟩ d x (HH4.out j d x h1 h2).dat
    go_wp2_with fail;go_ret2;rw[jL.out];exact HG.out
   have q3:(((t.kind:Nat):Int)==3)=false:=by rw[zah];omega
   rw[zaa k3]at jL;clear k3;by_cases k7:ds.length=20
   ·have q7:(((vs.length:Nat):Int)==20)=true:=by rw[←hl,k7];rfl
    rw[zab k7]at jL;clear k7;go_wp2_with fail;go_region;go_wp2_with fail;go_ret2;rw[jL.out];refine⟨⟨w2.heap.size+1,rfl,?_⟩,(Kp.trans rJ.out (Kp.aG (((zad _ _).alloc (zac _) _).drew))).a none⟩;exact en w2 _ _
   ·rw[zaa k7]at jL;have q7:(((vs.length:Nat):Int)==20)=false:=by rw[zah];omega
    clear k7;have hne:aL T dp m' t p s3≠.out:=λh=>HO.out (by rw[jL.out,h];rfl);have HC:Hid _:=(HI.out m' (by omega)).nY t p (.slice none 0 0) _ E3 s3 HMt.out HR4.out (HA.out _ _ _) hd hne;clear hne;unfold bP gI aC at HC;obtain⟨i0,hi,hz0,hz1,hz2⟩:=info_parts BH;go_wp2_with fail;refine zai HC.out ?_;intro e w5 cG;cases hF:aL T dp m' t p s3 with
    |out=>exact absurd (by rw[jL.out,hF];rfl) HO.out
    |fail er a=>
     rw[hF]at cG;have YM:Hid (r=.fail er a):=by show _=_;rw[jL.out,hF];rfl
     obtain⟨⟨b,rfl,hf⟩,hk2⟩:=cG;have HG:Hid (jP R M g cap T dp none w E s (RR.fail er a) (.returned (.tuple #[.nilIface,aC b])) w5):=⟨⟨b,rfl,hf⟩,(Kp.trans rJ.out (jO.plain hk2)).a none⟩;clear hf hk2;unfold aC;go_wp2_with fail;go_ret2;rw[YM.out];exact HG.out
    |ok d s5=>
     rw[hF]at cG;have YM:Hid (r=(cy T dp m' (ds++[d]) p s5).bind λl s'=> .ok (.vec s.fresh (fX l)) s'):=by show _=_;rw[jL.out,hF];rfl
     have hg5:=(grows T dp m').nY _ _ _ _ _ hF;obtain⟨v,E5,rfl,⟨ty,y,rfl⟩,cK,Mq,SN,rK⟩:=cG;replace rK:=jO.plain rK;have hs5:=rK.size;have G2:Hid _:=Kp.trans rJ.out rK;have HX5:Hid _:=Ext.trans HX4.out Mq (Kp.size rJ.out) hs5;have HP5:Hid _:=(rK.block w.heap.size (by omega) (by omega) (by omega)).trans HP4.out;have YO:Hid _:=(rK.block (w.heap.size+1) (by omega) (by omega) (by omega)).trans HV4.out;have vn:Hid _:=bC vh.out (zac _) (Kp.ge rK (by omega) (by omega));have Xc:Hid _:=SN;have HD5:Hid _:=cK;have hf5:s.fresh<s5.fresh:=zaI hf3 Mq.fresh;have hE5:E5.α s.fresh=w.heap.size+1:=(Mq.agree.1 _ hf3).trans hE3;have HH5:Hid (∀(j:Nat) d x,ds[j]?=some d→vs[j]?=some x→Held w5 (w.heap.size+2) s5.fresh s5.ak E5 (Γ.slice a1 vs.length c1).ownBlock d x):=λj d x h1 h2=>
      Held.keep (HH4.out j d x h1 h2) (by omega) Mq.fresh Mq.ak Mq.agree (λb b1 b2 _=>Kp.ge rK (lo:=w.heap.size+2) (by omega) (by omega) b b1 b2) (.inl rfl)
     have z5:w5.cell? ⟨w.heap.size+1,0,none⟩=some (.slice a1 vs.length c1):=by simp only[Δ.cell?,YO.out];rfl
     have n5:¬w.heap.size+1=w5.heap.size:=by omega
     have n6:w.heap.size+1<w5.heap.size:=by omega
     clear cK Mq SN rK hF y0 y1 y2 o0 o1 o2 o3 o4 o5 o6 z0 z1 n1 n2;have BK:∀k,(Γ.slice a1 vs.length c1).ownBlock=some k→w.heap.size+2≤k∧k<w5.heap.size:=zcr vn.out;go_wp2_with (at_builtin;refine fH rfl _ _ 162 rfl (w.heap.size+2) 58 i0 .nilIface 16 underlying162 hi hz0 hz1 hz2 (by decide) rfl _ vs.length vs rfl (zcI vn.out _) ⟨w5.heap.size,0,none⟩ 1 1 [.iface ty y] rfl (by decide) rfl ?c1 ?c2 ?c3 ?c4 ?_)
     case c1=>
      intro j u hj
      match j,hj with
      |0,hj=>simp at hj;subst hj;simp[Addr.add]
     case c2=>intro u hu;simp at hu;subst hu;rfl
     case c3=>omega
     case c4=>simp;omega
     intro v' w6 hown' hgrow kT;obtain⟨AE,NM,nX,hs6⟩:=FD Xc.out G2.out hgrow (λk hk=>by have:=BK k hk;omega) (Kn vn.out) NH lS hrg;have hv6:=(nX (w.heap.size+1) (by omega) (λe=>by have:=BK _ e.symm;omega)).trans YO.out;obtain⟨g6,z6⟩:w6.cell? ⟨w.heap.size+1,0,none⟩=some (.slice a1 vs.length c1)∧w6.frozen? ⟨w.heap.size+1,0,none⟩=false:=by constructor<;>simp[Δ.cell?,Δ.frozen?,hv6]
     have YP:Hid (∀b,b≠w.heap.size+1→(w6.setCell ⟨w.heap.size+1,0,none⟩ v').heap[b]?=w6.heap[b]?):=λb hb=>zax _ _ _ _ hb;have HV7:Hid ((w6.setCell ⟨w.heap.size+1,0,none⟩ v').heap[w.heap.size+1]?=some (.cells #[v'] 165)):=eE hv6 0 v';have hs7:(w6.setCell ⟨w.heap.size+1,0,none⟩ v').heap.size=w6.heap.size:=by simp
     have Us:Hid (bS (w6.setCell ⟨w.heap.size+1,0,none⟩ v') R M g cap T dp E5 s5):=bS.step AE (k:=s5.k) ((YP.out R (by omega)).trans AE.blk) (by omega) (λb _ b2=>YP.out b (by omega)) λb x hb=>YP.out b (λe=>by rw[e,hv6]at hb;simp at hb);have HK7:Hid (Kp R M w (w6.setCell ⟨w.heap.size+1,0,none⟩ v')):=Kp.kV NM ((zad _ _).setCell (p:=⟨w.heap.size+1,0,none⟩) (by show w.heap.size≤w.heap.size+1;omega) _);have HW7:Hid ((w6.setCell ⟨w.heap.size+1,0,none⟩ v').ownsRow (w.heap.size+2) 58 1 v' (vs++[Γ.iface ty y]).length (vs++[Γ.iface ty y])):=by
      show Δ.ownsRow _ _ _ _ _ _ _;rw[zaR];exact bC hown' (zac _) λb b1 _=>YP.out b (by omega)
     have HP7:Hid _:=(YP.out w.heap.size (by omega)).trans ((nX w.heap.size (by omega) (λe=>by have:=BK _ e.symm;omega)).trans HP5.out);have hc6:v'.ownBlock=(Γ.slice a1 vs.length c1).ownBlock∨∃b,v'.ownBlock=some b∧w5.heap.size≤b:=kT.imp id λ⟨k,k1,k2⟩=>⟨k,k1,zag (by simp) k2⟩;have HH7:Hid (∀(j:Nat) d' x,(ds++[d])[j]?=some d'→(vs++[Γ.iface ty y])[j]?=some x→Held (w6.setCell ⟨w.heap.size+1,0,none⟩ v') (w.heap.size+2) s5.fresh s5.ak E5 v'.ownBlock d' x):=λj d' x h1 h2=>by
      rcases zaw j ds.length with hj|hj
      ·rw[zbi hj]at h1;rw[zbi (by omega)]at h2;exact Held.keep (HH5.out j d' x h1 h2) (by omega) (zac _) (λ_ h=>h) ⟨λ_ _=>rfl,λ_ _=>rfl⟩ (λb b1 b2 b3=>(YP.out b (by omega)).trans (nX b b2 b3)) hc6
      ·have e0:j=ds.length:=by
        have:=(zbh.1 h1).1;simp at this;omega
       subst e0;rw[zbv (zac _)]at h1;rw[zbv (by omega)]at h2;simp at h1;simp[hl]at h2;subst h1 h2;refine⟨⟨_,_,rfl⟩,w5,_,?_,by omega,HD5.out,λb b1 b2=>(YP.out b (by omega)).trans (nX b b2 λe=>?_),λb e=>?_⟩
       ·omega
       ·have:=zcr vh.out b e.symm;omega
       ·rcases hc6 with q|⟨b',q,q'⟩
        ·have:=zcr vh.out b (q.symm.trans e);omega
        ·rw[q]at e;cases e;exact .inr q'
     obtain⟨a6,c6,rfl⟩:=bD hown';clear AE NM hown' hgrow kT;go_wp2_with fail;refine⟨⟨m',E5,s5,ds++[d],vs++[Γ.iface ty y],_,by omega,by omega,by simp;omega,by simp;omega,hf5,hE5,YM,Us,Ext.wid HX5.out (zac _) (by omega),HK7,HP7,HV7,HW7,HH7⟩,?_⟩;rw[(ig Us.out.blk).1.2.1,(ig wO.out.blk).1.2.1];simp only[zbg,intOf,zbn];omega
theorem aa5:Fx R M g cap T dp:=λ_ ih p hp w E s hr hd r eK ho=>AP ih p hp w E s hr hd r eK ho
end
theorem aa6 (w:Δ)(x y:Γ):(w.alloc (.cells #[x,y] 58)).ownsRow w.heap.size 58 1 (.slice (some ⟨w.heap.size,0,none⟩) 2 2) 2 [x,y]:=
 ⟨rfl,.inr ⟨w.heap.size,2,#[x,y],rfl,zac _,zav w _,zac _,by decide,rfl,rfl⟩⟩
section
variable {R M g cap:Nat}{T:List Tok}{dp:Nat}
theorem IJ {n:Nat}(ih:IH R M g cap T dp n)(p:Pl)(hp:p.ahead=[])(w:Δ)(E:Env)(s:eD)(hr:bS w R M g cap T dp E s)(hd:p.depth≤dp∧p.ahead.length≤p.depth)(r:RR Dt)(eK:r=(ay T dp n p s).bind λd s=> .ok (aU [.sym [113,117,111,116,101],d] .nil s.fresh).1 { s with fresh:=s.fresh+2 })(ho:r≠.out):Λ prog 195 #[aC R,gI p.depth p.passed (.slice none 0 0)] w λe w'=>jP R M g cap T dp none w E s r e w':=by
 have mixed:prog.follows Θ=true:=by kernel_rfl
 have hb0:Below w.heap.size w (w.alloc (gW p.depth p.passed none 0 0)):=(zad _ w).alloc (zac _) _;have HR:Hid _:=hr.below hb0;have HK:Hid (Kp R M w (w.alloc (gW p.depth p.passed none 0 0))):=Kp.aG hb0;have PW:(w.alloc (gW p.depth p.passed none 0 0)).heap.size=w.heap.size+1:=by simp
 have hne:ay T dp n p s≠.out:=λh=>ho (by rw[eK,h];rfl);have HT:Hid _:=ih.datum p (.slice none 0 0) _ E s HR.out (by rw[hp];exact⟨⟨rfl,.inl ⟨rfl,rfl⟩⟩,⟨_,_,_,rfl⟩,λn hn=>by cases hn⟩) hd hne;have HO:Hid _:=ho;have NL:Hid _:=eK;have NH:R<w.heap.size:=hr.lt;have lS:M<w.heap.size:=hr.mlt;clear hr hb0 ih ho hne eK;generalize hw0:w.alloc (gW p.depth p.passed none 0 0)=w0 at *;have NJ:Hid _:=hw0;clear hw0;cases hT:ay T dp n p s with
 |out=>exact absurd (by rw[NL.out,hT];rfl) HO.out
 |fail er a=>
  rw[hT]at HT;have HE:Hid (r=.fail er a):=by show _=_;rw[NL.out,hT];rfl
  unfold gI aC at HT ⊢;go_enter func195,ntmps195;go_wp2_with fail;rw[NJ.out];refine zai HT.out ?_;rintro e w1 ⟨⟨b,rfl,hf⟩,hk⟩;have HF:Hid _:=hf;have BJ:Hid _:=jO.plain hk;clear hf hk HT;unfold aC;go_wp2_with fail;go_ret2;rw[HE.out];exact⟨⟨b,rfl,HF.out⟩,(Kp.trans HK.out BJ.out).a none⟩
 |ok d s2=>
  rw[hT]at HT;have HE:Hid (r=.ok (aU [.sym [113,117,111,116,101],d] .nil s2.fresh).1 { s2 with fresh:=(aU [.sym [113,117,111,116,101],d] .nil s2.fresh).2 }):=by show _=_;rw[NL.out,hT];rfl
  unfold gI aC at HT ⊢;go_enter func195,ntmps195;go_wp2_with fail;rw[NJ.out];refine zai HT.out ?_;rintro e w1 ⟨vr,E2,rfl,⟨ty,yy,rfl⟩,cK,hx2,hr2,hk2⟩;replace hk2:=jO.plain hk2;have hs1:=hk2.size;have HD:Hid _:=cK;have HX:Hid (Ext w w1 E E2 s s2):=Ext.wid hx2 (by omega) (zac _);have IG:Hid _:=hr2;have pM:Hid _:=Kp.trans HK.out hk2;clear cK hx2 hr2 hk2 HT;have hb3:Below w1.heap.size w1 (w1.alloc (.cells #[.iface 168 (.agg #[.string ⟨#[113,117,111,116,101]⟩]),.iface ty yy] 58)):=(zad _ w1).alloc (zac _) _;have hs3:(w1.alloc (.cells #[.iface 168 (.agg #[.string ⟨#[113,117,111,116,101]⟩]),.iface ty yy] 58)).heap.size=w1.heap.size+1:=by simp
  have HC:Hid _:=uu [.iface 168 (.agg #[.string ⟨#[113,117,111,116,101]⟩]),.iface ty yy] (.slice (some ⟨w1.heap.size,0,none⟩) 2 2) w1.heap.size (.iface 272 (.agg #[])) (w1.alloc (.cells #[.iface 168 (.agg #[.string ⟨#[113,117,111,116,101]⟩]),.iface ty yy] 58)) (aa6 w1 _ _) (by simp) (λx hx=>by simp at hx;rcases hx with rfl|rfl<;>exact⟨_,_,rfl⟩) ⟨_,_,rfl⟩;have iT:Hid _:=hb3;clear hb3;go_wp2_with fail;refine zai HC.out ?_;rintro e w5 ⟨v,rfl,hc,hs5,j8⟩;obtain⟨tv,yv,rfl⟩:=hc.iface ⟨_,_,rfl⟩;have HG:Hid _:=uv (T:=T) (dp:=dp) (g:=g) (cap:=cap) (w:=w) (lo:=w0.heap.size) (ds:=[.sym [113,117,111,116,101],d]) (rest:= .nil) (s1:=s2) (E1:=E2) (by omega) (by omega)
   (λj d' x h1 h2=>by
     match j,h1,h2 with
     |0,h1,h2=>simp at h1 h2;subst h1 h2;unfold ct;rfl
     |1,h1,h2=>
      simp at h1 h2;subst h1 h2;exact ct.keep (zac _) (zac _) (λ_ h=>h) (λb _ h=>iT.out.block b h) ⟨λ_ _=>rfl,λ_ _=>rfl⟩ _ _ HD.out
     |j+2,h1,_=>simp at h1) (by unfold ct;rfl) rfl ⟨_,_,rfl⟩ hc hs5 j8 (bS.below IG.out iT.out) (Ext.wid (w:=w) HX.out (zac _) (by omega)) (Kp.trans pM.out (Kp.aG iT.out))
  clear hc j8;go_wp2_with fail;go_ret2;rw[HE.out];exact HG.out
theorem aa7:Fy R M g cap T dp:=λ_ ih p hp w E s hr hd r eK ho=>IJ ih p hp w E s hr hd r eK ho
end
section
variable {R M g cap:Nat}{T:List Tok}{dp:Nat}
theorem jP.from {A:Option Nat}{w w2 w':Δ}{E:Env}{s:eD}{r:RR Dt}{e:Ending}(h:jP R M g cap T dp A w2 E s r e w')(hk:Kp R M w w2):jP R M g cap T dp A w E s r e w':=by
 cases r with
 |out=>trivial
 |fail er a=>exact⟨h.1,(hk.a A).trans h.2⟩
 |ok d s'=>
  obtain⟨v,E',h1,h2,h3,h4,h5,h6⟩:=h;exact⟨v,E',h1,h2,ct.keep hk.size (zac _) (λ_ h=>h) (λ_ _ _=>rfl) ⟨λ_ _=>rfl,λ_ _=>rfl⟩ d v h3,Ext.wid h4 hk.size (zac _),h5,(hk.a A).trans h6⟩
theorem FE {n:Nat}(ih:∀m,m≤n→IH R M g cap T dp m)(t:Tok)(HVQ:Hid ((t.kind=5→Fx R M g cap T dp)∧(t.kind=4→Fy R M g cap T dp)))(p:Pl)(a0:Option Addr)(n0 c0:Nat)(w:Δ)(E:Env)(s:eD)(hr:bS w R M g cap T dp E s)(hd:p.depth≤dp∧p.ahead.length≤p.depth)(r:RR Dt)
 (eK:r=if p.depth=dp then .fail 6 t.from_
   else if t.kind=5 then(cy T dp n [] ⟨p.depth+1,p.passed,[]⟩ { s with fresh:=s.fresh+1 }).bind λl s'=> .ok (.vec s.fresh (fX l)) s'
   else if t.kind=4 then(ay T dp n ⟨p.depth+1,p.passed,[]⟩ s).bind λd s=> .ok (aU [.sym [113,117,111,116,101],d] .nil s.fresh).1 { s with fresh:=s.fresh+2 }
   else bh T dp n [] ⟨p.depth+1,p.passed,[]⟩ s)(ho:r≠.out):
 Λ prog 162 #[aC R,bP t,gI p.depth p.passed (.slice a0 n0 c0)] w λe w'=>jP R M g cap T dp none w E s r e w':=by
 have mixed:prog.follows Θ=true:=by kernel_rfl
 have NH:R<w.heap.size:=hr.lt;have qz:=hr.deep;have hb0:Below w.heap.size w ((w.alloc (iz t)).alloc (gW p.depth p.passed a0 n0 c0)):=((zad _ w).alloc (zac _) _).alloc (by simp) _;have hs0:((w.alloc (iz t)).alloc (gW p.depth p.passed a0 n0 c0)).heap.size=w.heap.size+1+1:=by simp
 have hP:((w.alloc (iz t)).alloc (gW p.depth p.passed a0 n0 c0)).heap[w.heap.size+1]?=some (gW p.depth p.passed a0 n0 c0):=en w _ _;have hT:((w.alloc (iz t)).alloc (gW p.depth p.passed a0 n0 c0)).heap[w.heap.size]?=some (iz t):=(zaT _ _ _ (by simp)).trans (zav w _);have Ai:=hr.below hb0;have hc0:((w.alloc (iz t)).alloc (gW p.depth p.passed a0 n0 c0)).cell? ⟨R,2,none⟩=some (.int .i64 dp):=(ig Ai.blk).1.2.2.1;have vo:Hid (Kp R M w ((w.alloc (iz t)).alloc (gW p.depth p.passed a0 n0 c0))):=Kp.aG hb0;have rL:Hid _:=Ai;have HI:Hid _:=ih;have HO:Hid _:=ho;have NL:Hid _:=eK;have HT:Hid _:=hT;by_cases hdd:p.depth=dp
 ·have HE:Hid (r=.fail 6 t.from_):=by show _=_;rw[eK,zab hdd]
  have HC:Hid _:=vg R dp t p.depth p.passed a0 n0 c0 _ hc0 (by omega) hdd;clear hr Ai hb0 ih ho eK hdd hc0 hP hT;unfold gI aC bP at HC ⊢;go_enter func162,ntmps162;go_wp2_with fail;refine zai HC.out ?_;rintro e w1 ⟨b,rfl,hf,hb1⟩;have HF:Hid _:=hf;have BJ:Hid _:=Kp.trans vo.out (Kp.aG hb1);clear hf hb1 HC;go_wp2_with fail;go_ret2;rw[HE.out];exact⟨⟨b,rfl,dQ.alloc HF.out _⟩,(Kp.trans BJ.out (Kp.aG ((zad _ _).alloc (zac _) _))).a none⟩
 ·have HC:Hid _:=BD R dp t p.depth p.passed a0 n0 c0 _ hc0 (by omega) (by omega) hdd;have HE:Hid _:=eK.trans (zaa hdd);have IK:p.depth+1≤dp:=by omega
  clear hr Ai hb0 ih ho eK hdd hc0 hP hT;unfold gI aC bP at HC ⊢;go_enter func162,ntmps162;go_wp2_with fail;refine zai HC.out ?_;rintro e w1 ⟨rfl,hb1⟩;have hs1:=hb1.size;have rH:=(hb1.block w.heap.size (by omega)).trans HT.out;obtain⟨⟨o0,o1,o2,o3,o4,o5,o6⟩,-⟩:=dt (zad _ _) rH;have n1:¬w.heap.size=w1.heap.size:=by omega
  have n2:w.heap.size<w1.heap.size:=by omega
  have hb2:Below w1.heap.size w1 (w1.alloc (.cells #[.int .i64 (p.depth+1),.bool p.passed,.slice none 0 0] 128)):=(zad _ _).alloc (zac _) _;have IG:Hid _:=(bS.below rL.out hb1).below hb2;have pM:Hid _:=(Kp.trans vo.out (Kp.aG hb1)).trans (Kp.aG hb2);clear hb1 hb2 HC rH;by_cases k5:t.kind=5
  ·have q5:(((t.kind:Nat):Int)==5)=true:=by rw[k5];rfl
   have jL:Hid _:=HE.out.trans (zab k5);have HV:Hid _:=HVQ.out.1 k5;clear k5 HVQ;cases n with
   |zero=>exact absurd (by rw[jL.out];unfold cy;rfl) HO.out
   |succ n=>
    have HC:Hid _:=HV.out n (λm hm=>HI.out m (by omega)) ⟨p.depth+1,p.passed,[]⟩ rfl _ E s IG.out ⟨IK,zaq _⟩ r jL.out HO.out;unfold gI aC at HC;go_wp2_with fail;refine zai HC.out ?_;intro e w3 cG;have mr:=jP.from cG pM.out;clear cG;cases r with
    |out=>exact absurd rfl HO.out
    |fail er a=>
     obtain⟨⟨b,rfl,hf⟩,hk2⟩:=mr;have HG:Hid (jP R M g cap T dp none w E s (RR.fail er a) (.returned (.tuple #[.nilIface,aC b])) w3):=⟨⟨b,rfl,hf⟩,hk2⟩;clear hf hk2;unfold aC;go_wp2_with fail;go_ret2;exact HG.out
    |ok d s2=>
     obtain⟨v,E2,rfl,⟨ty,y,rfl⟩,cK,hx2,hr2,hk2⟩:=mr;have HG:Hid (jP R M g cap T dp none w E s (RR.ok d s2) (.returned (.tuple #[.iface ty y,.pointer none])) w3):=⟨.iface ty y,E2,rfl,⟨ty,y,rfl⟩,cK,hx2,hr2,hk2⟩;clear cK hx2 hr2 hk2;go_wp2_with fail;go_ret2;exact HG.out
  have q5:(((t.kind:Nat):Int)==5)=false:=by rw[zah];omega
  by_cases k4:t.kind=4
  ·have q4:(((t.kind:Nat):Int)==4)=true:=by rw[k4];rfl
   have jL:Hid _:=(HE.out.trans (zaa k5)).trans (zab k4);have HV:Hid _:=HVQ.out.2 k4;clear k5 k4 HVQ
   ·have HC:Hid _:=HV.out n (HI.out n (by omega)) ⟨p.depth+1,p.passed,[]⟩ rfl _ E s IG.out ⟨IK,zaq _⟩ r jL.out HO.out;unfold gI aC at HC;go_wp2_with fail;refine zai HC.out ?_;intro e w3 cG;have mr:=jP.from cG pM.out;clear cG;cases r with
    |out=>exact absurd rfl HO.out
    |fail er a=>
     obtain⟨⟨b,rfl,hf⟩,hk2⟩:=mr;have HG:Hid (jP R M g cap T dp none w E s (RR.fail er a) (.returned (.tuple #[.nilIface,aC b])) w3):=⟨⟨b,rfl,hf⟩,hk2⟩;clear hf hk2;unfold aC;go_wp2_with fail;go_ret2;exact HG.out
    |ok d s2=>
     obtain⟨v,E2,rfl,⟨ty,y,rfl⟩,cK,hx2,hr2,hk2⟩:=mr;have HG:Hid (jP R M g cap T dp none w E s (RR.ok d s2) (.returned (.tuple #[.iface ty y,.pointer none])) w3):=⟨.iface ty y,E2,rfl,⟨ty,y,rfl⟩,cK,hx2,hr2,hk2⟩;clear cK hx2 hr2 hk2;go_wp2_with fail;go_ret2;exact HG.out
  ·have q4:(((t.kind:Nat):Int)==4)=false:=by rw[zah];omega
   have jL:Hid _:=(HE.out.trans (zaa k5)).trans (zaa k4);clear k5 k4;cases n with
   |zero=>exact absurd (by rw[jL.out];unfold bh;rfl) HO.out
   |succ n=>
    have HC:Hid _:=Mp (N:=n) (λm hm=>HI.out m (by omega)) ⟨p.depth+1,p.passed,[]⟩ rfl _ E s IG.out ⟨IK,zaq _⟩ (by rw[←jL.out];exact HO.out);rw[←jL.out]at HC;unfold gI aC at HC;go_wp2_with fail;refine zai HC.out ?_;intro e w3 cG;have mr:=jP.from cG pM.out;clear cG;cases r with
    |out=>exact absurd rfl HO.out
    |fail er a=>
     obtain⟨⟨b,rfl,hf⟩,hk2⟩:=mr;have HG:Hid (jP R M g cap T dp none w E s (RR.fail er a) (.returned (.tuple #[.nilIface,aC b])) w3):=⟨⟨b,rfl,hf⟩,hk2⟩;clear hf hk2;unfold aC;go_wp2_with fail;go_ret2;exact HG.out
    |ok d s2=>
     obtain⟨v,E2,rfl,⟨ty,y,rfl⟩,cK,hx2,hr2,hk2⟩:=mr;have HG:Hid (jP R M g cap T dp none w E s (RR.ok d s2) (.returned (.tuple #[.iface ty y,.pointer none])) w3):=⟨.iface ty y,E2,rfl,⟨ty,y,rfl⟩,cK,hx2,hr2,hk2⟩;clear cK hx2 hr2 hk2;go_wp2_with fail;go_ret2;exact HG.out
end
section
variable (R M g cap:Nat)(T:List Tok)(dp:Nat)
def Xd (n:Nat):Prop:=∀(t:Tok) (p:Pl) (a0:Option Addr) (n0 c0:Nat) (w:Δ) (E:Env) (s:eD) (r:RR Dt),bS w R M g cap T dp E s→jd w E s p.ahead (.slice a0 n0 c0)→(p.depth≤dp∧p.ahead.length≤p.depth)→(r=if p.passed∨t.n∈s.ak then .fail 5 t.from_
 else if p.depth=dp then .fail 6 t.from_
 else(ay T dp n ⟨p.depth+1,p.passed,p.ahead++[t.n]⟩ { s with ak:=t.n::s.ak }).bind λd s=> .ok (.put t.n d) s)→r≠.out→
    Λ prog 160 #[aC R,bP t,gI p.depth p.passed (.slice a0 n0 c0)] w λe w'=>jP R M g cap T dp (Γ.slice a0 n0 c0).ownBlock w E s r e w'
def Xe:Prop:=∀(t:Tok) (p:Pl) (a0:Option Addr) (n0 c0:Nat) (w:Δ) (E:Env) (s:eD) (r:RR Dt),bS w R M g cap T dp E s→jd w E s p.ahead (.slice a0 n0 c0)→(p.depth≤dp∧p.ahead.length≤p.depth)→(r=if p.passed∨t.n∉s.ak∨t.n∈p.ahead then .fail 5 t.from_ else .ok (.ask t.n) s)→Λ prog 161 #[aC R,bP t,gI p.depth p.passed (.slice a0 n0 c0)] w λe w'=>jP R M g cap T dp none w E s r e w'
end
section
variable {R M g cap:Nat}{T:List Tok}{dp:Nat}
theorem jO.up {w w':Δ}(h:jO R M none w w')(A:Option Nat):jO R M A w w':=h.plain.a A
theorem P4 {n:Nat}(ih:∀m,m≤n→IH R M g cap T dp m)(hput:Xd R M g cap T dp n)(vQ:Xe R M g cap T dp)(AQ:(∃t∈T,t.kind=5)→Fx R M g cap T dp)(AR:(∃t∈T,t.kind=4)→Fy R M g cap T dp)(t:Tok)(p:Pl)(av:Γ)(w:Δ)(E:Env)(s:eD)(hm:t∈T)(hr:bS w R M g cap T dp E s)(ha:jd w E s p.ahead av)(hd:p.depth≤dp∧p.ahead.length≤p.depth)(ho:aL T dp (n+1) t p s≠.out):Λ prog 106 #[aC R,bP t,gI p.depth p.passed av] w λe w'=>jP R M g cap T dp av.ownBlock w E s (aL T dp (n+1) t p s) e w':=by
 have HVQ:Hid ((t.kind=5→Fx R M g cap T dp)∧(t.kind=4→Fy R M g cap T dp)):=⟨λh=>AQ ⟨t,hm,h⟩,λh=>AR ⟨t,hm,h⟩⟩;clear AQ AR hm;have mixed:prog.follows Θ=true:=by kernel_rfl
 obtain⟨⟨a0,n0,c0,rfl⟩⟩:=(⟨ha.2.1⟩:Nonempty _);have NH:R<w.heap.size:=hr.lt;generalize eK:aL T dp (n+1) t p s=r at *;have lX:=eK.symm;unfold aL at lX;clear eK;have hb0:Below w.heap.size w ((w.alloc (iz t)).alloc (gW p.depth p.passed a0 n0 c0)):=((zad _ w).alloc (zac _) _).alloc (by simp) _;have vo:Hid (Kp R M w ((w.alloc (iz t)).alloc (gW p.depth p.passed a0 n0 c0))):=Kp.aG hb0;have rL:Hid _:=hr.below hb0;have NP:Hid _:=ha.below hb0;have HO:Hid _:=ho;by_cases k37:t.kind=3∨t.kind=7
 ·have HE:Hid (r=.fail 3 t.from_):=lX.trans (zab k37);clear lX hb0 hr ha ih hput vQ;have hq:(((t.kind:Nat):Int)==3)=true∨((((t.kind:Nat):Int)==3)=false∧(((t.kind:Nat):Int)==7)=true):=by
   rcases k37 with h|h
   ·exact .inl (by rw[h];rfl)
   ·exact .inr ⟨by rw[h];rfl,by rw[h];rfl⟩
  clear k37;unfold gI aC bP;rcases hq with q3|⟨q3,q7⟩
  all_goals
   go_enter func106,ntmps106;go_wp2_with fail;go_region;go_wp2_with fail;go_ret2;rw[HE.out];refine⟨⟨w.heap.size+1+1,rfl,?_⟩,(Kp.trans vo.out (Kp.aG (((zad _ _).alloc (zac _) _).drew))).a _⟩;exact(show _=_ from by rw[show w.heap.size+1+1=((w.alloc (iz t)).alloc (gW p.depth p.passed a0 n0 c0)).heap.size by simp];exact zav _ _)
 replace lX:=lX.trans (zaa k37);have q3:(((t.kind:Nat):Int)==3)=false:=by rw[zah];omega
 have q7:(((t.kind:Nat):Int)==7)=false:=by rw[zah];omega
 clear k37;by_cases k10:t.kind=10
 ·have Ur:(((t.kind:Nat):Int)==10)=true:=by rw[k10];rfl
  have HC:Hid _:=hput t p a0 n0 c0 _ E s r rL.out NP.out hd (lX.trans (zab k10)) ho;clear lX hb0 hr ha ih hput vQ k10;unfold gI aC bP at HC ⊢;go_enter func106,ntmps106;go_wp2_with fail;refine zai HC.out ?_;intro e w3 cG;have mr:=jP.from cG vo.out;clear cG HC;cases r with
  |out=>exact absurd rfl HO.out
  |fail er a=>
   obtain⟨⟨b,rfl,hf⟩,hk2⟩:=mr;have HG:Hid (jP R M g cap T dp (Γ.slice a0 n0 c0).ownBlock w E s (RR.fail er a) (.returned (.tuple #[.nilIface,aC b])) w3):=⟨⟨b,rfl,hf⟩,hk2⟩;clear hf hk2;unfold aC;go_wp2_with fail;go_ret2;exact HG.out
  |ok d s2=>
   obtain⟨v,E2,rfl,⟨ty,y,rfl⟩,cK,hx2,hr2,hk2⟩:=mr;have HG:Hid (jP R M g cap T dp (Γ.slice a0 n0 c0).ownBlock w E s (RR.ok d s2) (.returned (.tuple #[.iface ty y,.pointer none])) w3):=⟨.iface ty y,E2,rfl,⟨ty,y,rfl⟩,cK,hx2,hr2,hk2⟩;clear cK hx2 hr2 hk2;go_wp2_with fail;go_ret2;exact HG.out
 replace lX:=lX.trans (zaa k10);have Ur:(((t.kind:Nat):Int)==10)=false:=by rw[zah];omega
 clear k10;by_cases Nz:t.kind=11
 ·have Xf:(((t.kind:Nat):Int)==11)=true:=by rw[Nz];rfl
  have HC:Hid _:=vQ t p a0 n0 c0 _ E s r rL.out NP.out hd (lX.trans (zab Nz));clear lX hb0 hr ha ih hput vQ Nz;unfold gI aC bP at HC ⊢;go_enter func106,ntmps106;go_wp2_with fail;refine zai HC.out ?_;intro e w3 cG;have mr:=jP.from cG vo.out;clear cG HC;cases r with
  |out=>exact absurd rfl HO.out
  |fail er a=>
   obtain⟨⟨b,rfl,hf⟩,hk2⟩:=mr;have HG:Hid (jP R M g cap T dp (Γ.slice a0 n0 c0).ownBlock w E s (RR.fail er a) (.returned (.tuple #[.nilIface,aC b])) w3):=⟨⟨b,rfl,hf⟩,jO.up hk2 _⟩;clear hf hk2;unfold aC;go_wp2_with fail;go_ret2;exact HG.out
  |ok d s2=>
   obtain⟨v,E2,rfl,⟨ty,y,rfl⟩,cK,hx2,hr2,hk2⟩:=mr;have HG:Hid (jP R M g cap T dp (Γ.slice a0 n0 c0).ownBlock w E s (RR.ok d s2) (.returned (.tuple #[.iface ty y,.pointer none])) w3):=⟨.iface ty y,E2,rfl,⟨ty,y,rfl⟩,cK,hx2,hr2,jO.up hk2 _⟩;clear cK hx2 hr2 hk2;go_wp2_with fail;go_ret2;exact HG.out
 replace lX:=lX.trans (zaa Nz);have Xf:(((t.kind:Nat):Int)==11)=false:=by rw[zah];omega
 clear Nz;by_cases kh:t.kind=2∨t.kind=5∨t.kind=4
 ·have HC:Hid _:=FE ih t HVQ p a0 n0 c0 _ E s rL.out hd r (lX.trans (zab kh)) ho;have hq:(((t.kind:Nat):Int)==2)=true∨((((t.kind:Nat):Int)==2)=false∧(((t.kind:Nat):Int)==5)=true)∨((((t.kind:Nat):Int)==2)=false∧(((t.kind:Nat):Int)==5)=false∧(((t.kind:Nat):Int)==4)=true):=by
   rcases kh with h|h|h
   ·exact .inl (by rw[h];rfl)
   ·exact .inr (.inl ⟨by rw[h];rfl,by rw[h];rfl⟩)
   ·exact .inr (.inr ⟨by rw[h];rfl,by rw[h];rfl,by rw[h];rfl⟩)
  clear lX hb0 hr ha ih hput vQ kh;unfold gI aC bP at HC ⊢;rcases hq with q2|⟨q2,q5⟩|⟨q2,q5,q4⟩
  all_goals
   go_enter func106,ntmps106;go_wp2_with fail;refine zai HC.out ?_;intro e w3 cG;have mr:=jP.from cG vo.out;clear cG HC;cases r with
   |out=>exact absurd rfl HO.out
   |fail er a=>
    obtain⟨⟨b,rfl,hf⟩,hk2⟩:=mr;have HG:Hid (jP R M g cap T dp (Γ.slice a0 n0 c0).ownBlock w E s (RR.fail er a) (.returned (.tuple #[.nilIface,aC b])) w3):=⟨⟨b,rfl,hf⟩,jO.up hk2 _⟩;clear hf hk2;unfold aC;go_wp2_with fail;go_ret2;exact HG.out
   |ok d s2=>
    obtain⟨v,E2,rfl,⟨ty,y,rfl⟩,cK,hx2,hr2,hk2⟩:=mr;have HG:Hid (jP R M g cap T dp (Γ.slice a0 n0 c0).ownBlock w E s (RR.ok d s2) (.returned (.tuple #[.iface ty y,.pointer none])) w3):=⟨.iface ty y,E2,rfl,⟨ty,y,rfl⟩,cK,hx2,hr2,jO.up hk2 _⟩;clear cK hx2 hr2 hk2;go_wp2_with fail;go_ret2;exact HG.out
 replace lX:=lX.trans (zaa kh);have q2:(((t.kind:Nat):Int)==2)=false:=by rw[zah];omega
 have q5:(((t.kind:Nat):Int)==5)=false:=by rw[zah];omega
 have q4:(((t.kind:Nat):Int)==4)=false:=by rw[zah];omega
 clear kh;have HC:Hid (Λ prog 163 #[bP t] ((w.alloc (iz t)).alloc (gW p.depth p.passed a0 n0 c0)) λe w'=>jP R M g cap T dp none ((w.alloc (iz t)).alloc (gW p.depth p.passed a0 n0 c0)) E s r e w'):=by
  rw[lX];unfold j9;by_cases h8:t.kind=8
  ·rw[zab h8];refine(PU t _ h8).mono ?_;rintro e w' ⟨b,rfl,hb,hc,hw⟩;have hbl:b<w'.heap.size:=(zaj.1 hc).1;refine⟨_,E.one s.fresh b,rfl,⟨_,_,rfl⟩,?_,Ext.one hb hbl,bS.name (bS.below rL.out hw) rfl rfl rfl,(Kp.aG hw).a none⟩;have e1:(E.one s.fresh b).α s.fresh=b:=zab rfl;unfold ct;rw[e1];exact⟨Nat.lt_succ_self _,hb,rfl,hc⟩
  rw[zaa h8];by_cases hv:t.kind=9∨t.kind=12∨t.kind=14∨t.fault=0
  ·refine(PV t _ h8 hv).mono ?_;rintro e w' ⟨rfl,hw⟩;have key:∀d:Dt,(∃t' y,kg t=.iface t' y)→ct ((w.alloc (iz t)).alloc (gW p.depth p.passed a0 n0 c0)).heap.size s.fresh s.ak w' E d (kg t)→jP R M g cap T dp none ((w.alloc (iz t)).alloc (gW p.depth p.passed a0 n0 c0)) E s (.ok d s) (.returned (.tuple #[kg t,.pointer none])) w':=λd hi h=>⟨_,E,rfl,hi,h,Ext.refl rfl rfl,bS.below rL.out hw,(Kp.aG hw).a none⟩;by_cases h9:t.kind=9
   ·rw[zab h9];exact key _ (by simp[kg,h9]) (by unfold ct;simp[kg,h9])
   rw[zaa h9];by_cases DR:t.kind=12
   ·rw[zab DR];exact key _ (by simp[kg,DR]) (by unfold ct;simp[kg,DR])
   rw[zaa DR];by_cases rG:t.kind=14
   ·rw[zab rG];exact key _ (by simp[kg,rG]) (by unfold ct;simp[kg,rG])
   rw[zaa rG,zaa (by omega)];exact key _ (by simp[kg,h9,DR,rG]) (by unfold ct;simp[kg,h9,DR,rG])
  ·rw[zaa (by omega),zaa (by omega),zaa (by omega),zab (by omega)];refine(IC t _ ⟨h8,by omega,by omega,by omega⟩ (by omega)).mono ?_;rintro e w' ⟨b,rfl,hc,hw⟩;exact⟨⟨b,rfl,hc⟩,(Kp.aG hw).a none⟩
 clear lX hb0 hr ha ih hput vQ
 ·unfold gI aC bP at *;go_enter func106,ntmps106;go_wp2_with fail;refine zai HC.out ?_;intro e w3 cG;have mr:=jP.from cG vo.out;clear cG HC;cases r with
  |out=>exact absurd rfl HO.out
  |fail er a=>
   obtain⟨⟨b,rfl,hf⟩,hk2⟩:=mr;have HG:Hid (jP R M g cap T dp (Γ.slice a0 n0 c0).ownBlock w E s (RR.fail er a) (.returned (.tuple #[.nilIface,aC b])) w3):=⟨⟨b,rfl,hf⟩,jO.up hk2 _⟩;clear hf hk2;unfold aC;go_wp2_with fail;go_ret2;exact HG.out
  |ok d s2=>
   obtain⟨v,E2,rfl,⟨ty,y,rfl⟩,cK,hx2,hr2,hk2⟩:=mr;have HG:Hid (jP R M g cap T dp (Γ.slice a0 n0 c0).ownBlock w E s (RR.ok d s2) (.returned (.tuple #[.iface ty y,.pointer none])) w3):=⟨.iface ty y,E2,rfl,⟨ty,y,rfl⟩,cK,hx2,hr2,jO.up hk2 _⟩;clear cK hx2 hr2 hk2;go_wp2_with fail;go_ret2;exact HG.out
end
theorem FH:prog.underlying 212=some (.pointer 215):=by kernel_rfl
theorem Ut:(prog.info? 215).map (λi=>i.size)=some 1:=by kernel_rfl
theorem aa8 (w:Δ)(b c:Nat)(hb:∃v,w.heap[b]?=some (.cells #[v] 215))(hc:∃v,w.heap[c]?=some (.cells #[v] 215)):(binOp .eql 212 (.pointer (some ⟨b,0,none⟩)) (.pointer (some ⟨c,0,none⟩))).run prog w=.ok (.bool (decide (b=c))) w:=by
 obtain⟨vb,hb⟩:=hb;obtain⟨vc,hc⟩:=hc;have hi:=Ut;cases hj:prog.info? 215 with
 |none=>rw[hj]at hi;cases hi
 |some j=>
  rw[hj]at hi;have hs:j.size=1:=by simpa using hi
  by_cases e:b=c
  ·subst e;rw[run_eql_ptr_same w _ FH hj];simp
  ·rw[run_eql_ptr_other w (ca:=#[vb]) (cb:=#[vc]) FH hj (by omega) (λh=>e (by cases h;rfl)) hb hc];simp[e]
theorem Df (l:List Nat)(g c lo b:Nat)(w:Δ)(hrow:w.ownsRow lo 212 1 (.slice (some ⟨g,0,none⟩) l.length c) l.length (l.map aC))(NQ:∃v,w.heap[b]?=some (.cells #[v] 215))(Uu:∀x∈l,∃v,w.heap[x]?=some (.cells #[v] 215)):Λ prog 220 #[.slice (some ⟨g,0,none⟩) l.length c,aC b] w λe w'=>(∃i:Int,e=.returned (.int .i64 i)∧(if b∈l then 0≤i else i=-1))∧w'=w:=by
 have hg:g<w.heap.size:=(hrow.lt g rfl).2;have hn:l.length≤9223372036854775807:=by
  rcases hrow.2 with⟨h,_⟩|⟨_,cp,_,_,_,_,h1,h2,_⟩
  ·cases h
  ·simp only[maxLen]at h2;omega
 have hcell:Hid (∀(j:Nat) (x:Nat),l[j]?=some x→w.cell? ⟨g,j,none⟩=some (aC x)):=λj x hx=>by
  have hj:j<l.length:=(zbh.1 hx).1;rw[hrow.cellAt j (by omega),zbU,hx];rfl
 clear hrow;unfold aC;go_enter func220,ntmps220;go_wp2_with fail;go_loopw [8] (λi wr=>∃j:Nat,j≤l.length∧i=.int .i64 j∧wr=w∧Hid (∀(k:Nat) x,k<j→l[k]?=some x→x≠b)) (λi _=>l.length-(intOf i).toNat)
 case atStart=>exact⟨0,by omega,rfl,rfl,λk x hk=>by omega⟩
 case round=>
  obtain⟨j,hj,rfl,rfl,hB⟩:=hrel;by_cases xJ:j<l.length
  ·have hx:l[j]?=some l[j]:=zat xJ;have hc:=hcell.out j _ hx;unfold aC at hc;have q:((j:Int)<(l.length:Int)):=by omega
   have hq:=aa8 wr b l[j] NQ (Uu _ (zbx xJ));by_cases hb:l[j]=b
   ·have hm:b∈l:=by rw[←hb];exact zbx xJ
    rw[hb]at hc hq;simp only[decide_true]at hq;go_wp2_with fail;go_ret;exact⟨⟨_,rfl,by omega⟩,rfl⟩
   ·have hb':decide (b=l[j])=false:=by rw[zbW];exact λe=>hb e.symm
    rw[hb']at hq;go_wp2_with fail;refine⟨⟨j+1,by omega,by simp,trivial,λk x hk hkx=>?_⟩,?_⟩
    ·rcases zaw k j with h|h
     ·exact hB.out k x h hkx
     ·have:k=j:=by omega
      subst this;rw[hx]at hkx;cases hkx;exact hb
    ·simp only[intOf];omega
  ·have hm:¬b∈l:=λh=>by
    obtain⟨k,hk,hkb⟩:=List.getElem_of_mem h;exact hB.out k _ (by omega) (zat hk) hkb
   have q:¬((j:Int)<(l.length:Int)):=by omega
   go_wp2_with fail;go_ret;simp
theorem Mr (b:Nat)(w:Δ):Λ prog 220 #[.slice none 0 0,aC b] w λe w'=>e=.returned (.int .i64 (-1))∧w'=w:=by
 unfold aC;go_enter func220,ntmps220;go_wp2_with fail;go_loopw [8] (λi wr=>i=.int .i64 0∧wr=w) (λ_ _=>0)
 case atStart=>exact⟨rfl,rfl⟩
 case round=>
  obtain⟨rfl,rfl⟩:=hrel;go_wp2_with fail;go_ret;exact⟨rfl,rfl⟩
theorem Dg (l:List Nat)(av:Γ)(lo b:Nat)(w:Δ)(hrow:w.ownsRow lo 212 1 av l.length (l.map aC))(NQ:∃v,w.heap[b]?=some (.cells #[v] 215))(Uu:∀x∈l,∃v,w.heap[x]?=some (.cells #[v] 215)):Λ prog 193 #[av,aC b] w λe w'=>e=.returned (.bool (decide (b∈l)))∧w'=w:=by
 rcases hrow.2 with⟨rfl,h0⟩|⟨g,cap,cur,rfl,_⟩
 ·have:l=[]:=zcf h0;subst this;have HC:Hid _:=Mr b w;clear hrow;unfold aC at HC ⊢;go_enter func193,ntmps193;go_wp2_with fail;refine zai HC.out ?_;rintro e w' ⟨rfl,rfl⟩;go_wp2_with fail;go_ret;simp
 ·have HC:Hid _:=Df l g cap lo b w hrow NQ Uu;clear hrow;unfold aC at HC ⊢;go_enter func193,ntmps193;go_wp2_with fail;refine zai HC.out ?_;rintro e w' ⟨⟨i,rfl,hi⟩,rfl⟩;by_cases hm:b∈l
  ·rw[zab hm]at hi;go_wp2_with fail;go_ret;simp[hm]
  ·rw[zaa hm]at hi;subst hi;go_wp2_with fail;go_ret;simp[hm]
theorem yI {f:Int→Γ}(n:Int):∀l:List Int,(l.map λm=>(m,f m)).lookup n=if n∈l then some (f n)else none
 |[]=>rfl
 |m::l=>by
  rw[zaB,List.lookup_cons];by_cases h:n=m
  ·subst h;simp
  ·have:(n==m)=false:=by rw[zah];exact h
   rw[this,yI n l];simp[h]
theorem sS (E:Env)(ak:List Int)(n:Int):(vO E ak).lookup n=if n∈ak then some (aC (E.cE n))else none:=by
 unfold vO;rw[yI (f:=λm=>aC (E.cE m))];simp
theorem kC (w:Δ)(A B C:Obj):(((w.alloc A).alloc B).alloc C).heap[w.heap.size+1+1]?=some C:=by
 rw[show w.heap.size+1+1=((w.alloc A).alloc B).heap.size by simp];exact zav _ _
section
variable {R M g cap:Nat}{T:List Tok}{dp:Nat}
theorem YQ:Xe R M g cap T dp:=by
 intro t p a0 n0 c0 w E s r hr ha hd eK;have mixed:prog.follows Θ=true:=by kernel_rfl
 have hb0:Below w.heap.size w ((w.alloc (iz t)).alloc (gW p.depth p.passed a0 n0 c0)):=((zad _ w).alloc (zac _) _).alloc (by simp) _;have hs0:((w.alloc (iz t)).alloc (gW p.depth p.passed a0 n0 c0)).heap.size=w.heap.size+1+1:=by simp
 have vo:Hid (Kp R M w ((w.alloc (iz t)).alloc (gW p.depth p.passed a0 n0 c0))):=Kp.aG hb0;have Ai:=hr.below hb0;have rL:Hid _:=Ai;have cU:=oN (w:=((w.alloc (iz t)).alloc (gW p.depth p.passed a0 n0 c0)).drew) (M:=M) (l:=vO E s.ak) Ai.lm t.n;rw[sS]at cU;have NH:R<w.heap.size:=hr.lt;have n1:¬R=w.heap.size:=by omega
 have n2:¬R=w.heap.size+1:=by omega
 have n3:R<w.heap.size+1:=by omega
 obtain⟨⟨r0,r1,r2,r3⟩,-⟩:=ig hr.blk;have NP:Hid _:=ha.below hb0;by_cases hp:p.passed=true
 ·have HE:Hid (r=.fail 5 t.from_):=eK.trans (zab (.inl hp));rw[hp]at cU vo ⊢;clear eK hr Ai hb0 ha hs0 rL NP;unfold gI aC bP;by_cases hl:t.n∈s.ak
  ·rw[zab hl,zbg]at cU;unfold aC at cU;go_enter func161,ntmps161;go_wp2_with fail;go_region;go_wp2_with fail;go_region;go_wp2_with fail;go_ret2;rw[HE.out];refine⟨⟨w.heap.size+1+1,rfl,?_⟩,(Kp.trans vo.out (Kp.aG ((((zad _ _).alloc (zac _) _).drew).drew))).a none⟩;exact kC w _ _ _
  ·rw[zaa hl,zbH]at cU;go_enter func161,ntmps161;go_wp2_with fail;go_region;go_wp2_with fail;go_region;go_wp2_with fail;go_ret2;rw[HE.out];refine⟨⟨w.heap.size+1+1,rfl,?_⟩,(Kp.trans vo.out (Kp.aG ((((zad _ _).alloc (zac _) _).drew).drew))).a none⟩;exact kC w _ _ _
 have wN:p.passed=false:=by simpa using hp
 rw[wN]at cU vo rL NP hs0 ⊢;by_cases hl:t.n∈s.ak
 ·rw[zab hl,zbg]at cU;have hrow:(((w.alloc (iz t)).alloc (gW p.depth false a0 n0 c0)).drew).ownsRow 0 212 1 (.slice a0 n0 c0) (p.ahead.map E.cE).length ((p.ahead.map E.cE).map aC):=by
   rw[zby,List.map_map];exact NP.out.1
  have HC:Hid _:=Dg (p.ahead.map E.cE) (.slice a0 n0 c0) 0 (E.cE t.n) _ hrow (rL.out.low _ hl) (λx hx=>by
   obtain⟨m,hm,rfl⟩:=zbo.1 hx;exact rL.out.low m (NP.out.2.2 m hm))
  have AH:E.cE t.n∈p.ahead.map E.cE↔t.n∈p.ahead:=by
   constructor
   ·intro h;obtain⟨m,hm,e⟩:=zbo.1 h;rw[←rL.out.inj m (NP.out.2.2 m hm) t.n hl e];exact hm
   ·exact λh=>zbo.2 ⟨_,h,rfl⟩
  by_cases hin:t.n∈p.ahead
  ·have HE:Hid (r=.fail 5 t.from_):=eK.trans (zab (.inr (.inr hin)));rw[zaY (AH.2 hin)]at HC;clear eK hr Ai hb0 ha hs0 hrow AH;unfold aC at cU HC;unfold gI aC bP;go_enter func161,ntmps161;go_wp2_with fail;go_region;go_wp2_with fail;refine zai HC.out ?_;rintro e w' ⟨rfl,rfl⟩;go_wp2_with fail;go_region;go_wp2_with fail;go_ret2;rw[HE.out];refine⟨⟨w.heap.size+1+1,rfl,?_⟩,(Kp.trans vo.out (Kp.aG ((((zad _ _).alloc (zac _) _).drew).drew))).a none⟩;exact kC w _ _ _
  ·have HE:Hid (r=.ok (.ask t.n) s):=eK.trans (zaa (by simp[wN,hl,hin]));rw[zaS (λh=>hin (AH.1 h))]at HC;have HG:Hid (jP R M g cap T dp none w E s (.ok (.ask t.n) s) (.returned (.tuple #[.iface 212 (aC (E.cE t.n)),.pointer none])) ((w.alloc (iz t)).alloc (gW p.depth false a0 n0 c0)).drew):=
    ⟨_,E,rfl,⟨_,_,rfl⟩,by unfold ct;exact⟨hl,rfl⟩,Ext.refl rfl rfl,bS.below rL.out ((zad _ _).drew),(Kp.trans vo.out (Kp.aG ((zad _ _).drew))).a none⟩
   clear eK hr Ai hb0 ha hs0 hrow AH;unfold aC at cU HC;unfold gI aC bP;go_enter func161,ntmps161;go_wp2_with fail;go_region;go_wp2_with fail;refine zai HC.out ?_;rintro e w' ⟨rfl,rfl⟩;go_wp2_with fail;go_ret2;rw[HE.out];exact HG.out
 ·have HE:Hid (r=.fail 5 t.from_):=eK.trans (zab (.inr (.inl hl)));rw[zaa hl,zbH]at cU;clear eK hr Ai hb0 ha hs0 rL NP;unfold gI aC bP
  ·go_enter func161,ntmps161;go_wp2_with fail;go_region;go_wp2_with fail;go_region;go_wp2_with fail;go_ret2;rw[HE.out];refine⟨⟨w.heap.size+1+1,rfl,?_⟩,(Kp.trans vo.out (Kp.aG ((((zad _ _).alloc (zac _) _).drew).drew))).a none⟩;exact kC w _ _ _
end
section
variable {R M g cap:Nat}{T:List Tok}{dp:Nat}
theorem Ms (n:Nat)(t:Tok)(p:Pl)(a0:Option Addr)(n0 c0:Nat)(w:Δ)(E:Env)(s:eD)(r:RR Dt)(hr:bS w R M g cap T dp E s)(eK:r=if p.passed∨t.n∈s.ak then .fail 5 t.from_
 else if p.depth=dp then .fail 6 t.from_
 else(ay T dp n ⟨p.depth+1,p.passed,p.ahead++[t.n]⟩ { s with ak:=t.n::s.ak }).bind λd s=> .ok (.put t.n d) s)(AU:p.passed=true∨t.n∈s.ak∨p.depth=dp):
 Λ prog 160 #[aC R,bP t,gI p.depth p.passed (.slice a0 n0 c0)] w λe w'=>jP R M g cap T dp (Γ.slice a0 n0 c0).ownBlock w E s r e w':=by
 have mixed:prog.follows Θ=true:=by kernel_rfl
 have hb0:Below w.heap.size w ((w.alloc (iz t)).alloc (gW p.depth p.passed a0 n0 c0)):=((zad _ w).alloc (zac _) _).alloc (by simp) _;have hs0:((w.alloc (iz t)).alloc (gW p.depth p.passed a0 n0 c0)).heap.size=w.heap.size+1+1:=by simp
 have vo:Hid (Kp R M w ((w.alloc (iz t)).alloc (gW p.depth p.passed a0 n0 c0))):=Kp.aG hb0;have Ai:=hr.below hb0;have rL:Hid _:=Ai;have cU:=oN (w:=((w.alloc (iz t)).alloc (gW p.depth p.passed a0 n0 c0)).drew) (M:=M) (l:=vO E s.ak) Ai.lm t.n;rw[sS]at cU;have NH:R<w.heap.size:=hr.lt;have n1:¬R=w.heap.size:=by omega
 have n2:¬R=w.heap.size+1:=by omega
 have n3:R<w.heap.size+1:=by omega
 obtain⟨⟨r0,r1,r2,r3⟩,-⟩:=ig hr.blk;by_cases hp:p.passed=true
 ·have HE:Hid (r=.fail 5 t.from_):=eK.trans (zab (.inl hp));rw[hp]at cU vo ⊢;clear eK hr Ai hb0 hs0 rL cU;unfold gI aC bP
  ·go_enter func160,ntmps160;go_wp2_with fail;go_region;go_wp2_with fail;go_region;go_wp2_with fail;go_ret2;rw[HE.out];refine⟨⟨w.heap.size+1+1,rfl,?_⟩,(Kp.trans vo.out (Kp.aG ((((zad _ _).alloc (zac _) _).drew).drew))).a _⟩;exact kC w _ _ _
 have wN:p.passed=false:=by simpa using hp
 rw[wN]at cU vo rL hs0 ⊢;by_cases hl:t.n∈s.ak
 ·rw[zab hl,zbg]at cU;have HE:Hid (r=.fail 5 t.from_):=eK.trans (zab (.inr hl));clear eK hr Ai hb0 hs0 rL;unfold aC at cU;unfold gI aC bP
  ·go_enter func160,ntmps160;go_wp2_with fail;go_region;go_wp2_with fail;go_region;go_wp2_with fail;go_ret2;rw[HE.out];refine⟨⟨w.heap.size+1+1,rfl,?_⟩,(Kp.trans vo.out (Kp.aG ((((zad _ _).alloc (zac _) _).drew).drew))).a _⟩;exact kC w _ _ _
 rw[zaa hl,zbH]at cU;replace eK:=eK.trans (zaa (by simp[wN,hl]));have hc0:(((w.alloc (iz t)).alloc (gW p.depth false a0 n0 c0)).drew).cell? ⟨R,2,none⟩=some (.int .i64 dp):=(ig rL.out.blk).1.2.2.1;by_cases hdd:p.depth=dp
 ·have HE:Hid (r=.fail 6 t.from_):=eK.trans (zab hdd);have HC:Hid _:=vg R dp t p.depth false a0 n0 c0 (((w.alloc (iz t)).alloc (gW p.depth false a0 n0 c0)).drew) hc0 (by simp;omega) hdd;clear eK hr Ai hb0 hs0 rL hc0 hdd;unfold gI aC bP at HC ⊢;go_enter func160,ntmps160;go_wp2_with fail;go_region;go_wp2_with fail;refine zai HC.out ?_;rintro e w1 ⟨b,rfl,hf,hb1⟩;have HF:Hid _:=hf;have BJ:Hid _:=Kp.trans (Kp.trans vo.out (Kp.aG ((zad _ _).drew))) (Kp.aG hb1);clear hf hb1 HC;go_wp2_with fail;go_ret2;rw[HE.out];exact⟨⟨b,rfl,dQ.alloc HF.out _⟩,(Kp.trans BJ.out (Kp.aG ((zad _ _).alloc (zac _) _))).a _⟩
 ·exact absurd (AU.resolve_left hp) (by simp[hl,hdd])
end
end Go.Proofs.YtlhimdjkkiflhaaGreatDoor
namespace Go.Proofs.YtlhimdjkkiflhaaGreatDoor
open Go.RowKit Go.Loop
def Env.label (E:Env)(n:Int)(b:Nat):Env:=⟨E.α,λm=>if m=n then b else E.cE m⟩
theorem oP (E:Env)(n:Int)(b k:Nat){ak:List Int}(hn:¬n∈ak):E.agree (E.label n b) k ak:=
 ⟨λ_ _=>rfl,λm hm=>zaa λe=>hn (by rw[←e];exact hm)⟩
theorem Mt (E:Env)(n:Int)(b:Nat){ak:List Int}(hn:¬n∈ak):vO (E.label n b) (n::ak)=vO E ak++[(n,aC b)]:=by
 unfold vO;rw[List.reverse_cons,List.map_append]
 congr 1
 ·exact List.map_congr_left λm hm=>by rw[(oP E n b 0 hn).2 m (List.mem_reverse.1 hm)]
 ·simp[Env.label]
theorem bS.label {w:Δ}{R M g cap:Nat}{T:List Tok}{dp:Nat}{E:Env}{s:eD}(h:bS w R M g cap T dp E s){n:Int}{b:Nat}{o:Obj}(hn:¬n∈s.ak)(hb:∃v,w.heap[b]?=some (.cells #[v] 215))(Ej:∀m∈s.ak,E.cE m≠b)
 (hm:nQ { w with heap:=w.heap.setIfInBounds M o } M ((vO E s.ak++[(n,aC b)]).map λp=>(Γ.int .i64 p.1,p.2))):
 bS { w with heap:=w.heap.setIfInBounds M o } R M g cap T dp (E.label n b) { s with ak:=n::s.ak }:=by
 have ho:∀c,c≠M→(w.heap.setIfInBounds M o)[c]?=w.heap[c]?:=λc hc=>by rw[zaA (λe=>hc e.symm)]
 have hlM:∀(c:Nat) (v:Γ),w.heap[c]?=some (.cells #[v] 215)→c≠M:=λc v hc e=>by
  obtain⟨es,cl,q,_⟩:=h.lm;rw[e,q]at hc;cases hc
 refine⟨h.rm,h.gr,h.gm,(ho R h.rm).trans h.blk,?_,?_,λm ND=>?_,λm h1 k h2 e=>?_,h.small,h.deep⟩
 ·refine⟨h.row.1,h.row.2.imp id ?_⟩;rintro ⟨c,cp,cur,h1,h2,h3,h4⟩;have:c=g:=by cases h1;rfl
  exact⟨c,cp,cur,h1,h2,(ho c (by rw[this];exact h.gm)).trans h3,h4⟩
 ·show nQ _ M ((vO (E.label n b) (n::s.ak)).map _);rw[Mt E n b hn];exact hm
 ·show ∃v,(w.heap.setIfInBounds M o)[if m=n then b else E.cE m]?=_;by_cases e:m=n
  ·rw[zab e];obtain⟨v,hv⟩:=hb;exact⟨v,(ho b (hlM b v hv)).trans hv⟩
  ·rw[zaa e];have DN:m∈s.ak:=(zal.1 ND).resolve_left e;obtain⟨v,hv⟩:=h.low m DN;exact⟨v,(ho _ (hlM _ v hv)).trans hv⟩
 ·have e':(if m=n then b else E.cE m)=(if k=n then b else E.cE k):=e;by_cases e1:m=n<;>by_cases e2:k=n
  ·rw[e1,e2]
  ·rw[zab e1,zaa e2]at e';exact absurd e'.symm (Ej k ((zal.1 h2).resolve_left e2))
  ·rw[zaa e1,zab e2]at e';exact absurd e' (Ej m ((zal.1 h1).resolve_left e1))
  ·rw[zaa e1,zaa e2]at e';exact h.inj m ((zal.1 h1).resolve_left e1) k ((zal.1 h2).resolve_left e2) e'
end Go.Proofs.YtlhimdjkkiflhaaGreatDoor
namespace Go.Proofs.YtlhimdjkkiflhaaGreatDoor
open Go.Proofs.Tryz
open Go.RowKit Go.Loop
theorem Mu:prog.underlying 126=some (.slice 212):=by kernel_rfl
theorem sT {w:Δ}{v:Γ}{n:Nat}{xs:List Γ}(h:w.ownsRow 0 212 1 v n xs)(b:Nat)(o:Obj)(hb:w.heap[b]?=some o)(ho:∀cur,o≠.cells cur 212):some b≠v.ownBlock:=by
 intro e;rcases h.2 with⟨rfl,_⟩|⟨g,cap,cur,rfl,_,hg,_⟩
 ·cases e
 ·have:b=g:=by cases e;rfl
  rw[this,hg]at hb;exact ho cur (by cases hb;rfl)
section
variable {R M g cap:Nat}{T:List Tok}{dp:Nat}{E:Env}{s:eD}
theorem bS.tokens {w:Δ}(h:bS w R M g cap T dp E s):∃cur,w.heap[g]?=some (.cells cur 131):=by
 rcases h.row.2 with⟨e,_⟩|⟨b,cp,cur,h1,_,h3,_⟩
 ·cases e
 ·have:b=g:=by cases h1;rfl
  exact⟨cur,by rw[←this];exact h3⟩
theorem Mv {w3 w4:Δ}{v:Γ}{n:Nat}{xs:List Γ}{A:Obj}(hr:bS w3 R M g cap T dp E s)(ho:w3.ownsRow 0 212 1 v n xs)(hg:(w3.alloc A).grownBy w4 v.ownBlock):bS w4 R M g cap T dp E s∧jO R M v.ownBlock w3 w4∧(∀b,b<w3.heap.size→some b≠v.ownBlock→w4.heap[b]?=w3.heap[b]?)∧w3.heap.size+1≤w4.heap.size:=by
 have hs:(w3.alloc A).heap.size=w3.heap.size+1:=by simp
 have hb:∀b,b<w3.heap.size→some b≠v.ownBlock→w4.heap[b]?=w3.heap[b]?:=λb h h'=>(hg.block b (by omega) h').trans (zaT _ _ _ h);have hz:=hg.size;refine⟨?_,⟨hg.os,hg.tape,hg.output,by omega,λb b1 _ _ b4=>hb b b1 b4⟩,hb,by omega⟩;obtain⟨es,c,hm,-⟩:=hr.lm;obtain⟨cur,SM⟩:=hr.tokens;have q1:=sT ho R _ hr.blk (λcur e=>by simp at e);have q2:=sT ho g _ SM (λcur e=>by simp at e);have q3:=sT ho M _ hm (λcur e=>by simp at e);exact bS.step hr (k:=s.k) ((hb R hr.lt q1).trans hr.blk) (by omega) (λb b1 b2=>hb b b1 (b2.elim (λe=>by rw[e];exact q2) λe=>by rw[e];exact q3)) λb x hv=>hb b (zaj.1 hv).1 (sT ho b _ hv (λcur e=>by simp at e))
theorem bS.place {w:Δ}(h:bS w R M g cap T dp E s){b:Nat}{cs:Array Γ}(hb:w.heap[b]?=some (.cells cs 128))(i:Nat)(v:Γ):bS (w.setCell ⟨b,i,none⟩ v) R M g cap T dp E s:=by
 have ho:∀c,c≠b→(w.setCell ⟨b,i,none⟩ v).heap[c]?=w.heap[c]?:=λc hc=>zax _ _ _ _ hc;obtain⟨es,c,hm,-⟩:=h.lm;obtain⟨cur,SM⟩:=h.tokens;have q1:R≠b:=λe=>by rw[←e,h.blk]at hb;simp at hb
 have q2:g≠b:=λe=>by rw[←e,SM]at hb;simp at hb
 have q3:M≠b:=λe=>by rw[←e,hm]at hb;simp at hb
 exact bS.step h (k:=s.k) ((ho R q1).trans h.blk) (by simp) (λc _ c2=>ho c (c2.elim (λe=>by rw[e];exact q2) λe=>by rw[e];exact q3)) λc x hv=>ho c (λe=>by rw[e,hb]at hv;simp at hv)
theorem jd.more {w:Δ}{l:List Int}{v':Γ}{n:Int}{L0 b:Nat}{cs:Array Γ}(h:w.ownsRow 0 212 1 v' (l.length+1) (l.map (λm=>aC ((E.label n L0).cE m))++[aC L0]))(hb:w.heap[b]?=some (.cells cs 128))(hl:∀m∈l,m∈s.ak)(x:Γ):jd (w.setCell ⟨b,2,none⟩ x) (E.label n L0) { s with ak:=n::s.ak } (l++[n]) v':=by
 refine⟨?_,?_,λm hm=>?_⟩
 ·have e:((l++[n]).map λm=>aC ((E.label n L0).cE m))=l.map (λm=>aC ((E.label n L0).cE m))++[aC L0]:=by
   rw[List.map_append]
   congr 1
   simp[Env.label]
  rw[e,zaR];refine⟨h.1,h.2.imp id ?_⟩;rintro ⟨c,cp,cur,h1,h2,h3,h4⟩;exact⟨c,cp,cur,h1,h2,(zax _ _ _ _ (λe=>by rw[e,hb]at h3;simp at h3)).trans h3,h4⟩
 ·obtain⟨a,c,e⟩:=bD h;exact⟨a,_,c,e⟩
 ·rcases zaF.1 hm with h1|h1
  ·exact zaQ _ (hl m h1)
  ·simp at h1;subst h1;exact zaD
theorem jO.put {A B:Option Nat}{w w5 w6:Δ}(h:jO R M A w w5)(k:jO R M B w5 w6)(hv:B=A∨∃k,B=some k∧w.heap.size≤k):jO R M A w w6:=by
 have h1:=h.size;have h2:=k.size;refine⟨k.os.trans h.os,k.tape.trans h.tape,k.output.trans h.output,by omega,λb b1 b2 b3 b4=>(k.block b (by omega) b2 b3 λe=>?_).trans (h.block b b1 b2 b3 b4)⟩;rcases hv with hv|⟨c,hc,hlt⟩
 ·exact b4 (e.trans hv)
 ·rw[hc]at e;cases e;omega
theorem jO.above {A:Option Nat}{w w':Δ}(h:jO R M A w w'){b:Nat}(hb:w.heap.size≤b)(i:Nat)(v:Γ):jO R M A w (w'.setCell ⟨b,i,none⟩ v):=
 ⟨h.os,h.tape,h.output,by have:=h.size;simpa using this,λc c1 c2 c3 c4=>(zax _ _ _ _ (show c≠b by omega)).trans (h.block c c1 c2 c3 c4)⟩
theorem Uv {w w5 w6:Δ}{A:Option Nat}{v' x v:Γ}{E2:Env}{s2:eD}{n:Int}{d:Dt}{L0 m:Nat}{xs:List Γ}(hk:jO R M A w w5)(hL:w.heap.size≤L0)(j8:w5.heap[L0]?=some (.cells #[x] 215))
 (ho:w5.ownsRow 0 212 1 v' m xs)(hv:v'.ownBlock=A∨∃k,v'.ownBlock=some k∧w.heap.size≤k)(SN:bS w5 R M g cap T dp (E.label n L0) { s with ak:=n::s.ak })(hn:¬n∈s.ak)
 (hi:∃t y,v=.iface t y)(cK:ct w5.heap.size s2.fresh s2.ak w6 E2 d v)(hx:Ext w5 w6 (E.label n L0) E2 { s with ak:=n::s.ak } s2)(AE:bS w6 R M g cap T dp E2 s2)(NM:jO R M v'.ownBlock w5 w6):
 w6.heap[L0]?=some (.cells #[x] 215)∧jP R M g cap T dp A w E s (.ok (.put n d) s2) (.returned (.tuple #[v,.pointer none])) (w6.setCell ⟨L0,0,none⟩ v):=by
 have hL5:L0<w5.heap.size:=(zaj.1 j8).1;have hs5:=hk.size;have hs6:=NM.size;obtain⟨es,c,hm,-⟩:=SN.lm;have q1:L0≠R:=λe=>by rw[e,SN.blk]at j8;simp at j8
 have q3:L0≠M:=λe=>by rw[e,hm]at j8;simp at j8
 have nX:w6.heap[L0]?=some (.cells #[x] 215):=(NM.block L0 hL5 q1 q3 (sT ho L0 _ j8 (λcur e=>by simp at e))).trans j8;obtain⟨cur,SM⟩:=AE.tokens;have q2:g≠L0:=λe=>by rw[e,nX]at SM;simp at SM
 have hl0:(w6.setCell ⟨L0,0,none⟩ v).heap[L0]?=some (.cells #[v] 215):=eE nX 0 v;have ho7:∀c,c≠L0→(w6.setCell ⟨L0,0,none⟩ v).heap[c]?=w6.heap[c]?:=λc hc=>zax _ _ _ _ hc;have II:E2.cE n=L0:=(hx.agree.2 n zaD).trans (zab rfl);refine⟨nX,v,E2,rfl,hi,?_,?_,?_,(hk.put NM hv).above hL 0 v⟩
 ·unfold ct;rw[II];exact⟨hx.ak n zaD,hL,hl0,ct.keep hs5 (zac _) (λ_ h=>h) (λb b1 _=>ho7 b (by omega)) ⟨λ_ _=>rfl,λ_ _=>rfl⟩ d v cK⟩
 ·have ag:=oP E n L0 s.fresh hn;refine⟨⟨λi hi=>(hx.agree.1 i hi).trans (ag.1 i hi),λm hm=>(hx.agree.2 m (zaQ _ hm)).trans (ag.2 m hm)⟩,hx.fresh,λm hm=>hx.ak m (zaQ _ hm),λi i1 i2=>?_,hx.inj⟩;have:=hx.new i i1 i2;rw[show(w6.setCell ⟨L0,0,none⟩ v).heap.size=w6.heap.size by simp];omega
 ·refine⟨AE.rm,AE.gr,AE.gm,(ho7 R q1.symm).trans AE.blk,?_,?_,λm hm=>?_,AE.inj,AE.small,AE.deep⟩
  ·refine⟨AE.row.1,AE.row.2.imp id ?_⟩;rintro ⟨b,cp,cur,h1,h2,h3,h4⟩;have:b=g:=by cases h1;rfl
   exact⟨b,cp,cur,h1,h2,(ho7 b (by rw[this];exact q2)).trans h3,h4⟩
  ·obtain⟨es,c,h1,h2⟩:=AE.lm;exact⟨es,c,(ho7 M q3.symm).trans h1,h2⟩
  ·obtain⟨y,hy⟩:=AE.low m hm;by_cases e:E2.cE m=L0
   ·rw[e];exact⟨v,hl0⟩
   ·exact⟨y,(ho7 _ e).trans hy⟩
end
end Go.Proofs.YtlhimdjkkiflhaaGreatDoor
