import Derived.Deep.OwnRows
import Derived.Deep.Cut
import Derived.Deep.RegionWith
import Derived.Test.YtlhimdjkkiflhaaGreatDoorCut25
set_option maxHeartbeats 8000000
set_option maxRecDepth 100000
namespace Go.Proofs.YtlhimdjkkiflhaaGreatDoor
open Go.Proofs.Tryz
open Go.RowKit Go.Loop
def iT (acc:List Nat)(n:Nat):Array Value:=(acc.map (λk:Nat=>Value.int .i64 (k:Int))++List.replicate (n-acc.length) (Value.int .i64 0)).toArray
section
variable {w0 w:World}{G M K:Nat}{κ:Nat→HK}{E:Env}{g:mh}{bS:List Value}{nv:Value}
theorem ez.other (h:ez w0 w G M κ E g bS nv){B:Nat}{c:Array Value}(hB:w.heap[B]?=some (.cells c 3))(Mc:w0.heap.size≤B)(hn:∀sv∈bS,sv.ownBlock≠some B)(j:Nat)(v:Value):ez w0 (w.setCell ⟨B,j,none⟩ v) G M κ E g bS nv:=by
 have ho:∀b,b≠B→(w.setCell ⟨B,j,none⟩ v).heap[b]?=w.heap[b]?:=λb hb=>Below.heap_setCell _ _ _ _ hb;obtain⟨es,cl,hm,UE⟩:=h.map;refine⟨h.gm,h.WX,h.WY,⟨h.low.os,h.low.tape,h.low.output,by have:=h.low.size;simpa using this,λb hb=>(ho b (by omega)).trans (h.low.block b hb)⟩,(ho G (λe=>by rw[←e,h.blk]at hB;simp at hB)).trans h.blk,?_,⟨es,cl,(ho M (λe=>by rw[←e,hm]at hB;simp at hB)).trans hm,UE⟩,h.len,λi x sv hx qF=>?_⟩
 ·refine⟨h.row.1,h.row.2.imp id ?_⟩;rintro ⟨b,cp,cur,q1,q2,q3,q4⟩;exact⟨b,cp,cur,q1,q2,(ho b (λe=>by rw[←e,q3]at hB;simp at hB)).trans q3,q4⟩
 ·rcases h.subs i x sv hx qF with q|⟨b,q1,q2,q3⟩
  ·exact .inl q
  ·exact .inr ⟨b,q1,q2,(ho b (λe=>hn sv (zbD qF) (by rw[q1,←e];rfl))).trans q3⟩
theorem Fp {acc:List Nat}{n:Nat}(h:acc.length<n)(k:Nat):(iT acc n).setIfInBounds acc.length (.int .i64 (k:Int))=iT (acc++[k]) n:=by
 unfold iT;obtain⟨r,hr⟩:∃r,n-acc.length=r+1:=⟨n-acc.length-1,by omega⟩;have l4:n-(acc++[k]).length=r:=by simp;omega
 rw[hr,l4,List.replicate_succ];apply Array.ext';simp
theorem CW {acc:List Nat}{n:Nat}(h:acc.length=n):iT acc n=(acc.map λk:Nat=>Value.int .i64 (k:Int)).toArray:=by
 unfold iT;rw[h,Nat.sub_self];simp
theorem Fq {acc:List Nat}{n j:Nat}(h:j<n)(ha:acc.length≤n):∃v,(iT acc n)[j]?=some v:=by
 have:j<(iT acc n).size:=by simp[iT];omega
 exact⟨_,zar this⟩
theorem aw {α:Type}{l:List α}{j:Nat}{x:α}{r:List α}(h:l.drop j=x::r):l[j]?=some x∧l.drop (j+1)=r:=by
 constructor
 ·rw[←List.head?_drop,h];rfl
 ·rw[←List.tail_drop,h];rfl
theorem CX {lo:Nat}{L:List Int}{root:Dt}{n:Nat}(ih:∀m,m≤n→xl w0 lo K L κ E root G M m)(wb w:World)(JE:List Value)(N4:Value)(at_ B:Nat)(hv:Value)(vs:List Value)(l:Dt)(g1 g2:mh)(JC:List Value)(SR:Value)(ks:List Nat)
 (dJ:il root n l [] g1=some (ks,g2))(hlen:g2.nodes.length≤999999)(hat:at_<g1.nodes.length)(NM:vs.length≤1000)(hD:df lo K L w0 E l vs)(cQ:b8 root l=true)(hG:ez w0 w G M κ E g1 JC SR)(hM:gQ w0 K κ E g1.met)(hK:jP G M N4.ownBlock wb w)
 (hnv:SR.ownBlock=N4.ownBlock∨∃b,SR.ownBlock=some b∧wb.heap.size≤b)(hns:MB wb JE JC)(hB:w.heap[B]?=some (.cells (iT [] vs.length) 3))(Po:wb.heap.size≤B)(hB0:w0.heap.size≤B)(hBn:∀sv∈JC,sv.ownBlock≠some B)(hrow:w.ownsRow 0 58 1 hv vs.length vs)
 (x1 x2 x4 x5 x6 x7 x8 x9 x10 YV x14 x15 x16 x17 x18 x19 x20 x21 eA x23 x24 x25 x26 x27 x28 x29 x30 x31 x32 eE x34 eB x36 x37 x38 x39 x40 x41 x42 x43 x44 x45 x46 x47 x48 x49 x50 x51 x52 x53 x54 x55 x56 x57 x58 x59 x60 x61:Value):
 (cd (cd (cd (cd (cd (f80.body.getD .skip)))))).wp prog (bodyPost prog f80 λe w'=>e=.returned (.int .i64 (at_:Nat))∧Grown w0 wb w' G M κ E JE N4 { g2 with nodes:=di g2.nodes at_ ks }∧gQ w0 K κ E g2.met) ⟨#[.pointer (some ⟨G,0,none⟩),x1,x2,hv,x4,x5,x6,x7,x8,x9,x10,.int .i64 (at_:Nat),.slice (some ⟨B,0,none⟩) vs.length vs.length,YV,x14,x15,x16,x17,x18,x19,x20,x21,eA,x23,x24,x25,x26,x27,x28,x29,x30,x31,x32,eE,x34,eB,x36,x37,x38,x39,x40,x41,x42,x43,x44,x45,x46,x47,x48,x49,x50,x51,x52,x53,x54,x55,x56,x57,x58,x59,x60,x61],[]⟩ w:=by
 obtain⟨ha,hc,rfl⟩:=bQ hrow;have HI:Hid _:=ih;have H0:Hid (∃(m:Nat) (l':Dt) (acc:List Nat) (gj:mh) (s7:List Value) (Ha:Value),(.int .i64 0:Value)=.int .i64 (acc.length:Nat)∧acc.length≤vs.length∧m≤n∧at_<gj.nodes.length∧Hid (il root m l' acc gj=some (ks,g2))∧Hid (df lo K L w0 E l' (vs.drop acc.length))∧Hid (b8 root l'=true)∧Hid (ez w0 w G M κ E gj s7 Ha)∧Hid (gQ w0 K κ E gj.met)∧Hid (jP G M N4.ownBlock wb w)∧Hid (Ha.ownBlock=N4.ownBlock∨∃b,Ha.ownBlock=some b∧wb.heap.size≤b)∧Hid (MB wb JE s7)∧Hid (w.heap[B]?=some (.cells (iT acc vs.length) 3))∧Hid (∀sv∈s7,sv.ownBlock≠some B)∧Hid (w.ownsRow 0 58 1 (.slice ha vs.length hc) vs.length vs)):=
  ⟨n,l,[],g1,JC,SR,rfl,zaj _,zaa _,hat,dJ,hD,cQ,hG,hM,hK,hnv,hns,hB,hBn,hrow⟩
 clear ih dJ hat hD cQ hG hM hK hnv hns hB hBn hrow;dsimp only[f80,cd,Option.getD];go_wp2_with fail;go_loopw [41] (λsv wr=>∃(m:Nat) (l':Dt) (acc:List Nat) (gj:mh) (s7:List Value) (Ha:Value),sv=.int .i64 (acc.length:Nat)∧acc.length≤vs.length∧m≤n∧at_<gj.nodes.length∧Hid (il root m l' acc gj=some (ks,g2))∧Hid (df lo K L w0 E l' (vs.drop acc.length))∧Hid (b8 root l'=true)∧Hid (ez w0 wr G M κ E gj s7 Ha)∧Hid (gQ w0 K κ E gj.met)∧Hid (jP G M N4.ownBlock wb wr)∧Hid (Ha.ownBlock=N4.ownBlock∨∃b,Ha.ownBlock=some b∧wb.heap.size≤b)∧Hid (MB wb JE s7)∧Hid (wr.heap[B]?=some (.cells (iT acc vs.length) 3))∧Hid (∀sv∈s7,sv.ownBlock≠some B)∧Hid (wr.ownsRow 0 58 1 (.slice ha vs.length hc) vs.length vs)) (λsv _=>vs.length-(intOf sv).toNat)
 case atStart=>exact H0.out
 case round=>
  obtain⟨m,l',acc,gj,s7,Ha,rfl,abt,hm,hat,HN,HD,SS,HG,HM,HK,SU,HNS,HB,HBN,mS⟩:=hrel;have hBl:B<wr.heap.size:=(zae.1 HB.out).1;have hnG:B≠G:=λe=>by have h1:=HB.out;rw[e,HG.out.blk]at h1;simp at h1
  have hnM:B≠M:=λe=>by obtain⟨es,c,h2,-⟩:=HG.out.map;have h1:=HB.out;rw[e,h2]at h1;simp at h1
  have hnN:=ez.s6 HG.out B _ HB.out (λcur e=>by simp at e);by_cases hlt:acc.length<vs.length
  ·obtain⟨x,r,yf⟩:∃x r,vs.drop acc.length=x::r:=by
    cases hq:vs.drop acc.length with
    |nil=>simp at hq;omega
    |cons x r=>exact⟨x,r,rfl⟩
   obtain⟨hx,hr⟩:=aw yf;have cH:=HD.out;rw[yf]at cH;obtain⟨a,l2,rfl,WZ,W9⟩:∃a l2,l'=.ck a l2∧cz lo K L w0 E a x∧df lo K L w0 E l2 r:=by
    cases l'<;>unfold df at cH<;>first|exact cH.elim|(cases cH;done)|skip
    rename_i a l2;obtain⟨v,r',e,h1,h2⟩:=cH;cases e;exact⟨a,l2,rfl,h1,h2⟩
   have hgd:=SS.out;simp only[b8,zac]at hgd;obtain⟨m',rfl⟩:∃m',m=m'+1:=by
    cases m with
    |zero=>have h1:=HN.out;simp[il]at h1
    |succ m'=>exact⟨m',rfl⟩
   have hN:=HN.out;unfold il at hN;obtain⟨⟨k1,g'⟩,hN1,hN2⟩:=zay.1 hN;have NL:=(ml root m').2 _ _ _ _ _ hN2;have acL:=(ml root m').1 _ _ _ _ hN1;have HC:Hid _:=HI.out m' (by omega) a x wr gj s7 Ha k1 g' WZ hgd.1 HG.out HM.out hN1 (by simp at NL;omega);obtain⟨hb,cap,cur,hhv,q1,q2,q3⟩:∃hb cap cur,Value.slice ha vs.length hc=.slice (some ⟨hb,0,none⟩) vs.length cap∧0≤hb∧wr.heap[hb]?=some (.cells cur 58)∧True:=by
    rcases mS.out.2 with⟨e,h0⟩|⟨hb,cap,cur,e,p1,p2,_⟩
    ·omega
    ·exact⟨hb,cap,cur,e,p1,p2,trivial⟩
   obtain rfl:ha=some ⟨hb,0,none⟩:=by cases hhv;rfl
   have cx:wr.cell? ⟨hb,acc.length,none⟩=some x:=by
    rw[World.ownsRow.cellAt mS.out acc.length (by omega)];exact hx
   have hbl:hb<wr.heap.size:=(zae.1 q2).1;have hbG:hb≠G:=λe=>by rw[e,HG.out.blk]at q2;simp at q2
   have hbM:hb≠M:=λe=>by obtain⟨es,c,h2,-⟩:=HG.out.map;rw[e,h2]at q2;simp at q2
   have hbN:=ez.s6 HG.out hb _ q2 (λcur e=>by simp at e);have acM:(acc.length:Int)<(vs.length:Int):=by omega
   have H2:Hid _:=hN2;have HDL:Hid _:=W9;have HR:Hid _:=hr;have HGL:Hid _:=hgd.2;have YM:Hid _:=q2;clear hN hN1 hN2 WZ W9 cH hgd hhv q1 q2 q3 yf hx hr;unfold aH at HC;go_wp2_with fail;refine Calls.mono HC.out ?_;clear HC;rintro e w2 ⟨rfl,⟨xj,PC,hG2,hK2,YW,UH⟩,Ii⟩;have hs2:=hK2.size;have Xa:=(hK2.block B hBl hnG hnM hnN).trans HB.out;have hb2:=(hK2.block hb hbl hbG hbM hbN).trans YM.out;have UI:∀sv∈xj,sv.ownBlock≠some B:=λsv qF e=>by
    rcases UH sv qF B e with⟨sv0,h1,h2⟩|h1
    ·exact HBN.out sv0 h1 h2
    ·omega
   obtain⟨v0,hv0⟩:=Fq (acc:=acc) hlt abt;have cB:w2.cell? ⟨B,acc.length,none⟩=some v0:=by simp[World.cell?,Xa,hv0]
   have fB:w2.frozen? ⟨B,acc.length,none⟩=false:=by simp[World.frozen?,Xa]
   have UF:Hid (∃(m:Nat) (l':Dt) (MG:List Nat) (gj:mh) (s7:List Value) (Ha:Value),(Value.int .i64 ((acc.length:Int)+1))=.int .i64 (MG.length:Nat)∧MG.length≤vs.length∧m≤n∧at_<gj.nodes.length∧Hid (il root m l' MG gj=some (ks,g2))∧Hid (df lo K L w0 E l' (vs.drop MG.length))∧Hid (b8 root l'=true)∧Hid (ez w0 (w2.setCell ⟨B,acc.length,none⟩ (.int .i64 k1)) G M κ E gj s7 Ha)∧Hid (gQ w0 K κ E gj.met)∧Hid (jP G M N4.ownBlock wb (w2.setCell ⟨B,acc.length,none⟩ (.int .i64 k1)))∧Hid (Ha.ownBlock=N4.ownBlock∨∃b,Ha.ownBlock=some b∧wb.heap.size≤b)∧Hid (MB wb JE s7)∧Hid ((w2.setCell ⟨B,acc.length,none⟩ (.int .i64 k1)).heap[B]?=some (.cells (iT MG vs.length) 3))∧Hid (∀sv∈s7,sv.ownBlock≠some B)∧Hid ((w2.setCell ⟨B,acc.length,none⟩ (.int .i64 k1)).ownsRow 0 58 1 (.slice (some ⟨hb,0,none⟩) vs.length hc) vs.length vs)):=by
    have hws:=HK.out.size;refine⟨m',l2,acc++[k1],g',xj,PC,by simp,by simp;omega,by omega,by omega,H2.out,?_,HGL.out,ez.other hG2 Xa hB0 UI _ _,Ii,?_,?_,λsv qF b hb'=>?_,?_,UI,?_⟩
    ·show df lo K L w0 E l2 (vs.drop (acc++[k1]).length);rw[zaw];show df lo K L w0 E l2 (vs.drop (acc.length+1));rw[HR.out];exact HDL.out
    ·exact jP.above (jP.put HK.out hK2 SU.out) Po _ _
    ·rcases YW with e|⟨b,e,Kk⟩
     ·rcases SU.out with e2|⟨b,e2,Kk⟩
      ·exact .inl (e.trans e2)
      ·exact .inr ⟨b,e.trans e2,Kk⟩
     ·exact .inr ⟨b,e,by omega⟩
    ·rcases UH sv qF b hb' with⟨sv0,h1,h2⟩|h1
     ·exact HNS.out sv0 h1 b h2
     ·exact .inr (by omega)
    ·show _=_;rw[←Fp hlt];exact ey Xa _ _
    ·have hrow:=mS.out;refine⟨hrow.1,hrow.2.imp id ?_⟩;rintro ⟨b,cp,cu,p1,p2,p3,p4⟩;have eb:b=hb:=by cases p1;rfl
     subst eb;have hne:b≠B:=λe=>by rw[e,Xa]at hb2;simp at hb2
     exact⟨b,cp,cu,p1,p2,(Below.heap_setCell _ _ _ _ hne).trans ((hK2.block b hbl hbG hbM hbN).trans p3),p4⟩
   clear hG2 hK2 YW UH Ii Xa hb2 UI hv0 HN HD SS HG HM HK SU HNS HB HBN mS H2 HDL HR HGL YM;go_wp2_with fail;exact⟨UF.out,by simp[intOf];omega⟩
  ·have he:acc.length=vs.length:=by omega
   have js:¬((acc.length:Int)<(vs.length:Int)):=by omega
   obtain⟨rfl,Xt,hg2⟩:l'=.fj∧ks=acc∧g2=gj:=by
    have cH:=HD.out;rw[he,List.drop_length]at cH;have hl:l'=.fj:=by
     cases l'<;>unfold df at cH<;>first|rfl|exact cH.elim|skip
     obtain⟨v,r',e,-⟩:=cH;cases e
    subst hl;have hN:=HN.out;cases m with
    |zero=>simp[il]at hN
    |succ m'=>
     unfold il at hN;cases hN;exact⟨rfl,rfl,rfl⟩
   have OW:=HB.out;rw[CW he]at OW;obtain⟨nb,acN,hnv,⟨sv0,hc0⟩,hf0,Yx,hK3⟩:=ez.sub HG.out hat hB0 OW;obtain⟨y0,y1⟩:wr.cell? ⟨G,0,none⟩=some Ha∧wr.cell? ⟨G,1,none⟩=some (.map (some M)):=by
    have hblk:=HG.out.blk;constructor<;>simp[World.cell?,hblk]
   rw[he]at Yx hK3;have PF:Hid (Grown w0 wb (wr.setCell ⟨nb,at_*5+4,none⟩ (.slice (some ⟨B,0,none⟩) vs.length vs.length)) G M κ E JE N4 { g2 with nodes:=di g2.nodes at_ ks }∧gQ w0 K κ E g2.met):=by
    subst Xt hg2;refine⟨⟨_,_,Yx,jP.put HK.out hK3 SU.out,SU.out,λsv qF b hb'=>?_⟩,HM.out⟩;rcases List.mem_or_eq_of_mem_set qF with h1|h1
    ·exact HNS.out sv h1 b hb'
    ·subst h1;cases hb';exact .inr Po
   subst hnv;have acO:(at_:Int)<(gj.nodes.length:Int):=by omega
   clear Yx hK3 OW HN HD SS HG HM HK SU HNS HB HBN mS Xt hg2;go_wp2_with fail;go_ret;exact⟨rfl,PF.out⟩
end
theorem MH (n:Nat):madeCells #[.int .i64 0] n=iT [] n:=by
 unfold madeCells iT;apply Array.ext
 ·simp
 ·intro i h1 h2;simp[Nat.mod_one]
section
variable {w0 w:World}{G M K:Nat}{κ:Nat→HK}{E:Env}{g:mh}{bS:List Value}{nv:Value}
theorem ez.above {w':World}(h:ez w0 w G M κ E g bS nv)(hb:Below w.heap.size w w'):ez w0 w' G M κ E g bS nv:=by
 obtain⟨es,c,hm,UE⟩:=h.map;have hl:=h.low.size;refine⟨h.gm,h.WX,h.WY,⟨hb.os.trans h.low.os,hb.tape.trans h.low.tape,hb.output.trans h.low.output,zad hl hb.size,λb hb'=>(hb.block b (by omega)).trans (h.low.block b hb')⟩,(hb.block G (zae.1 h.blk).1).trans h.blk,bH h.row (zaa _) λb _ hlt=>hb.block b hlt,⟨es,c,(hb.block M (zae.1 hm).1).trans hm,UE⟩,h.len,λj x sv hx qF=>?_⟩;rcases h.subs j x sv hx qF with q|⟨b,q1,q2,q3⟩
 ·exact .inl q
 ·exact .inr ⟨b,q1,q2,(hb.block b (zae.1 q3).1).trans q3⟩
theorem ez.sub_lt (h:ez w0 w G M κ E g bS nv):∀sv∈bS,∀b,sv.ownBlock=some b→b<w.heap.size:=by
 intro sv qF b hb;obtain⟨j,hj⟩:=List.mem_iff_getElem?.1 qF;have vU:j<g.nodes.length:=by rw[←h.len];exact(zbg.1 hj).1
 rcases h.subs j _ sv (zai vU) hj with⟨rfl,_⟩|⟨b',rfl,_,q3⟩
 ·cases hb
 ·cases hb;exact(zae.1 q3).1
theorem xm {lo:Nat}{L:List Int}{root:Dt}{n:Nat}(hgr:mU w0 lo K L κ E root)(ih:∀m,m≤n→xl w0 lo K L κ E root G M m)(h:ez w0 w G M κ E g bS nv)(hm:gQ w0 K κ E g.met){i:Nat}(hi:i<K){hk:HK}(SV:qz w0 hk (E.α i))(c:Nat)
 (l:Dt)(hv:Value)(vs:List Value)(hD:df lo K L w0 E l vs)(cQ:b8 root l=true)(NM:vs.length≤1000)(hrow:w.ownsRow 0 58 1 hv vs.length vs)(k:Nat)(g':mh)
 (dJ:(match g.met.lookup i with|some k=>some (k,g)|none=>(il root n l [] ⟨g.nodes++[⟨c,[],0,0,[]⟩],(i,g.nodes.length)::g.met⟩).map λy=>(g.nodes.length,{ y.2 with nodes:=di y.2.nodes g.nodes.length y.1 }))=some (k,g'))(hlen:g'.nodes.length≤999999):
 Calls prog 80 #[aH G,kM hk (E.α i),.int .i64 c,hv] w λe w'=>e=.returned (.int .i64 (k:Nat))∧Grown w0 w w' G M κ E bS nv g'∧gQ w0 K κ E g'.met:=by
 have Xb:κ i=hk:=hgr.kind i hk hi SV;have hat:qz w0 (κ i) (E.α i):=by rw[Xb];exact SV
 have cU:=h.look hm hgr.inj hi hat
 obtain⟨ha,hc,rfl⟩:=bQ hrow;obtain⟨g0,g1⟩:w.cell? ⟨G,0,none⟩=some nv∧w.cell? ⟨G,1,none⟩=some (.map (some M)):=by
  constructor<;>simp[World.cell?,h.blk]
 cases hq:g.met.lookup i with
 |some k0=>
  rw[hq]at dJ;cases dJ;rw[hq,Xb]at cU;simp only[zaD,Option.isSome_some]at cU;have HG:Hid _:=(⟨Grown.refl h,hm⟩:_∧_);clear h hm hat hD hrow cQ;unfold kM aH at cU ⊢;go_enter func80,ntmps80;go_wp2_with fail;go_ret;exact⟨rfl,HG.out⟩
 |none=>
  rw[hq]at dJ;obtain⟨⟨ks,g2⟩,hL,e⟩:=zam.1 dJ;cases e;have NL:=(ml root n).2 _ _ _ _ _ hL;have YX:g2.nodes.length≤999999:=by simpa[di]using hlen
  have lN:g.nodes.length+1≤1000000:=by simp at NL;omega
  rw[hq,Xb]at cU;simp only[zbd,Option.isSome_none]at cU;have HC:Hid _:=kO h ⟨c,[],0,0,[]⟩ rfl lN;have hmk:=run_make_row' (P:=prog) 43 3 (.int .i64 0) 8 underlying43 ME rfl .i64 .i64 vs.length (by omega) (by omega);have HH:Hid _:=h;have HM:Hid _:=hm;have DW:Hid _:=hgr;have UG:Hid _:=hat
  have HL:Hid _:=hL;have mS:Hid _:=hrow;have JD:Hid _:=ih;clear h hm hgr hat hL dJ hrow ih;unfold kM aH at cU ⊢;unfold aH kn at HC;simp only at HC;go_enter func80,ntmps80;go_wp2_with fail;refine Calls.mono HC.out ?_;rintro e w1 ⟨rfl,s8⟩;obtain⟨JC,SR,h1,k1,b1,s1⟩:=id s8;obtain⟨o,hput,hmap⟩:=xf h1.map i g.nodes.length (qz.low UG.out h1.low) (λp hp=>qz.low (HM.out.at_ p hp).2 h1.low) (λp hp e=>DW.out.inj i p.1 hi (HM.out.at_ p hp).1 e) HM.out.nd hq;obtain⟨abu,nv2,h2,k2,b2,s2⟩:=Grown.met s8 hmap;obtain⟨y0,y1⟩:w1.cell? ⟨G,0,none⟩=some SR∧w1.cell? ⟨G,1,none⟩=some (.map (some M)):=by
   constructor<;>simp[World.cell?,h1.blk]
  rw[Xb]at hput;unfold kM aH at hput;have Ii:gQ w0 K κ E ((i,g.nodes.length)::g.met):=by
   refine⟨λp hp=>?_,?_⟩
   ·rcases zas.1 hp with rfl|hp
    ·exact⟨hi,UG.out⟩
    ·exact HM.out.at_ p hp
   ·rw[zao,List.nodup_cons];refine⟨λyl=>?_,HM.out.nd⟩;obtain⟨q,hq1,zf⟩:=zaH.1 yl;have:=List.lookup_eq_none_iff.1 hq q hq1;simp[zf]at this
  have h1b:=h1.blk;generalize hw2:({ w1 with heap:=w1.heap.setIfInBounds M o }:World)=w2 at *;have hs2:=k2.size;have mk2:=hmk w2;have hb3:Below w2.heap.size w2 (w2.alloc (.cells (madeCells #[.int .i64 0] vs.length) 3)):=(Below.refl _ _).alloc (zaa _) _;have h3:=h2.above hb3;have SX:Hid ((w2.alloc (.cells (madeCells #[.int .i64 0] vs.length) 3)).ownsRow 0 58 1 (.slice ha vs.length hc) vs.length vs):=by
   have hrow:=mS.out;refine⟨hrow.1,hrow.2.imp id ?_⟩;rintro ⟨b,cp,cu,p1,p2,p3,p4⟩;have hbl:b<w.heap.size:=(zae.1 p3).1;have hbG:b≠G:=λe=>by rw[e,HH.out.blk]at p3;simp at p3
   have hbM:b≠M:=λe=>by obtain⟨es,cl,q2,-⟩:=HH.out.map;rw[e,q2]at p3;simp at p3
   have hbN:=ez.s6 HH.out b _ p3 (λcur e=>by simp at e);exact⟨b,cp,cu,p1,p2,(hb3.block b (by omega)).trans ((k2.block b hbl hbG hbM hbN).trans p3),p4⟩
  have nE:Hid (jP G M nv.ownBlock w (w2.alloc (.cells (madeCells #[.int .i64 0] vs.length) 3))):=k2.trans ((Kp.aJ hb3).a _);have hw0:=h2.low.size;have HT:Hid _:=CX JD.out w (w2.alloc (.cells (madeCells #[.int .i64 0] vs.length) 3)) bS nv g.nodes.length w2.heap.size (.slice ha vs.length hc) vs l _ g2 abu nv2 ks HL.out YX (by simp) NM hD cQ h3 Ii nE.out b2 s2 (by rw[heap_alloc_new,MH]) hs2 hw0 (λsv qF e=>by have:=h2.sub_lt sv qF _ e;omega) SX.out;clear s8 h1 k1 b1 s1 hmap h2 k2 b2 s2 hb3 h3 Ii hw2 HC HL JD mS SX nE HH HM DW UG hmk
  go_upto_region 6 with fail
  rename_i hK;have HKK:Hid _:=hK;clear hK;go_wp2_with fail;exact HKK.out _ _ (HT.out _ _ _ _ _ _ _ _ _ _ _ _ _ _ _ _ _ _ _ _ _ _ _ _ _ _ _ _ _ _ _ _ _ _ _ _ _ _ _ _ _ _ _ _ _ _ _ _ _ _ _ _ _ _ _ _ _ _)
end
theorem oz:jW prog 150=true:=by kernel_rfl
theorem xn:(prog.info? 150).bind (·.zero)=some (.pointer none):=by kernel_rfl
theorem mV:jW prog 163=true:=by kernel_rfl
theorem zeroV:(prog.info? 163).bind (·.zero)=some (.pointer none):=by kernel_rfl
theorem s9:jW prog 158=true:=by kernel_rfl
theorem CY:(prog.info? 158).bind (·.zero)=some (.pointer none):=by kernel_rfl
theorem xo:jW prog 168=true:=by kernel_rfl
theorem Hb:(prog.info? 168).bind (·.zero)=some (.agg #[.string ⟨#[]⟩]):=by kernel_rfl
theorem AY:jW prog 153=true:=by kernel_rfl
theorem Fs:(prog.info? 153).bind (·.zero)=some (.agg #[.int .i64 0,.int .i64 0]):=by kernel_rfl
theorem AZ:jW prog 155=true:=by kernel_rfl
theorem MI:(prog.info? 155).bind (·.zero)=some (.agg #[.int .i64 0]):=by kernel_rfl
theorem MJ:jW prog 157=true:=by kernel_rfl
theorem YY:(prog.info? 157).bind (·.zero)=some (.agg #[.int .i64 0]):=by kernel_rfl
theorem JF (s:ByteArray)(w:World)(Uh:s.size≤281474976710656):Calls prog 83 #[.string s] w λe w'=>e=.returned (.string s)∧Below w.heap.size w w':=by
 have HC:Hid _:=Tryz.stringslite_Clone s w Uh;go_enter func83,ntmps83;go_wp2_with fail;refine Calls.mono HC.out ?_;rintro e w1 ⟨rfl,hb⟩;have HB:Hid _:=hb;clear hb;go_wp2_with fail;go_ret;exact⟨rfl,HB.out⟩
section
variable {w0 w:World}{G M K lo:Nat}{L:List Int}{κ:Nat→HK}{E:Env}{g:mh}{bS:List Value}{nv v:Value}
theorem Grown.above {w1 w2:World}{g':mh}(h:Grown w0 w1 w2 G M κ E bS nv g')(hb:Below w.heap.size w w1):Grown w0 w w2 G M κ E bS nv g':=by
 obtain⟨xj,PC,h1,h2,h3,h4⟩:=h;have hs:=hb.size;exact⟨xj,PC,h1,((Kp.aJ hb).a _).trans h2,h3.imp id (λ⟨b,e,q⟩=>⟨b,e,by omega⟩),λsv qF b hb'=>(h4 sv qF b hb').imp id λq=>by omega⟩
theorem PG (h:ez w0 w G M κ E g bS nv)(hl:g.nodes.length+1≤1000000)(HC:Hid (Calls prog 78 #[v] w λe w'=>∃v',e=.returned v'∧w'=w∧cz lo K L w0 E .nil v')):Calls prog 48 #[aH G,v] w λe w'=>e=.returned (.int .i64 (g.nodes.length:Nat))∧Grown w0 w w' G M κ E bS nv (g.add ⟨0,[],0,0,[]⟩):=by
 have HA:Hid _:=kO h ⟨0,[],0,0,[]⟩ rfl hl;clear h;unfold aH kn at HA;simp only at HA;unfold aH;go_enter func48,ntmps48;go_wp2_with fail;refine Calls.mono HC.out ?_;rintro e w' ⟨v',rfl,rfl,hd⟩;unfold cz at hd;subst hd;have a1:(Instr.typeAssert (.iface 272 (.agg #[])) 58 150 true).run prog w'=_:=az w' oz xn (by decide);have a2:(Instr.typeAssert (.iface 272 (.agg #[])) 58 163 true).run prog w'=_:=az w' mV zeroV (by decide);have a3:(Instr.typeAssert (.iface 272 (.agg #[])) 58 158 true).run prog w'=_:=az w' s9 CY (by decide);have a4:(Instr.typeAssert (.iface 272 (.agg #[])) 58 168 true).run prog w'=_:=az w' xo Hb (by decide);have a5:(Instr.typeAssert (.iface 272 (.agg #[])) 58 153 true).run prog w'=_:=az w' AY Fs (by decide);have a6:(Instr.typeAssert (.iface 272 (.agg #[])) 58 155 true).run prog w'=_:=az w' AZ MI (by decide);have a7:(Instr.typeAssert (.iface 272 (.agg #[])) 58 157 true).run prog w'=_:=az w' MJ YY (by decide);clear HC;go_wp2_with fail;refine Calls.mono HA.out ?_;rintro e w1 ⟨rfl,s8⟩;have HG:Hid _:=s8;clear s8 HA;go_wp2_with fail;go_ret;exact⟨rfl,HG.out⟩
end
section
variable {w0 w:World}{G M K lo:Nat}{L:List Int}{κ:Nat→HK}{E:Env}{g:mh}{bS:List Value}{nv v:Value}
theorem PH (a b:Int)(h:ez w0 w G M κ E g bS nv)(hl:g.nodes.length+1≤1000000)(HC:Hid (Calls prog 78 #[v] w λe w'=>∃v',e=.returned v'∧w'=w∧cz lo K L w0 E (.num a b) v')):Calls prog 48 #[aH G,v] w λe w'=>e=.returned (.int .i64 (g.nodes.length:Nat))∧Grown w0 w w' G M κ E bS nv (g.add ⟨5,[],a,b,[]⟩):=by
 have hb:Below w.heap.size w (w.alloc (.cells #[.int .i64 a,.int .i64 b] 153)):=(Below.refl _ _).alloc (zaa _) _;have HB:Hid _:=hb;have HA:Hid _:=kO (h.above hb) ⟨5,[],a,b,[]⟩ rfl hl;clear h hb;unfold aH kn at HA;simp only at HA;unfold aH;go_enter func48,ntmps48;go_wp2_with fail;refine Calls.mono HC.out ?_;rintro e w' ⟨v',rfl,rfl,hd⟩;unfold cz at hd;subst hd;have a1:(Instr.typeAssert (.iface 153 (.agg #[.int .i64 a,.int .i64 b])) 58 150 true).run prog w'=_:=az w' oz xn (by decide);have a2:(Instr.typeAssert (.iface 153 (.agg #[.int .i64 a,.int .i64 b])) 58 163 true).run prog w'=_:=az w' mV zeroV (by decide);have a3:(Instr.typeAssert (.iface 153 (.agg #[.int .i64 a,.int .i64 b])) 58 158 true).run prog w'=_:=az w' s9 CY (by decide);have a4:(Instr.typeAssert (.iface 153 (.agg #[.int .i64 a,.int .i64 b])) 58 168 true).run prog w'=_:=az w' xo Hb (by decide);have a5:(Instr.typeAssert (.iface 153 (.agg #[.int .i64 a,.int .i64 b])) 58 153 true).run prog w'=_:=dH w' AY;clear HC;go_wp2_with fail;refine Calls.mono HA.out ?_;rintro e w1 ⟨rfl,s8⟩;have HG:Hid _:=Grown.above s8 HB.out;clear s8 HA HB;go_wp2_with fail;go_ret;exact⟨rfl,HG.out⟩
theorem JG (a:Int)(h:ez w0 w G M κ E g bS nv)(hl:g.nodes.length+1≤1000000)(HC:Hid (Calls prog 78 #[v] w λe w'=>∃v',e=.returned v'∧w'=w∧cz lo K L w0 E (.eT a) v')):Calls prog 48 #[aH G,v] w λe w'=>e=.returned (.int .i64 (g.nodes.length:Nat))∧Grown w0 w w' G M κ E bS nv (g.add ⟨6,[],a,0,[]⟩):=by
 have hb:Below w.heap.size w (w.alloc (.cells #[.int .i64 a] 155)):=(Below.refl _ _).alloc (zaa _) _;have HB:Hid _:=hb;have HA:Hid _:=kO (h.above hb) ⟨6,[],a,0,[]⟩ rfl hl;clear h hb;unfold aH kn at HA;simp only at HA;unfold aH;go_enter func48,ntmps48;go_wp2_with fail;refine Calls.mono HC.out ?_;rintro e w' ⟨v',rfl,rfl,hd⟩;unfold cz at hd;subst hd;have a1:(Instr.typeAssert (.iface 155 (.agg #[.int .i64 a])) 58 150 true).run prog w'=_:=az w' oz xn (by decide);have a2:(Instr.typeAssert (.iface 155 (.agg #[.int .i64 a])) 58 163 true).run prog w'=_:=az w' mV zeroV (by decide);have a3:(Instr.typeAssert (.iface 155 (.agg #[.int .i64 a])) 58 158 true).run prog w'=_:=az w' s9 CY (by decide);have a4:(Instr.typeAssert (.iface 155 (.agg #[.int .i64 a])) 58 168 true).run prog w'=_:=az w' xo Hb (by decide);have a5:(Instr.typeAssert (.iface 155 (.agg #[.int .i64 a])) 58 153 true).run prog w'=_:=az w' AY Fs (by decide);have a6:(Instr.typeAssert (.iface 155 (.agg #[.int .i64 a])) 58 155 true).run prog w'=_:=dH w' AZ;clear HC;go_wp2_with fail;refine Calls.mono HA.out ?_;rintro e w1 ⟨rfl,s8⟩;have HG:Hid _:=Grown.above s8 HB.out;clear s8 HA HB;go_wp2_with fail;go_ret;exact⟨rfl,HG.out⟩
theorem PK (a:Int)(h:ez w0 w G M κ E g bS nv)(hl:g.nodes.length+1≤1000000)(HC:Hid (Calls prog 78 #[v] w λe w'=>∃v',e=.returned v'∧w'=w∧cz lo K L w0 E (.si a) v')):Calls prog 48 #[aH G,v] w λe w'=>e=.returned (.int .i64 (g.nodes.length:Nat))∧Grown w0 w w' G M κ E bS nv (g.add ⟨7,[],a,0,[]⟩):=by
 have hb:Below w.heap.size w (w.alloc (.cells #[.int .i64 a] 157)):=(Below.refl _ _).alloc (zaa _) _;have HB:Hid _:=hb;have HA:Hid _:=kO (h.above hb) ⟨7,[],a,0,[]⟩ rfl hl;clear h hb;unfold aH kn at HA;simp only at HA;unfold aH;go_enter func48,ntmps48;go_wp2_with fail;refine Calls.mono HC.out ?_;rintro e w' ⟨v',rfl,rfl,hd⟩;unfold cz at hd;subst hd;have a1:(Instr.typeAssert (.iface 157 (.agg #[.int .i64 a])) 58 150 true).run prog w'=_:=az w' oz xn (by decide);have a2:(Instr.typeAssert (.iface 157 (.agg #[.int .i64 a])) 58 163 true).run prog w'=_:=az w' mV zeroV (by decide);have a3:(Instr.typeAssert (.iface 157 (.agg #[.int .i64 a])) 58 158 true).run prog w'=_:=az w' s9 CY (by decide);have a4:(Instr.typeAssert (.iface 157 (.agg #[.int .i64 a])) 58 168 true).run prog w'=_:=az w' xo Hb (by decide);have a5:(Instr.typeAssert (.iface 157 (.agg #[.int .i64 a])) 58 153 true).run prog w'=_:=az w' AY Fs (by decide);have a6:(Instr.typeAssert (.iface 157 (.agg #[.int .i64 a])) 58 155 true).run prog w'=_:=az w' AZ MI (by decide);have a7:(Instr.typeAssert (.iface 157 (.agg #[.int .i64 a])) 58 157 true).run prog w'=_:=dH w' MJ;clear HC;go_wp2_with fail;refine Calls.mono HA.out ?_;rintro e w1 ⟨rfl,s8⟩;have HG:Hid _:=Grown.above s8 HB.out;clear s8 HA HB;go_wp2_with fail;go_ret;exact⟨rfl,HG.out⟩
theorem PL (s:List UInt8)(hs:s.length≤1000000)(h:ez w0 w G M κ E g bS nv)(hl:g.nodes.length+1≤1000000)(HC:Hid (Calls prog 78 #[v] w λe w'=>∃v',e=.returned v'∧w'=w∧cz lo K L w0 E (.sym s) v')):Calls prog 48 #[aH G,v] w λe w'=>e=.returned (.int .i64 (g.nodes.length:Nat))∧Grown w0 w w' G M κ E bS nv (g.add ⟨4,s,0,0,[]⟩):=by
 have hb:Below w.heap.size w (w.alloc (.cells #[.string ⟨⟨s⟩⟩] 168)):=(Below.refl _ _).alloc (zaa _) _;have HCL:Hid _:=JF ⟨⟨s⟩⟩ (w.alloc (.cells #[.string ⟨⟨s⟩⟩] 168)) (by show s.length≤_;omega);have HB:Hid _:=hb;have HH:Hid _:=h;clear h hb;unfold aH;go_enter func48,ntmps48;go_wp2_with fail;refine Calls.mono HC.out ?_;rintro e w' ⟨v',rfl,rfl,hd⟩;unfold cz at hd;subst hd;have a1:(Instr.typeAssert (.iface 168 (.agg #[.string ⟨⟨s⟩⟩])) 58 150 true).run prog w'=_:=az w' oz xn (by decide);have a2:(Instr.typeAssert (.iface 168 (.agg #[.string ⟨⟨s⟩⟩])) 58 163 true).run prog w'=_:=az w' mV zeroV (by decide);have a3:(Instr.typeAssert (.iface 168 (.agg #[.string ⟨⟨s⟩⟩])) 58 158 true).run prog w'=_:=az w' s9 CY (by decide);have a4:(Instr.typeAssert (.iface 168 (.agg #[.string ⟨⟨s⟩⟩])) 58 168 true).run prog w'=_:=dH w' xo;clear HC;go_wp2_with fail;refine Calls.mono HCL.out ?_;rintro e w2 ⟨rfl,hb2⟩;have hb3:Below w'.heap.size w' w2:=⟨hb2.os.trans HB.out.os,hb2.tape.trans HB.out.tape,hb2.output.trans HB.out.output,zad HB.out.size hb2.size,λb hlt=>(hb2.block b (zaq hlt HB.out.size)).trans (HB.out.block b hlt)⟩;have iz:Hid _:=hb3;have HA:Hid _:=kO (ez.above HH.out hb3) ⟨4,s,0,0,[]⟩ rfl hl;clear hb2 hb3 HCL HB HH;unfold aH kn at HA;simp only at HA;go_wp2_with fail;refine Calls.mono HA.out ?_;rintro e w1 ⟨rfl,s8⟩;have HG:Hid _:=Grown.above s8 iz.out;clear s8 HA iz;go_wp2_with fail;go_ret;exact⟨rfl,HG.out⟩
end
section
variable {w0 w:World}{G M K lo:Nat}{L:List Int}{κ:Nat→HK}{E:Env}{g:mh}{bS:List Value}{nv v:Value}{root:Dt}
theorem df.len:∀{l:Dt} {vs:List Value},df lo K L w0 E l vs→vs.length=l.ql
 |.ck a l,vs,h=>by
  unfold df at h;obtain⟨v,r,rfl,_,h2⟩:=h;simp[Dt.ql,df.len h2]
 |.fj,vs,h=>by unfold df at h;subst h;rfl
 |.nil,_,h=>by unfold df at h;exact h.elim
 |.sym _,_,h=>by unfold df at h;exact h.elim
 |.num _ _,_,h=>by unfold df at h;exact h.elim
 |.eT _,_,h=>by unfold df at h;exact h.elim
 |.si _,_,h=>by unfold df at h;exact h.elim
 |.txt _ _,_,h=>by unfold df at h;exact h.elim
 |.pair _ _ _,_,h=>by unfold df at h;exact h.elim
 |.vec _ _,_,h=>by unfold df at h;exact h.elim
 |.put _ _,_,h=>by unfold df at h;exact h.elim
 |.ask _,_,h=>by unfold df at h;exact h.elim
theorem cz.iface:∀{d:Dt} {v:Value},cz lo K L w0 E d v→∃t y,v=.iface t y
 |.nil,v,h=>by unfold cz at h;exact⟨_,_,h⟩
 |.sym _,v,h=>by unfold cz at h;exact⟨_,_,h⟩
 |.num _ _,v,h=>by unfold cz at h;exact⟨_,_,h⟩
 |.eT _,v,h=>by unfold cz at h;exact⟨_,_,h⟩
 |.si _,v,h=>by unfold cz at h;exact⟨_,_,h⟩
 |.txt _ _,v,h=>by unfold cz at h;exact⟨_,_,h.2.2.1⟩
 |.pair _ _ _,v,h=>by unfold cz at h;exact⟨_,_,h.2.2.1⟩
 |.vec _ _,v,h=>by unfold cz at h;exact⟨_,_,h.2.2.1⟩
 |.put _ d,v,h=>by unfold cz at h;exact cz.iface (d:=d) h.2.2.2
 |.ask _,v,h=>by unfold cz at h;exact⟨_,_,h.2⟩
 |.fj,v,h=>by unfold cz at h;exact h.elim
 |.ck _ _,v,h=>by unfold cz at h;exact h.elim
theorem PM (i:Nat)(s:List UInt8)(hgr:mU w0 lo K L κ E root)(h:ez w0 w G M κ E g bS nv)(hm:gQ w0 K κ E g.met)(hl:g.nodes.length+1≤1000000)(HC:Hid (Calls prog 78 #[v] w λe w'=>∃v',e=.returned v'∧w'=w∧cz lo K L w0 E (.txt i s) v'))(k:Nat)(g':mh)
 (dJ:(match g.met.lookup i with|some k=>some (k,g)|none=>some (g.nodes.length,⟨g.nodes++[⟨3,s,0,0,[]⟩],(i,g.nodes.length)::g.met⟩))=some (k,g')):
 Calls prog 48 #[aH G,v] w λe w'=>e=.returned (.int .i64 (k:Nat))∧Grown w0 w w' G M κ E bS nv g'∧i<K∧qz w0 (κ i) (E.α i):=by
 have HH:Hid _:=h;have HM:Hid _:=hm;have DW:Hid _:=hgr;have HN:Hid _:=dJ;clear h hm hgr dJ;unfold aH;go_enter func48,ntmps48;go_wp2_with fail;refine Calls.mono HC.out ?_;rintro e w' ⟨v',rfl,rfl,hd⟩;unfold cz at hd;obtain⟨hi,-,rfl,hx⟩:=hd;have hk:κ i=.txt:=DW.out.kind i .txt hi ⟨_,hx⟩;have hat:qz w0 (κ i) (E.α i):=by rw[hk];exact⟨_,hx⟩
 have UG:Hid _:=hat
 have HT:Hid _:=MC HH.out HM.out DW.out.inj hi hk hx hl;unfold aH at HT ⊢;have a1:(Instr.typeAssert (.iface 158 (.pointer (some ⟨E.α i,0,none⟩))) 58 150 true).run prog w'=_:=az w' oz xn (by decide);have a2:(Instr.typeAssert (.iface 158 (.pointer (some ⟨E.α i,0,none⟩))) 58 163 true).run prog w'=_:=az w' mV zeroV (by decide);have a3:(Instr.typeAssert (.iface 158 (.pointer (some ⟨E.α i,0,none⟩))) 58 158 true).run prog w'=_:=dH w' s9;clear HC hx HH HM DW hat
 go_wp2_with fail;refine Calls.mono HT.out ?_;rintro e w1 ⟨k1,g1,hq,rfl,s8⟩;obtain⟨rfl,rfl⟩:k1=k∧g1=g':=by
  have:=hq.symm.trans HN.out;simp only[zap,zab]at this;exact this
 have HG:Hid _:=s8;clear hq s8 HT HN;go_wp2_with fail;go_ret;exact⟨rfl,HG.out,hi,UG.out⟩
theorem PN {n:Nat}(i:Nat)(l:Dt)(hgr:mU w0 lo K L κ E root)(ih:∀m,m≤n→xl w0 lo K L κ E root G M m)(h:ez w0 w G M κ E g bS nv)(hm:gQ w0 K κ E g.met)(cQ:b8 root (.vec i l)=true)(HC:Hid (Calls prog 78 #[v] w λe w'=>∃v',e=.returned v'∧w'=w∧cz lo K L w0 E (.vec i l) v'))(k:Nat)(g':mh)
 (dJ:(match g.met.lookup i with|some k=>some (k,g)|none=>(il root n l [] ⟨g.nodes++[⟨2,[],0,0,[]⟩],(i,g.nodes.length)::g.met⟩).map λy=>(g.nodes.length,{ y.2 with nodes:=di y.2.nodes g.nodes.length y.1 }))=some (k,g'))(hlen:g'.nodes.length≤999999):
 Calls prog 48 #[aH G,v] w λe w'=>e=.returned (.int .i64 (k:Nat))∧Grown w0 w w' G M κ E bS nv g'∧gQ w0 K κ E g'.met:=by
 have HH:Hid _:=h;have HM:Hid _:=hm;have DW:Hid _:=hgr;have JD:Hid _:=ih;have HN:Hid _:=dJ;simp only[b8,zac,decide_eq_true_eq]at cQ;clear h hm hgr ih dJ;unfold aH;go_enter func48,ntmps48;go_wp2_with fail;refine Calls.mono HC.out ?_;rintro e w' ⟨v',rfl,rfl,hd⟩;unfold cz at hd;obtain⟨hi,-,rfl,sl,vs,hx,hrow,W9⟩:=hd;have fW:=HH.out.low;have HT:Hid _:=xm DW.out JD.out HH.out HM.out hi (hk:= .vec) ⟨_,hx⟩ 2 l sl vs W9 cQ.2 (by rw[W9.len];exact cQ.1) (bH hrow (zaj _) λb _ hb=>fW.block b hb) k g' HN.out hlen;have hx1:=(fW.block (E.α i) (zae.1 hx).1).trans hx;have x0:w'.cell? ⟨E.α i,0,none⟩=some sl:=by simp[World.cell?,hx1]
 unfold kM aH at HT;unfold aH;simp only[HK.p]at HT;have a1:(Instr.typeAssert (.iface 163 (.pointer (some ⟨E.α i,0,none⟩))) 58 150 true).run prog w'=_:=az w' oz xn (by decide);have a2:(Instr.typeAssert (.iface 163 (.pointer (some ⟨E.α i,0,none⟩))) 58 163 true).run prog w'=_:=dH w' mV;clear HC hx HH HM DW JD HN fW hx1 hrow W9;go_wp2_with fail;refine Calls.mono HT.out ?_;rintro e w1 ⟨rfl,s8⟩;have HG:Hid _:=s8;clear s8 HT;go_wp2_with fail;go_ret;exact⟨rfl,HG.out⟩
theorem MK {n:Nat}(i:Nat)(a b:Dt)(hgr:mU w0 lo K L κ E root)(ih:∀m,m≤n→xl w0 lo K L κ E root G M m)(h:ez w0 w G M κ E g bS nv)(hm:gQ w0 K κ E g.met)(cQ:b8 root (.pair i a b)=true)(HC:Hid (Calls prog 78 #[v] w λe w'=>∃v',e=.returned v'∧w'=w∧cz lo K L w0 E (.pair i a b) v'))(k:Nat)(g':mh)
 (dJ:(match g.met.lookup i with|some k=>some (k,g)|none=>(il root n (.ck a (.ck b .fj)) [] ⟨g.nodes++[⟨1,[],0,0,[]⟩],(i,g.nodes.length)::g.met⟩).map λy=>(g.nodes.length,{ y.2 with nodes:=di y.2.nodes g.nodes.length y.1 }))=some (k,g'))(hlen:g'.nodes.length≤999999):
 Calls prog 48 #[aH G,v] w λe w'=>e=.returned (.int .i64 (k:Nat))∧Grown w0 w w' G M κ E bS nv g'∧gQ w0 K κ E g'.met:=by
 have mixed:prog.follows Departure.mixedOrders=true:=by kernel_rfl
 have HH:Hid _:=h;have HM:Hid _:=hm;have DW:Hid _:=hgr;have JD:Hid _:=ih;have HN:Hid _:=dJ;simp only[b8,zac]at cQ;clear h hm hgr ih dJ;unfold aH;go_enter func48,ntmps48;go_wp2_with fail;refine Calls.mono HC.out ?_;rintro e w' ⟨v',rfl,rfl,hd⟩;unfold cz at hd;obtain⟨hi,-,rfl,va,vb,hx,WZ,hdb⟩:=hd;obtain⟨ta,ya,rfl⟩:=WZ.iface;obtain⟨tb,yb,rfl⟩:=hdb.iface;have fW:=HH.out.low;have hb:Below w'.heap.size w' ((w'.alloc (.cells #[.iface ta ya,.iface tb yb] 58)).drew):=((Below.refl _ _).alloc (zaa _) _).drew;have HB:Hid _:=hb;have HT:Hid _:=xm DW.out JD.out (ez.above HH.out hb) HM.out hi (hk:= .pair) ⟨_,hx⟩ 1 (.ck a (.ck b .fj)) (.slice (some ⟨w'.heap.size,0,none⟩) 2 2) [.iface ta ya,.iface tb yb] (by unfold df;exact⟨.iface ta ya,[.iface tb yb],rfl,WZ,by unfold df;exact⟨.iface tb yb,[],rfl,hdb,by unfold df;rfl⟩⟩) (by simp[b8,cQ]) (by simp) (bH (w:=w'.alloc (.cells #[.iface ta ya,.iface tb yb] 58)) (YP w' _ _) (zaj _) λ_ _ _=>rfl) k g' HN.out hlen;have hx1:=(fW.block (E.α i) (zae.1 hx).1).trans hx;have x0:w'.cell? ⟨E.α i,0,none⟩=some (.iface ta ya):=by simp[World.cell?,hx1]
 have x1:w'.cell? ⟨E.α i,1,none⟩=some (.iface tb yb):=by simp[World.cell?,hx1]
 unfold kM aH at HT;unfold aH;simp only[HK.p]at HT;have a1:(Instr.typeAssert (.iface 150 (.pointer (some ⟨E.α i,0,none⟩))) 58 150 true).run prog w'=_:=dH w' oz;clear HC hx HH HM DW JD HN fW hx1 WZ hdb hb;go_wp2_with fail
 go_region_with (refine Calls.mono HT.out ?_;rintro e w1 ⟨rfl,s8⟩;have HG:Hid _:=s8;clear s8)
 all_goals
  go_wp2_with fail;go_ret;exact⟨rfl,Grown.above HG.out.1 HB.out,HG.out.2⟩
end
end Go.Proofs.YtlhimdjkkiflhaaGreatDoor
namespace Go.Proofs.YtlhimdjkkiflhaaGreatDoor
open Go.RowKit Go.Loop
theorem ML {root:Dt}:∀{d:Dt} {v:Value} {w0:World} {lo K:Nat} {L:List Int} {E:Env},cz lo K L w0 E d v→b8 root d=true→(cO root 200000 d).hd=true
 |.ask m,_,_,_,_,_,_,_,h=>by simp only[b8,zac]at h;exact h.2
 |.put n x,_,_,_,_,_,_,_,h=>by simp only[b8,zac]at h;exact h.1
 |.nil,_,_,_,_,_,_,_,_=>rfl
 |.sym _,_,_,_,_,_,_,_,_=>rfl
 |.num _ _,_,_,_,_,_,_,_,_=>rfl
 |.eT _,_,_,_,_,_,_,_,_=>rfl
 |.si _,_,_,_,_,_,_,_,_=>rfl
 |.txt _ _,_,_,_,_,_,_,_,_=>rfl
 |.pair _ _ _,_,_,_,_,_,_,_,_=>rfl
 |.vec _ _,_,_,_,_,_,_,_,_=>rfl
 |.fj,_,_,_,_,_,_,hd,_=>by unfold cz at hd;exact hd.elim
 |.ck _ _,_,_,_,_,_,_,hd,_=>by unfold cz at hd;exact hd.elim
theorem gQ.cons {w0:World}{K:Nat}{κ:Nat→HK}{E:Env}{met:List (Nat×Nat)}(h:gQ w0 K κ E met){i k:Nat}(hi:i<K)(hat:qz w0 (κ i) (E.α i))(hq:met.lookup i=none):gQ w0 K κ E ((i,k)::met):=by
 refine⟨λp hp=>?_,?_⟩
 ·rcases zas.1 hp with rfl|hp
  ·exact⟨hi,hat⟩
  ·exact h.at_ p hp
 ·rw[zao,List.nodup_cons];refine⟨λyl=>?_,h.nd⟩;obtain⟨q,hq1,zf⟩:=zaH.1 yl;have:=List.lookup_eq_none_iff.1 hq q hq1;simp[zf]at this
section
variable {w0:World}{G M K lo:Nat}{L:List Int}{κ:Nat→HK}{E:Env}{root:Dt}
theorem CZ {n:Nat}(hgr:mU w0 lo K L κ E root)(ih:∀m,m≤n→xl w0 lo K L κ E root G M m):xl w0 lo K L κ E root G M (n+1):=by
 intro d v w g bS nv k g' cH cQ h hm dJ hlen;obtain⟨rv,G7⟩:=hgr.YN;have PO:=ML cH cQ;have HC:Hid _:=JB h.low G7 (iB hgr.good) 200000 d v cH (iB cQ) PO;have Xc:=oy hgr.good 200000 d cQ;have hgrow:=(ml root (n+1)).1 _ _ _ _ dJ;unfold kZ at dJ;cases ht:cO root 200000 d with
 |nil=>
  rw[ht]at dJ HC;cases dJ;exact(PG h (by simp[mh.add]at hlen;omega) HC).mono λe w' hx=>⟨hx.1,hx.2,hm⟩
 |sym s=>
  rw[ht]at dJ HC Xc;cases dJ;exact(PL s (by simpa[b8]using Xc) h (by simp[mh.add]at hlen;omega) HC).mono λe w' hx=>⟨hx.1,hx.2,hm⟩
 |num a b=>
  rw[ht]at dJ HC;cases dJ;exact(PH a b h (by simp[mh.add]at hlen;omega) HC).mono λe w' hx=>⟨hx.1,hx.2,hm⟩
 |eT a=>
  rw[ht]at dJ HC;cases dJ;exact(JG a h (by simp[mh.add]at hlen;omega) HC).mono λe w' hx=>⟨hx.1,hx.2,hm⟩
 |si a=>
  rw[ht]at dJ HC;cases dJ;exact(PK a h (by simp[mh.add]at hlen;omega) HC).mono λe w' hx=>⟨hx.1,hx.2,hm⟩
 |txt i s=>
  rw[ht]at dJ HC;have hl:g.nodes.length+1≤1000000:=by omega
  refine(PM i s hgr h hm hl HC k g' dJ).mono λe w' hx=>⟨hx.1,hx.2.1,?_⟩;cases hq:g.met.lookup i with
  |some k0=>simp only[hq]at dJ;cases dJ;exact hm
  |none=>simp only[hq]at dJ;cases dJ;exact hm.cons hx.2.2.1 hx.2.2.2 hq
 |pair i a b=>
  rw[ht]at dJ HC Xc;exact MK i a b hgr ih h hm Xc HC k g' dJ hlen
 |vec i l=>
  rw[ht]at dJ HC Xc;exact PN i l hgr ih h hm Xc HC k g' dJ hlen
 |put n x=>rw[ht]at PO;simp[Dt.hd]at PO
 |ask m=>rw[ht]at PO;simp[Dt.hd]at PO
 |fj=>rw[ht]at PO;simp[Dt.hd]at PO
 |ck a l=>rw[ht]at PO;simp[Dt.hd]at PO
theorem C0 (hgr:mU w0 lo K L κ E root):∀N n,n≤N→xl w0 lo K L κ E root G M n
 |0,n,h=>by
  obtain rfl:n=0:=by omega
  intro d v w g bS nv k g' _ _ _ _ dJ;simp[kZ]at dJ
 |N+1,n,h=>by
  have ih:=C0 hgr N;cases n with
  |zero=>exact ih 0 (zaj _)
  |succ n=>exact CZ hgr λm hm=>ih m (by omega)
end
end Go.Proofs.YtlhimdjkkiflhaaGreatDoor
namespace Go.Proofs.YtlhimdjkkiflhaaGreatDoor
open Go.Proofs.Tryz
open Go.RowKit Go.Loop
def cA (w:World)(lo:Nat)(nv:Value)(bS:List Value)(nodes:List pj):Prop:=
 w.ownsRow lo 45 5 nv nodes.length (uG nodes bS)∧bS.length=nodes.length∧∀(j:Nat) x sv,nodes[j]?=some x→bS[j]?=some sv→SN w lo sv x.subs
theorem C1 (w0:World)(E:Env):∃κ:Nat→HK,∀i h,qz w0 h (E.α i)→κ i=h:=by
 have hex:∀i,∃k:HK,∀h,qz w0 h (E.α i)→k=h:=λi=>by
  by_cases e:∃h,qz w0 h (E.α i)
  ·obtain⟨h,hh⟩:=e;exact⟨h,λh' WL=>hh.same WL⟩
  ·exact⟨.txt,λh hh=>absurd ⟨h,hh⟩ e⟩
 exact⟨λi=>Classical.choose (hex i),λi=>Classical.choose_spec (hex i)⟩
theorem C2 {lo K:Nat}{L:List Int}{E:Env}(w:World)(root:Dt)(v:Value)(hd:cz lo K L w E root v)(cQ:b8 root root=true)(xk:∀i j,i<K→j<K→E.α i=E.α j→i=j)(f:Nat)(k:Nat)(g':mh)(dJ:kZ root f root ⟨[],[]⟩=some (k,g'))(hlen:g'.nodes.length≤999999):Calls prog 30 #[v] w λe w'=>∃nv bS,e=.returned nv∧cA w' w.heap.size nv bS g'.nodes∧Below w.heap.size w w':=by
 obtain⟨κ,Xb⟩:=C1 w E;have hgr:mU w lo K L κ E root:=⟨⟨v,hd⟩,cQ,xk,λi h _ hh=>Xb i h hh⟩;have hb2:Below w.heap.size w ((w.alloc (.map #[] 0)).alloc (.cells #[.slice none 0 0,.map (some w.heap.size)] 100)):=((Below.refl _ w).alloc (zaa _) _).alloc (by simp) _;have hG:ez w ((w.alloc (.map #[] 0)).alloc (.cells #[.slice none 0 0,.map (some w.heap.size)] 100)) (w.heap.size+1) w.heap.size κ E ⟨[],[]⟩ [] (.slice none 0 0):=
  ⟨by omega,by omega,zaa _,hb2,ed w _ _,World.ownsRow_nil _ _ _ _,⟨#[],0,(Lib.alloc_old _ _ _ (by simp)).trans (heap_alloc_new w _),rfl⟩,rfl,λj x sv h=>(by simp at h)⟩
 have HN:Hid _:=C0 hgr f f (zaa _) root v _ ⟨[],[]⟩ [] (.slice none 0 0) k g' hd cQ hG ⟨λp hp=>(by cases hp),List.nodup_nil⟩ dJ hlen;have hmk:(Instr.makeMap 98 none).run prog w=.ok (.map (some w.heap.size)) (w.alloc (.map #[] 0)):=rfl;clear hgr hb2 hG hd cQ xk dJ;unfold aH at HN;go_enter func30,ntmps30;go_wp2_with fail;refine Calls.mono HN.out ?_;rintro e w1 ⟨rfl,⟨bS,nv,hG,-,-,-⟩,-⟩;have HF:Hid (cA w1 w.heap.size nv bS g'.nodes∧Below w.heap.size w w1):=⟨⟨hG.row,hG.len,hG.subs⟩,hG.low⟩;have y0:w1.cell? ⟨w.heap.size+1,0,none⟩=some nv:=by
  have hblk:=hG.blk;simp[World.cell?,hblk]
 clear hG HN;go_wp2_with fail;go_ret;exact⟨nv,bS,rfl,HF.out⟩
end Go.Proofs.YtlhimdjkkiflhaaGreatDoor
