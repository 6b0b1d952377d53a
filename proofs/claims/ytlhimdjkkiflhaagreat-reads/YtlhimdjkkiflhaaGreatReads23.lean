import Derived.Deep.OwnRows
import Derived.Deep.Cut
import Derived.Deep.RegionWith
import Derived.Test.YtlhimdjkkiflhaaGreatReads22
set_option maxHeartbeats 8000000
set_option maxRecDepth 100000
open Go.Value renaming int→Γ
open Go.IntKind renaming i64→Δ
open Go.Instr renaming typeAssert→Θ
open Go renaming Value→Λ,World→Ξ,Calls→Φ,madeCells→Ω
open Go.RowKit renaming Below→ζ
namespace Go.Proofs.YtlhimdjkkiflhaaGreat
open Go.Proofs.Tryz
open Go.RowKit Go.Loop
def gQ (acc:List Nat)(n:Nat):Array Λ:=(acc.map (λk:Nat=>Λ.int .i64 (k:Int))++List.replicate (n-acc.length) (Λ.int .i64 0)).toArray
section
variable {w0 w:Ξ}{G M K:Nat}{κ:Nat→HK}{E:Env}{g:jF}{ay:List Λ}{nv:Λ}
theorem ei.other (h:ei w0 w G M κ E g ay nv){B:Nat}{c:Array Λ}(hB:w.heap[B]?=some (.cells c 3))(KE:w0.heap.size≤B)(hn:∀sv∈ay,sv.ownBlock≠some B)(j:Nat)(v:Λ):ei w0 (w.setCell ⟨B,j,none⟩ v) G M κ E g ay nv:=by
 have ho:∀b,b≠B→(w.setCell ⟨B,j,none⟩ v).heap[b]?=w.heap[b]?:=λb hb=>zay _ _ _ _ hb;obtain⟨es,cl,hm,TU⟩:=h.map;refine⟨h.gm,h.VG,h.VH,⟨h.low.os,h.low.tape,h.low.output,by have:=h.low.size;simpa using this,λb hb=>(ho b (by omega)).trans (h.low.block b hb)⟩,(ho G (λe=>by rw[←e,h.blk]at hB;simp at hB)).trans h.blk,?_,⟨es,cl,(ho M (λe=>by rw[←e,hm]at hB;simp at hB)).trans hm,TU⟩,h.len,λi x sv hx ml=>?_⟩
 ·refine⟨h.row.1,h.row.2.imp id ?_⟩;rintro ⟨b,cp,cur,q1,q2,q3,q4⟩;exact⟨b,cp,cur,q1,q2,(ho b (λe=>by rw[←e,q3]at hB;simp at hB)).trans q3,q4⟩
 ·rcases h.subs i x sv hx ml with q|⟨b,q1,q2,q3⟩
  ·exact .inl q
  ·exact .inr ⟨b,q1,q2,(ho b (λe=>hn sv (zbo ml) (by rw[q1,←e];rfl))).trans q3⟩
theorem F4 {acc:List Nat}{n:Nat}(h:acc.length<n)(k:Nat):(gQ acc n).setIfInBounds acc.length (Γ Δ (k:Int))=gQ (acc++[k]) n:=by
 unfold gQ;obtain⟨r,hr⟩:∃r,n-acc.length=r+1:=⟨n-acc.length-1,by omega⟩;have ug:n-(acc++[k]).length=r:=by simp;omega
 rw[hr,ug,List.replicate_succ];apply Array.ext';simp
theorem DD {acc:List Nat}{n:Nat}(h:acc.length=n):gQ acc n=(acc.map λk:Nat=>Λ.int .i64 (k:Int)).toArray:=by
 unfold gQ;rw[h,Nat.sub_self];simp
theorem F5 {acc:List Nat}{n j:Nat}(h:j<n)(ha:acc.length≤n):∃v,(gQ acc n)[j]?=some v:=by
 have:j<(gQ acc n).size:=by simp[gQ];omega
 exact⟨_,zaE this⟩
theorem Qj {α:Type}{l:List α}{j:Nat}{x:α}{r:List α}(h:l.drop j=x::r):l[j]?=some x∧l.drop (j+1)=r:=by
 constructor
 ·rw[←List.head?_drop,h];rfl
 ·rw[←List.tail_drop,h];rfl
theorem DF {lo:Nat}{L:List Int}{root:Dt}{n:Nat}(ih:∀m,m≤n→xx w0 lo K L κ E root G M m)(wb w:Ξ)(JY:List Λ)(OB:Λ)(at_ B:Nat)(hv:Λ)(vs:List Λ)(l:Dt)(g1 g2:jF)(cA:List Λ)(fU:Λ)(ks:List Nat)
 (df:iQ root n l [] g1=some (ks,g2))(hlen:g2.nodes.length≤999999)(hat:at_<g1.nodes.length)(Ok:vs.length≤1000)(hD:cT lo K L w0 E l vs)(dm:bp root l=true)(hG:ei w0 w G M κ E g1 cA fU)(hM:gG w0 K κ E g1.met)(hK:jL G M OB.ownBlock wb w)
 (Si:fU.ownBlock=OB.ownBlock∨∃b,fU.ownBlock=some b∧wb.heap.size≤b)(hns:n9 wb JY cA)(hB:w.heap[B]?=some (.cells (gQ [] vs.length) 3))(hBw:wb.heap.size≤B)(VI:w0.heap.size≤B)(hBn:∀sv∈cA,sv.ownBlock≠some B)(hrow:w.ownsRow 0 31 1 hv vs.length vs)
 (x1 x2 x4 x5 x6 x7 x8 x9 x10 x13 x14 x15 x16 x17 x18 x19 x20 x21 x22 x23 x24 x25 x26 x27 x28 x29 x30 x31 x32 x33 x34 x35 x36 x37 x38 x39 x40 x41 x42 x43 x44 x45 x46 x47 x48 x49 x50 x51 x52 x53 x54 x55 x56 x57 x58 x59 x60 x61:Λ):
 (bS (bS (bS (bS (bS (f55.body.getD .skip)))))).wp prog (bodyPost prog f55 λe w'=>e=.returned (Γ Δ (at_:Nat))∧Grown w0 wb w' G M κ E JY OB { g2 with nodes:=bP g2.nodes at_ ks }∧gG w0 K κ E g2.met) ⟨#[.pointer (some ⟨G,0,none⟩),x1,x2,hv,x4,x5,x6,x7,x8,x9,x10,Γ Δ (at_:Nat),.slice (some ⟨B,0,none⟩) vs.length vs.length,x13,x14,x15,x16,x17,x18,x19,x20,x21,x22,x23,x24,x25,x26,x27,x28,x29,x30,x31,x32,x33,x34,x35,x36,x37,x38,x39,x40,x41,x42,x43,x44,x45,x46,x47,x48,x49,x50,x51,x52,x53,x54,x55,x56,x57,x58,x59,x60,x61],[]⟩ w:=by
 obtain⟨ha,hc,rfl⟩:=aw hrow;have HI:Hid _:=ih;have H0:Hid (∃(m:Nat) (l':Dt) (acc:List Nat) (gj:jF) (tM:List Λ) (Hu:Λ),(Γ Δ 0:Λ)=Γ Δ (acc.length:Nat)∧acc.length≤vs.length∧m≤n∧at_<gj.nodes.length∧Hid (iQ root m l' acc gj=some (ks,g2))∧Hid (cT lo K L w0 E l' (vs.drop acc.length))∧Hid (bp root l'=true)∧Hid (ei w0 w G M κ E gj tM Hu)∧Hid (gG w0 K κ E gj.met)∧Hid (jL G M OB.ownBlock wb w)∧Hid (Hu.ownBlock=OB.ownBlock∨∃b,Hu.ownBlock=some b∧wb.heap.size≤b)∧Hid (n9 wb JY tM)∧Hid (w.heap[B]?=some (.cells (gQ acc vs.length) 3))∧Hid (∀sv∈tM,sv.ownBlock≠some B)∧Hid (w.ownsRow 0 31 1 (.slice ha vs.length hc) vs.length vs)):=
  ⟨n,l,[],g1,cA,fU,rfl,zap _,zab _,hat,df,hD,dm,hG,hM,hK,Si,hns,hB,hBn,hrow⟩
 clear ih df hat hD dm hG hM hK Si hns hB hBn hrow;dsimp only[f55,bS,Option.getD];go_wp2_with fail;go_loopw [41] (λsv wr=>∃(m:Nat) (l':Dt) (acc:List Nat) (gj:jF) (tM:List Λ) (Hu:Λ),sv=Γ Δ (acc.length:Nat)∧acc.length≤vs.length∧m≤n∧at_<gj.nodes.length∧Hid (iQ root m l' acc gj=some (ks,g2))∧Hid (cT lo K L w0 E l' (vs.drop acc.length))∧Hid (bp root l'=true)∧Hid (ei w0 wr G M κ E gj tM Hu)∧Hid (gG w0 K κ E gj.met)∧Hid (jL G M OB.ownBlock wb wr)∧Hid (Hu.ownBlock=OB.ownBlock∨∃b,Hu.ownBlock=some b∧wb.heap.size≤b)∧Hid (n9 wb JY tM)∧Hid (wr.heap[B]?=some (.cells (gQ acc vs.length) 3))∧Hid (∀sv∈tM,sv.ownBlock≠some B)∧Hid (wr.ownsRow 0 31 1 (.slice ha vs.length hc) vs.length vs)) (λsv _=>vs.length-(intOf sv).toNat)
 case atStart=>exact H0.out
 case round=>
  obtain⟨m,l',acc,gj,tM,Hu,rfl,ac5,hm,hat,HN,HD,OC,HG,HM,HK,VJ,HNS,HB,HBN,ig⟩:=hrel;have hBl:B<wr.heap.size:=(zag.1 HB.out).1;have hnG:B≠G:=λe=>by have h1:=HB.out;rw[e,HG.out.blk]at h1;simp at h1
  have hnM:B≠M:=λe=>by obtain⟨es,c,h2,-⟩:=HG.out.map;have h1:=HB.out;rw[e,h2]at h1;simp at h1
  have hnN:=ei.fA HG.out B _ HB.out (λcur e=>by simp at e);by_cases hlt:acc.length<vs.length
  ·obtain⟨x,r,yt⟩:∃x r,vs.drop acc.length=x::r:=by
    cases hq:vs.drop acc.length with
    |nil=>simp at hq;omega
    |cons x r=>exact⟨x,r,rfl⟩
   obtain⟨hx,hr⟩:=Qj yt;have cy:=HD.out;rw[yt]at cy;obtain⟨a,l2,rfl,VK,VL⟩:∃a l2,l'=.bD a l2∧bX lo K L w0 E a x∧cT lo K L w0 E l2 r:=by
    cases l'<;>unfold cT at cy<;>first|exact cy.elim|(cases cy;done)|skip
    rename_i a l2;obtain⟨v,r',e,h1,h2⟩:=cy;cases e;exact⟨a,l2,rfl,h1,h2⟩
   have hgd:=OC.out;simp only[bp,zai]at hgd;obtain⟨m',rfl⟩:∃m',m=m'+1:=by
    cases m with
    |zero=>have h1:=HN.out;simp[iQ]at h1
    |succ m'=>exact⟨m',rfl⟩
   have hN:=HN.out;unfold iQ at hN;obtain⟨⟨k1,g'⟩,hN1,VM⟩:=zaJ.1 hN;have IP:=(l8 root m').2 _ _ _ _ _ VM;have aes:=(l8 root m').1 _ _ _ _ hN1;have HC:Hid _:=HI.out m' (by omega) a x wr gj tM Hu k1 g' VK hgd.1 HG.out HM.out hN1 (by simp at IP;omega);obtain⟨hb,cap,cur,hhv,q1,q2,q3⟩:∃hb cap cur,Λ.slice ha vs.length hc=.slice (some ⟨hb,0,none⟩) vs.length cap∧0≤hb∧wr.heap[hb]?=some (.cells cur 31)∧True:=by
    rcases ig.out.2 with⟨e,h0⟩|⟨hb,cap,cur,e,p1,p2,_⟩
    ·omega
    ·exact⟨hb,cap,cur,e,p1,p2,trivial⟩
   obtain rfl:ha=some ⟨hb,0,none⟩:=by cases hhv;rfl
   have cx:wr.cell? ⟨hb,acc.length,none⟩=some x:=by
    rw[Ξ.ownsRow.cellAt ig.out acc.length (by omega)];exact hx
   have hbl:hb<wr.heap.size:=(zag.1 q2).1;have hbG:hb≠G:=λe=>by rw[e,HG.out.blk]at q2;simp at q2
   have hbM:hb≠M:=λe=>by obtain⟨es,c,h2,-⟩:=HG.out.map;rw[e,h2]at q2;simp at q2
   have hbN:=ei.fA HG.out hb _ q2 (λcur e=>by simp at e);have aet:(acc.length:Int)<(vs.length:Int):=by omega
   have H2:Hid _:=VM;have HDL:Hid _:=VL;have HR:Hid _:=hr;have HGL:Hid _:=hgd.2;have Yu:Hid _:=q2;clear hN hN1 VM VK VL cy hgd hhv q1 q2 q3 yt hx hr;unfold ai at HC;go_wp2_with fail;refine zae HC.out ?_;clear HC;rintro e w2 ⟨rfl,⟨ie,lM,hG2,hK2,YE,TW⟩,GG⟩;have hs2:=hK2.size;have DG:=(hK2.block B hBl hnG hnM hnN).trans HB.out;have hb2:=(hK2.block hb hbl hbG hbM hbN).trans Yu.out;have TX:∀sv∈ie,sv.ownBlock≠some B:=λsv ml e=>by
    rcases TW sv ml B e with⟨sv0,h1,h2⟩|h1
    ·exact HBN.out sv0 h1 h2
    ·omega
   obtain⟨v0,hv0⟩:=F5 (acc:=acc) hlt ac5;have cB:w2.cell? ⟨B,acc.length,none⟩=some v0:=by simp[Ξ.cell?,DG,hv0]
   have fB:w2.frozen? ⟨B,acc.length,none⟩=false:=by simp[Ξ.frozen?,DG]
   have rN:Hid (∃(m:Nat) (l':Dt) (ML:List Nat) (gj:jF) (tM:List Λ) (Hu:Λ),(Λ.int .i64 ((acc.length:Int)+1))=Γ Δ (ML.length:Nat)∧ML.length≤vs.length∧m≤n∧at_<gj.nodes.length∧Hid (iQ root m l' ML gj=some (ks,g2))∧Hid (cT lo K L w0 E l' (vs.drop ML.length))∧Hid (bp root l'=true)∧Hid (ei w0 (w2.setCell ⟨B,acc.length,none⟩ (Γ Δ k1)) G M κ E gj tM Hu)∧Hid (gG w0 K κ E gj.met)∧Hid (jL G M OB.ownBlock wb (w2.setCell ⟨B,acc.length,none⟩ (Γ Δ k1)))∧Hid (Hu.ownBlock=OB.ownBlock∨∃b,Hu.ownBlock=some b∧wb.heap.size≤b)∧Hid (n9 wb JY tM)∧Hid ((w2.setCell ⟨B,acc.length,none⟩ (Γ Δ k1)).heap[B]?=some (.cells (gQ ML vs.length) 3))∧Hid (∀sv∈tM,sv.ownBlock≠some B)∧Hid ((w2.setCell ⟨B,acc.length,none⟩ (Γ Δ k1)).ownsRow 0 31 1 (.slice (some ⟨hb,0,none⟩) vs.length hc) vs.length vs)):=by
    have hws:=HK.out.size;refine⟨m',l2,acc++[k1],g',ie,lM,by simp,by simp;omega,by omega,by omega,H2.out,?_,HGL.out,ei.other hG2 DG VI TX _ _,GG,?_,?_,λsv ml b hb'=>?_,?_,TX,?_⟩
    ·show cT lo K L w0 E l2 (vs.drop (acc++[k1]).length);rw[zaT];show cT lo K L w0 E l2 (vs.drop (acc.length+1));rw[HR.out];exact HDL.out
    ·exact jL.above (jL.put HK.out hK2 VJ.out) hBw _ _
    ·rcases YE with e|⟨b,e,Ow⟩
     ·rcases VJ.out with e2|⟨b,e2,Ow⟩
      ·exact .inl (e.trans e2)
      ·exact .inr ⟨b,e.trans e2,Ow⟩
     ·exact .inr ⟨b,e,by omega⟩
    ·rcases TW sv ml b hb' with⟨sv0,h1,h2⟩|h1
     ·exact HNS.out sv0 h1 b h2
     ·exact .inr (by omega)
    ·show _=_;rw[←F4 hlt];exact bk DG _ _
    ·have hrow:=ig.out;refine⟨hrow.1,hrow.2.imp id ?_⟩;rintro ⟨b,cp,cu,p1,p2,p3,p4⟩;have eb:b=hb:=by cases p1;rfl
     subst eb;have hne:b≠B:=λe=>by rw[e,DG]at hb2;simp at hb2
     exact⟨b,cp,cu,p1,p2,(zay _ _ _ _ hne).trans ((hK2.block b hbl hbG hbM hbN).trans p3),p4⟩
   clear hG2 hK2 YE TW GG DG hb2 TX hv0 HN HD OC HG HM HK VJ HNS HB HBN ig H2 HDL HR HGL Yu;go_wp2_with fail;exact⟨rN.out,by simp[intOf];omega⟩
  ·have he:acc.length=vs.length:=by omega
   have ft:¬((acc.length:Int)<(vs.length:Int)):=by omega
   obtain⟨rfl,RF,hg2⟩:l'=.ee∧ks=acc∧g2=gj:=by
    have cy:=HD.out;rw[he,zcg]at cy;have hl:l'=.ee:=by
     cases l'<;>unfold cT at cy<;>first|rfl|exact cy.elim|skip
     obtain⟨v,r',e,-⟩:=cy;cases e
    subst hl;have hN:=HN.out;cases m with
    |zero=>simp[iQ]at hN
    |succ m'=>
     unfold iQ at hN;cases hN;exact⟨rfl,rfl,rfl⟩
   have Pu:=HB.out;rw[DD he]at Pu;obtain⟨nb,aeu,Si,⟨sv0,hc0⟩,hf0,Yd,hK3⟩:=ei.sub HG.out hat VI Pu;obtain⟨y0,y1⟩:wr.cell? ⟨G,0,none⟩=some Hu∧wr.cell? ⟨G,1,none⟩=some (.map (some M)):=by
    have hblk:=HG.out.blk;constructor<;>simp[Ξ.cell?,hblk]
   rw[he]at Yd hK3;have pC:Hid (Grown w0 wb (wr.setCell ⟨nb,at_*5+4,none⟩ (.slice (some ⟨B,0,none⟩) vs.length vs.length)) G M κ E JY OB { g2 with nodes:=bP g2.nodes at_ ks }∧gG w0 K κ E g2.met):=by
    subst RF hg2;refine⟨⟨_,_,Yd,jL.put HK.out hK3 VJ.out,VJ.out,λsv ml b hb'=>?_⟩,HM.out⟩;rcases List.mem_or_eq_of_mem_set ml with h1|h1
    ·exact HNS.out sv h1 b hb'
    ·subst h1;cases hb';exact .inr hBw
   subst Si;have aev:(at_:Int)<(gj.nodes.length:Int):=by omega
   clear Yd hK3 Pu HN HD OC HG HM HK VJ HNS HB HBN ig RF hg2;go_wp2_with fail;go_ret;exact⟨rfl,pC.out⟩
end
theorem DI (n:Nat):Ω #[Γ Δ 0] n=gQ [] n:=by
 unfold Ω gQ;apply Array.ext
 ·simp
 ·intro i h1 h2;simp[Nat.mod_one]
section
variable {w0 w:Ξ}{G M K:Nat}{κ:Nat→HK}{E:Env}{g:jF}{ay:List Λ}{nv:Λ}
theorem ei.above {w':Ξ}(h:ei w0 w G M κ E g ay nv)(hb:ζ w.heap.size w w'):ei w0 w' G M κ E g ay nv:=by
 obtain⟨es,c,hm,TU⟩:=h.map;have hl:=h.low.size;refine⟨h.gm,h.VG,h.VH,⟨hb.os.trans h.low.os,hb.tape.trans h.low.tape,hb.output.trans h.low.output,zaj hl hb.size,λb hb'=>(hb.block b (by omega)).trans (h.low.block b hb')⟩,(hb.block G (zag.1 h.blk).1).trans h.blk,aT h.row (zab _) λb _ hlt=>hb.block b hlt,⟨es,c,(hb.block M (zag.1 hm).1).trans hm,TU⟩,h.len,λj x sv hx ml=>?_⟩;rcases h.subs j x sv hx ml with q|⟨b,q1,q2,q3⟩
 ·exact .inl q
 ·exact .inr ⟨b,q1,q2,(hb.block b (zag.1 q3).1).trans q3⟩
theorem ei.sub_lt (h:ei w0 w G M κ E g ay nv):∀sv∈ay,∀b,sv.ownBlock=some b→b<w.heap.size:=by
 intro sv ml b hb;obtain⟨j,hj⟩:=List.mem_iff_getElem?.1 ml;have yi:j<g.nodes.length:=by rw[←h.len];exact(zaD.1 hj).1
 rcases h.subs j _ sv (zaP yi) hj with⟨rfl,_⟩|⟨b',rfl,_,q3⟩
 ·cases hb
 ·cases hb;exact(zag.1 q3).1
theorem xz {lo:Nat}{L:List Int}{root:Dt}{n:Nat}(hgr:mJ w0 lo K L κ E root)(ih:∀m,m≤n→xx w0 lo K L κ E root G M m)(h:ei w0 w G M κ E g ay nv)(hm:gG w0 K κ E g.met){i:Nat}(hi:i<K){hk:HK}(Sj:qB w0 hk (E.α i))(c:Nat)
 (l:Dt)(hv:Λ)(vs:List Λ)(hD:cT lo K L w0 E l vs)(dm:bp root l=true)(Ok:vs.length≤1000)(hrow:w.ownsRow 0 31 1 hv vs.length vs)(k:Nat)(g':jF)
 (df:(match g.met.lookup i with|some k=>some (k,g)|none=>(iQ root n l [] ⟨g.nodes++[⟨c,[],0,0,[]⟩],(i,g.nodes.length)::g.met⟩).map λy=>(g.nodes.length,{ y.2 with nodes:=bP y.2.nodes g.nodes.length y.1 }))=some (k,g'))(hlen:g'.nodes.length≤999999):
 Φ prog 55 #[ai G,kM hk (E.α i),Γ Δ c,hv] w λe w'=>e=.returned (Γ Δ (k:Nat))∧Grown w0 w w' G M κ E ay nv g'∧gG w0 K κ E g'.met:=by
 have VN:κ i=hk:=hgr.kind i hk hi Sj;have hat:qB w0 (κ i) (E.α i):=by rw[VN];exact Sj
 have cJ:=h.look hm hgr.inj hi hat
 obtain⟨ha,hc,rfl⟩:=aw hrow;obtain⟨g0,g1⟩:w.cell? ⟨G,0,none⟩=some nv∧w.cell? ⟨G,1,none⟩=some (.map (some M)):=by
  constructor<;>simp[Ξ.cell?,h.blk]
 cases hq:g.met.lookup i with
 |some k0=>
  rw[hq]at df;cases df;rw[hq,VN]at cJ;simp only[zbw,Option.isSome_some]at cJ;have HG:Hid _:=(⟨Grown.refl h,hm⟩:_∧_);clear h hm hat hD hrow dm;unfold kM ai at cJ ⊢;go_enter func55,ntmps55;go_wp2_with fail;go_ret;exact⟨rfl,HG.out⟩
 |none=>
  rw[hq]at df;obtain⟨⟨ks,g2⟩,hL,e⟩:=zav.1 df;cases e;have IP:=(l8 root n).2 _ _ _ _ _ hL;have YF:g2.nodes.length≤999999:=by simpa[bP]using hlen
  have sG:g.nodes.length+1≤1000000:=by simp at IP;omega
  rw[hq,VN]at cJ;simp only[zbH,Option.isSome_none]at cJ;have HC:Hid _:=kO h ⟨c,[],0,0,[]⟩ rfl sG;have Qk:=run_make_row' (P:=prog) 40 3 (Γ Δ 0) 8 underlying40 DC rfl .i64 .i64 vs.length (by omega) (by omega);have HH:Hid _:=h;have HM:Hid _:=hm;have EB:Hid _:=hgr;have TV:Hid _:=hat
  have HL:Hid _:=hL;have ig:Hid _:=hrow;have lI:Hid _:=ih;clear h hm hgr hat hL df hrow ih;unfold kM ai at cJ ⊢;unfold ai km at HC;simp only at HC;go_enter func55,ntmps55;go_wp2_with fail;refine zae HC.out ?_;rintro e w1 ⟨rfl,tN⟩;obtain⟨cA,fU,h1,k1,b1,s1⟩:=id tN;obtain⟨o,hput,hmap⟩:=xr h1.map i g.nodes.length (qB.low TV.out h1.low) (λp hp=>qB.low (HM.out.at_ p hp).2 h1.low) (λp hp e=>EB.out.inj i p.1 hi (HM.out.at_ p hp).1 e) HM.out.nd hq;obtain⟨cK,iT,h2,k2,b2,s2⟩:=Grown.met tN hmap;obtain⟨y0,y1⟩:w1.cell? ⟨G,0,none⟩=some fU∧w1.cell? ⟨G,1,none⟩=some (.map (some M)):=by
   constructor<;>simp[Ξ.cell?,h1.blk]
  rw[VN]at hput;unfold kM ai at hput;have GG:gG w0 K κ E ((i,g.nodes.length)::g.met):=by
   refine⟨λp hp=>?_,?_⟩
   ·rcases zaI.1 hp with rfl|hp
    ·exact⟨hi,TV.out⟩
    ·exact HM.out.at_ p hp
   ·rw[zaC,List.nodup_cons];refine⟨λyz=>?_,HM.out.nd⟩;obtain⟨q,YG,zC⟩:=zbN.1 yz;have:=List.lookup_eq_none_iff.1 hq q YG;simp[zC]at this
  have h1b:=h1.blk;generalize hw2:({ w1 with heap:=w1.heap.setIfInBounds M o }:Ξ)=w2 at *;have hs2:=k2.size;have mk2:=Qk w2;have hb3:ζ w2.heap.size w2 (w2.alloc (.cells (Ω #[Γ Δ 0] vs.length) 3)):=(zad _ _).alloc (zab _) _;have h3:=h2.above hb3;have Sk:Hid ((w2.alloc (.cells (Ω #[Γ Δ 0] vs.length) 3)).ownsRow 0 31 1 (.slice ha vs.length hc) vs.length vs):=by
   have hrow:=ig.out;refine⟨hrow.1,hrow.2.imp id ?_⟩;rintro ⟨b,cp,cu,p1,p2,p3,p4⟩;have hbl:b<w.heap.size:=(zag.1 p3).1;have hbG:b≠G:=λe=>by rw[e,HH.out.blk]at p3;simp at p3
   have hbM:b≠M:=λe=>by obtain⟨es,cl,q2,-⟩:=HH.out.map;rw[e,q2]at p3;simp at p3
   have hbN:=ei.fA HH.out b _ p3 (λcur e=>by simp at e);exact⟨b,cp,cu,p1,p2,(hb3.block b (by omega)).trans ((k2.block b hbl hbG hbM hbN).trans p3),p4⟩
  have uS:Hid (jL G M nv.ownBlock w (w2.alloc (.cells (Ω #[Γ Δ 0] vs.length) 3))):=k2.trans ((Kp.aF hb3).a _);have hw0:=h2.low.size;have HT:Hid _:=DF lI.out w (w2.alloc (.cells (Ω #[Γ Δ 0] vs.length) 3)) ay nv g.nodes.length w2.heap.size (.slice ha vs.length hc) vs l _ g2 cK iT ks HL.out YF (by simp) Ok hD dm h3 GG uS.out b2 s2 (by rw[zau,DI]) hs2 hw0 (λsv ml e=>by have:=h2.sub_lt sv ml _ e;omega) Sk.out;clear tN h1 k1 b1 s1 hmap h2 k2 b2 s2 hb3 h3 GG hw2 HC HL lI ig Sk uS HH HM EB TV Qk
  go_upto_region 6 with fail
  rename_i hK;have HKK:Hid _:=hK;clear hK;go_wp2_with fail;exact HKK.out _ _ (HT.out _ _ _ _ _ _ _ _ _ _ _ _ _ _ _ _ _ _ _ _ _ _ _ _ _ _ _ _ _ _ _ _ _ _ _ _ _ _ _ _ _ _ _ _ _ _ _ _ _ _ _ _ _ _ _ _ _ _)
end
theorem od:jW prog 122=true:=by kernel_rfl
theorem xA:(prog.info? 122).bind (·.zero)=some (.pointer none):=by kernel_rfl
theorem mK:jW prog 127=true:=by kernel_rfl
theorem zeroV:(prog.info? 127).bind (·.zero)=some (.pointer none):=by kernel_rfl
theorem tO:jW prog 130=true:=by kernel_rfl
theorem DJ:(prog.info? 130).bind (·.zero)=some (.pointer none):=by kernel_rfl
theorem xB:jW prog 133=true:=by kernel_rfl
theorem Hv:(prog.info? 133).bind (·.zero)=some (.agg #[.string ⟨#[]⟩]):=by kernel_rfl
theorem Bp:jW prog 136=true:=by kernel_rfl
theorem F6:(prog.info? 136).bind (·.zero)=some (.agg #[Γ Δ 0,Γ Δ 0]):=by kernel_rfl
theorem Bq:jW prog 138=true:=by kernel_rfl
theorem MM:(prog.info? 138).bind (·.zero)=some (.agg #[Γ Δ 0]):=by kernel_rfl
theorem MN:jW prog 140=true:=by kernel_rfl
theorem YH:(prog.info? 140).bind (·.zero)=some (.agg #[Γ Δ 0]):=by kernel_rfl
theorem JZ (s:ByteArray)(w:Ξ)(Tv:s.size≤281474976710656):Φ prog 58 #[.string s] w λe w'=>e=.returned (.string s)∧ζ w.heap.size w w':=by
 have HC:Hid _:=Tryz.stringslite_Clone s w Tv;go_enter func58,ntmps58;go_wp2_with fail;refine zae HC.out ?_;rintro e w1 ⟨rfl,hb⟩;have HB:Hid _:=hb;clear hb;go_wp2_with fail;go_ret;exact⟨rfl,HB.out⟩
section
variable {w0 w:Ξ}{G M K lo:Nat}{L:List Int}{κ:Nat→HK}{E:Env}{g:jF}{ay:List Λ}{nv v:Λ}
theorem Grown.above {w1 w2:Ξ}{g':jF}(h:Grown w0 w1 w2 G M κ E ay nv g')(hb:ζ w.heap.size w w1):Grown w0 w w2 G M κ E ay nv g':=by
 obtain⟨ie,lM,h1,h2,h3,h4⟩:=h;have hs:=hb.size;exact⟨ie,lM,h1,((Kp.aF hb).a _).trans h2,h3.imp id (λ⟨b,e,q⟩=>⟨b,e,by omega⟩),λsv ml b hb'=>(h4 sv ml b hb').imp id λq=>by omega⟩
theorem Ql (h:ei w0 w G M κ E g ay nv)(hl:g.nodes.length+1≤1000000)(HC:Hid (Φ prog 54 #[v] w λe w'=>∃v',e=.returned v'∧w'=w∧bX lo K L w0 E .nil v')):Φ prog 28 #[ai G,v] w λe w'=>e=.returned (Γ Δ (g.nodes.length:Nat))∧Grown w0 w w' G M κ E ay nv (g.add ⟨0,[],0,0,[]⟩):=by
 have HA:Hid _:=kO h ⟨0,[],0,0,[]⟩ rfl hl;clear h;unfold ai km at HA;simp only at HA;unfold ai;go_enter func28,ntmps28;go_wp2_with fail;refine zae HC.out ?_;rintro e w' ⟨v',rfl,rfl,hd⟩;unfold bX at hd;subst hd;have a1:(Θ (.iface 188 (.agg #[])) 31 122 true).run prog w'=_:=ak w' od xA (by decide);have a2:(Θ (.iface 188 (.agg #[])) 31 127 true).run prog w'=_:=ak w' mK zeroV (by decide);have a3:(Θ (.iface 188 (.agg #[])) 31 130 true).run prog w'=_:=ak w' tO DJ (by decide);have a4:(Θ (.iface 188 (.agg #[])) 31 133 true).run prog w'=_:=ak w' xB Hv (by decide);have a5:(Θ (.iface 188 (.agg #[])) 31 136 true).run prog w'=_:=ak w' Bp F6 (by decide);have a6:(Θ (.iface 188 (.agg #[])) 31 138 true).run prog w'=_:=ak w' Bq MM (by decide);have a7:(Θ (.iface 188 (.agg #[])) 31 140 true).run prog w'=_:=ak w' MN YH (by decide);clear HC;go_wp2_with fail;refine zae HA.out ?_;rintro e w1 ⟨rfl,tN⟩;have HG:Hid _:=tN;clear tN HA;go_wp2_with fail;go_ret;exact⟨rfl,HG.out⟩
end
section
variable {w0 w:Ξ}{G M K lo:Nat}{L:List Int}{κ:Nat→HK}{E:Env}{g:jF}{ay:List Λ}{nv v:Λ}
theorem Qm (a b:Int)(h:ei w0 w G M κ E g ay nv)(hl:g.nodes.length+1≤1000000)(HC:Hid (Φ prog 54 #[v] w λe w'=>∃v',e=.returned v'∧w'=w∧bX lo K L w0 E (.num a b) v')):Φ prog 28 #[ai G,v] w λe w'=>e=.returned (Γ Δ (g.nodes.length:Nat))∧Grown w0 w w' G M κ E ay nv (g.add ⟨5,[],a,b,[]⟩):=by
 have hb:ζ w.heap.size w (w.alloc (.cells #[Γ Δ a,Γ Δ b] 136)):=(zad _ _).alloc (zab _) _;have HB:Hid _:=hb;have HA:Hid _:=kO (h.above hb) ⟨5,[],a,b,[]⟩ rfl hl;clear h hb;unfold ai km at HA;simp only at HA;unfold ai;go_enter func28,ntmps28;go_wp2_with fail;refine zae HC.out ?_;rintro e w' ⟨v',rfl,rfl,hd⟩;unfold bX at hd;subst hd;have a1:(Θ (.iface 136 (.agg #[Γ Δ a,Γ Δ b])) 31 122 true).run prog w'=_:=ak w' od xA (by decide);have a2:(Θ (.iface 136 (.agg #[Γ Δ a,Γ Δ b])) 31 127 true).run prog w'=_:=ak w' mK zeroV (by decide);have a3:(Θ (.iface 136 (.agg #[Γ Δ a,Γ Δ b])) 31 130 true).run prog w'=_:=ak w' tO DJ (by decide);have a4:(Θ (.iface 136 (.agg #[Γ Δ a,Γ Δ b])) 31 133 true).run prog w'=_:=ak w' xB Hv (by decide);have a5:(Θ (.iface 136 (.agg #[Γ Δ a,Γ Δ b])) 31 136 true).run prog w'=_:=dB w' Bp;clear HC;go_wp2_with fail;refine zae HA.out ?_;rintro e w1 ⟨rfl,tN⟩;have HG:Hid _:=Grown.above tN HB.out;clear tN HA HB;go_wp2_with fail;go_ret;exact⟨rfl,HG.out⟩
theorem J0 (a:Int)(h:ei w0 w G M κ E g ay nv)(hl:g.nodes.length+1≤1000000)(HC:Hid (Φ prog 54 #[v] w λe w'=>∃v',e=.returned v'∧w'=w∧bX lo K L w0 E (.dI a) v')):Φ prog 28 #[ai G,v] w λe w'=>e=.returned (Γ Δ (g.nodes.length:Nat))∧Grown w0 w w' G M κ E ay nv (g.add ⟨6,[],a,0,[]⟩):=by
 have hb:ζ w.heap.size w (w.alloc (.cells #[Γ Δ a] 138)):=(zad _ _).alloc (zab _) _;have HB:Hid _:=hb;have HA:Hid _:=kO (h.above hb) ⟨6,[],a,0,[]⟩ rfl hl;clear h hb;unfold ai km at HA;simp only at HA;unfold ai;go_enter func28,ntmps28;go_wp2_with fail;refine zae HC.out ?_;rintro e w' ⟨v',rfl,rfl,hd⟩;unfold bX at hd;subst hd;have a1:(Θ (.iface 138 (.agg #[Γ Δ a])) 31 122 true).run prog w'=_:=ak w' od xA (by decide);have a2:(Θ (.iface 138 (.agg #[Γ Δ a])) 31 127 true).run prog w'=_:=ak w' mK zeroV (by decide);have a3:(Θ (.iface 138 (.agg #[Γ Δ a])) 31 130 true).run prog w'=_:=ak w' tO DJ (by decide);have a4:(Θ (.iface 138 (.agg #[Γ Δ a])) 31 133 true).run prog w'=_:=ak w' xB Hv (by decide);have a5:(Θ (.iface 138 (.agg #[Γ Δ a])) 31 136 true).run prog w'=_:=ak w' Bp F6 (by decide);have a6:(Θ (.iface 138 (.agg #[Γ Δ a])) 31 138 true).run prog w'=_:=dB w' Bq;clear HC;go_wp2_with fail;refine zae HA.out ?_;rintro e w1 ⟨rfl,tN⟩;have HG:Hid _:=Grown.above tN HB.out;clear tN HA HB;go_wp2_with fail;go_ret;exact⟨rfl,HG.out⟩
theorem Qn (a:Int)(h:ei w0 w G M κ E g ay nv)(hl:g.nodes.length+1≤1000000)(HC:Hid (Φ prog 54 #[v] w λe w'=>∃v',e=.returned v'∧w'=w∧bX lo K L w0 E (.oY a) v')):Φ prog 28 #[ai G,v] w λe w'=>e=.returned (Γ Δ (g.nodes.length:Nat))∧Grown w0 w w' G M κ E ay nv (g.add ⟨7,[],a,0,[]⟩):=by
 have hb:ζ w.heap.size w (w.alloc (.cells #[Γ Δ a] 140)):=(zad _ _).alloc (zab _) _;have HB:Hid _:=hb;have HA:Hid _:=kO (h.above hb) ⟨7,[],a,0,[]⟩ rfl hl;clear h hb;unfold ai km at HA;simp only at HA;unfold ai;go_enter func28,ntmps28;go_wp2_with fail;refine zae HC.out ?_;rintro e w' ⟨v',rfl,rfl,hd⟩;unfold bX at hd;subst hd;have a1:(Θ (.iface 140 (.agg #[Γ Δ a])) 31 122 true).run prog w'=_:=ak w' od xA (by decide);have a2:(Θ (.iface 140 (.agg #[Γ Δ a])) 31 127 true).run prog w'=_:=ak w' mK zeroV (by decide);have a3:(Θ (.iface 140 (.agg #[Γ Δ a])) 31 130 true).run prog w'=_:=ak w' tO DJ (by decide);have a4:(Θ (.iface 140 (.agg #[Γ Δ a])) 31 133 true).run prog w'=_:=ak w' xB Hv (by decide);have a5:(Θ (.iface 140 (.agg #[Γ Δ a])) 31 136 true).run prog w'=_:=ak w' Bp F6 (by decide);have a6:(Θ (.iface 140 (.agg #[Γ Δ a])) 31 138 true).run prog w'=_:=ak w' Bq MM (by decide);have a7:(Θ (.iface 140 (.agg #[Γ Δ a])) 31 140 true).run prog w'=_:=dB w' MN;clear HC;go_wp2_with fail;refine zae HA.out ?_;rintro e w1 ⟨rfl,tN⟩;have HG:Hid _:=Grown.above tN HB.out;clear tN HA HB;go_wp2_with fail;go_ret;exact⟨rfl,HG.out⟩
theorem Qo (s:List UInt8)(hs:s.length≤1000000)(h:ei w0 w G M κ E g ay nv)(hl:g.nodes.length+1≤1000000)(HC:Hid (Φ prog 54 #[v] w λe w'=>∃v',e=.returned v'∧w'=w∧bX lo K L w0 E (.sym s) v')):Φ prog 28 #[ai G,v] w λe w'=>e=.returned (Γ Δ (g.nodes.length:Nat))∧Grown w0 w w' G M κ E ay nv (g.add ⟨4,s,0,0,[]⟩):=by
 have hb:ζ w.heap.size w (w.alloc (.cells #[.string ⟨⟨s⟩⟩] 133)):=(zad _ _).alloc (zab _) _;have HCL:Hid _:=JZ ⟨⟨s⟩⟩ (w.alloc (.cells #[.string ⟨⟨s⟩⟩] 133)) (by show s.length≤_;omega);have HB:Hid _:=hb;have HH:Hid _:=h;clear h hb;unfold ai;go_enter func28,ntmps28;go_wp2_with fail;refine zae HC.out ?_;rintro e w' ⟨v',rfl,rfl,hd⟩;unfold bX at hd;subst hd;have a1:(Θ (.iface 133 (.agg #[.string ⟨⟨s⟩⟩])) 31 122 true).run prog w'=_:=ak w' od xA (by decide);have a2:(Θ (.iface 133 (.agg #[.string ⟨⟨s⟩⟩])) 31 127 true).run prog w'=_:=ak w' mK zeroV (by decide);have a3:(Θ (.iface 133 (.agg #[.string ⟨⟨s⟩⟩])) 31 130 true).run prog w'=_:=ak w' tO DJ (by decide);have a4:(Θ (.iface 133 (.agg #[.string ⟨⟨s⟩⟩])) 31 133 true).run prog w'=_:=dB w' xB;clear HC;go_wp2_with fail;refine zae HCL.out ?_;rintro e w2 ⟨rfl,hb2⟩;have hb3:ζ w'.heap.size w' w2:=⟨hb2.os.trans HB.out.os,hb2.tape.trans HB.out.tape,hb2.output.trans HB.out.output,zaj HB.out.size hb2.size,λb hlt=>(hb2.block b (zaH hlt HB.out.size)).trans (HB.out.block b hlt)⟩;have yK:Hid _:=hb3;have HA:Hid _:=kO (ei.above HH.out hb3) ⟨4,s,0,0,[]⟩ rfl hl;clear hb2 hb3 HCL HB HH;unfold ai km at HA;simp only at HA;go_wp2_with fail;refine zae HA.out ?_;rintro e w1 ⟨rfl,tN⟩;have HG:Hid _:=Grown.above tN yK.out;clear tN HA yK;go_wp2_with fail;go_ret;exact⟨rfl,HG.out⟩
end
section
variable {w0 w:Ξ}{G M K lo:Nat}{L:List Int}{κ:Nat→HK}{E:Env}{g:jF}{ay:List Λ}{nv v:Λ}{root:Dt}
theorem cT.len:∀{l:Dt} {vs:List Λ},cT lo K L w0 E l vs→vs.length=l.rP
 |.bD a l,vs,h=>by
  unfold cT at h;obtain⟨v,r,rfl,_,h2⟩:=h;simp[Dt.rP,cT.len h2]
 |.ee,vs,h=>by unfold cT at h;subst h;rfl
 |.nil,_,h=>by unfold cT at h;exact h.elim
 |.sym _,_,h=>by unfold cT at h;exact h.elim
 |.num _ _,_,h=>by unfold cT at h;exact h.elim
 |.dI _,_,h=>by unfold cT at h;exact h.elim
 |.oY _,_,h=>by unfold cT at h;exact h.elim
 |.txt _ _,_,h=>by unfold cT at h;exact h.elim
 |.pair _ _ _,_,h=>by unfold cT at h;exact h.elim
 |.vec _ _,_,h=>by unfold cT at h;exact h.elim
 |.put _ _,_,h=>by unfold cT at h;exact h.elim
 |.ask _,_,h=>by unfold cT at h;exact h.elim
theorem bX.iface:∀{d:Dt} {v:Λ},bX lo K L w0 E d v→∃t y,v=.iface t y
 |.nil,v,h=>by unfold bX at h;exact⟨_,_,h⟩
 |.sym _,v,h=>by unfold bX at h;exact⟨_,_,h⟩
 |.num _ _,v,h=>by unfold bX at h;exact⟨_,_,h⟩
 |.dI _,v,h=>by unfold bX at h;exact⟨_,_,h⟩
 |.oY _,v,h=>by unfold bX at h;exact⟨_,_,h⟩
 |.txt _ _,v,h=>by unfold bX at h;exact⟨_,_,h.2.2.1⟩
 |.pair _ _ _,v,h=>by unfold bX at h;exact⟨_,_,h.2.2.1⟩
 |.vec _ _,v,h=>by unfold bX at h;exact⟨_,_,h.2.2.1⟩
 |.put _ d,v,h=>by unfold bX at h;exact bX.iface (d:=d) h.2.2.2
 |.ask _,v,h=>by unfold bX at h;exact⟨_,_,h.2⟩
 |.ee,v,h=>by unfold bX at h;exact h.elim
 |.bD _ _,v,h=>by unfold bX at h;exact h.elim
theorem Qp (i:Nat)(s:List UInt8)(hgr:mJ w0 lo K L κ E root)(h:ei w0 w G M κ E g ay nv)(hm:gG w0 K κ E g.met)(hl:g.nodes.length+1≤1000000)(HC:Hid (Φ prog 54 #[v] w λe w'=>∃v',e=.returned v'∧w'=w∧bX lo K L w0 E (.txt i s) v'))(k:Nat)(g':jF)
 (df:(match g.met.lookup i with|some k=>some (k,g)|none=>some (g.nodes.length,⟨g.nodes++[⟨3,s,0,0,[]⟩],(i,g.nodes.length)::g.met⟩))=some (k,g')):
 Φ prog 28 #[ai G,v] w λe w'=>e=.returned (Γ Δ (k:Nat))∧Grown w0 w w' G M κ E ay nv g'∧i<K∧qB w0 (κ i) (E.α i):=by
 have HH:Hid _:=h;have HM:Hid _:=hm;have EB:Hid _:=hgr;have HN:Hid _:=df;clear h hm hgr df;unfold ai;go_enter func28,ntmps28;go_wp2_with fail;refine zae HC.out ?_;rintro e w' ⟨v',rfl,rfl,hd⟩;unfold bX at hd;obtain⟨hi,-,rfl,hx⟩:=hd;have hk:κ i=.txt:=EB.out.kind i .txt hi ⟨_,hx⟩;have hat:qB w0 (κ i) (E.α i):=by rw[hk];exact⟨_,hx⟩
 have TV:Hid _:=hat
 have HT:Hid _:=MJ HH.out HM.out EB.out.inj hi hk hx hl;unfold ai at HT ⊢;have a1:(Θ (.iface 130 (.pointer (some ⟨E.α i,0,none⟩))) 31 122 true).run prog w'=_:=ak w' od xA (by decide);have a2:(Θ (.iface 130 (.pointer (some ⟨E.α i,0,none⟩))) 31 127 true).run prog w'=_:=ak w' mK zeroV (by decide);have a3:(Θ (.iface 130 (.pointer (some ⟨E.α i,0,none⟩))) 31 130 true).run prog w'=_:=dB w' tO;clear HC hx HH HM EB hat
 go_wp2_with fail;refine zae HT.out ?_;rintro e w1 ⟨k1,g1,hq,rfl,tN⟩;obtain⟨rfl,rfl⟩:k1=k∧g1=g':=by
  have:=hq.symm.trans HN.out;simp only[zaG,zah]at this;exact this
 have HG:Hid _:=tN;clear hq tN HT HN;go_wp2_with fail;go_ret;exact⟨rfl,HG.out,hi,TV.out⟩
theorem Qq {n:Nat}(i:Nat)(l:Dt)(hgr:mJ w0 lo K L κ E root)(ih:∀m,m≤n→xx w0 lo K L κ E root G M m)(h:ei w0 w G M κ E g ay nv)(hm:gG w0 K κ E g.met)(dm:bp root (.vec i l)=true)(HC:Hid (Φ prog 54 #[v] w λe w'=>∃v',e=.returned v'∧w'=w∧bX lo K L w0 E (.vec i l) v'))(k:Nat)(g':jF)
 (df:(match g.met.lookup i with|some k=>some (k,g)|none=>(iQ root n l [] ⟨g.nodes++[⟨2,[],0,0,[]⟩],(i,g.nodes.length)::g.met⟩).map λy=>(g.nodes.length,{ y.2 with nodes:=bP y.2.nodes g.nodes.length y.1 }))=some (k,g'))(hlen:g'.nodes.length≤999999):
 Φ prog 28 #[ai G,v] w λe w'=>e=.returned (Γ Δ (k:Nat))∧Grown w0 w w' G M κ E ay nv g'∧gG w0 K κ E g'.met:=by
 have HH:Hid _:=h;have HM:Hid _:=hm;have EB:Hid _:=hgr;have lI:Hid _:=ih;have HN:Hid _:=df;simp only[bp,zai,zbj]at dm;clear h hm hgr ih df;unfold ai;go_enter func28,ntmps28;go_wp2_with fail;refine zae HC.out ?_;rintro e w' ⟨v',rfl,rfl,hd⟩;unfold bX at hd;obtain⟨hi,-,rfl,sl,vs,hx,hrow,VL⟩:=hd;have eQ:=HH.out.low;have HT:Hid _:=xz EB.out lI.out HH.out HM.out hi (hk:= .vec) ⟨_,hx⟩ 2 l sl vs VL dm.2 (by rw[VL.len];exact dm.1) (aT hrow (zap _) λb _ hb=>eQ.block b hb) k g' HN.out hlen;have hx1:=(eQ.block (E.α i) (zag.1 hx).1).trans hx;have x0:w'.cell? ⟨E.α i,0,none⟩=some sl:=by simp[Ξ.cell?,hx1]
 unfold kM ai at HT;unfold ai;simp only[HK.p]at HT;have a1:(Θ (.iface 127 (.pointer (some ⟨E.α i,0,none⟩))) 31 122 true).run prog w'=_:=ak w' od xA (by decide);have a2:(Θ (.iface 127 (.pointer (some ⟨E.α i,0,none⟩))) 31 127 true).run prog w'=_:=dB w' mK;clear HC hx HH HM EB lI HN eQ hx1 hrow VL;go_wp2_with fail;refine zae HT.out ?_;rintro e w1 ⟨rfl,tN⟩;have HG:Hid _:=tN;clear tN HT;go_wp2_with fail;go_ret;exact⟨rfl,HG.out⟩
theorem MO {n:Nat}(i:Nat)(a b:Dt)(hgr:mJ w0 lo K L κ E root)(ih:∀m,m≤n→xx w0 lo K L κ E root G M m)(h:ei w0 w G M κ E g ay nv)(hm:gG w0 K κ E g.met)(dm:bp root (.pair i a b)=true)(HC:Hid (Φ prog 54 #[v] w λe w'=>∃v',e=.returned v'∧w'=w∧bX lo K L w0 E (.pair i a b) v'))(k:Nat)(g':jF)
 (df:(match g.met.lookup i with|some k=>some (k,g)|none=>(iQ root n (.bD a (.bD b .ee)) [] ⟨g.nodes++[⟨1,[],0,0,[]⟩],(i,g.nodes.length)::g.met⟩).map λy=>(g.nodes.length,{ y.2 with nodes:=bP y.2.nodes g.nodes.length y.1 }))=some (k,g'))(hlen:g'.nodes.length≤999999):
 Φ prog 28 #[ai G,v] w λe w'=>e=.returned (Γ Δ (k:Nat))∧Grown w0 w w' G M κ E ay nv g'∧gG w0 K κ E g'.met:=by
 have mixed:prog.follows Departure.mixedOrders=true:=by kernel_rfl
 have HH:Hid _:=h;have HM:Hid _:=hm;have EB:Hid _:=hgr;have lI:Hid _:=ih;have HN:Hid _:=df;simp only[bp,zai]at dm;clear h hm hgr ih df;unfold ai;go_enter func28,ntmps28;go_wp2_with fail;refine zae HC.out ?_;rintro e w' ⟨v',rfl,rfl,hd⟩;unfold bX at hd;obtain⟨hi,-,rfl,va,vb,hx,VK,hdb⟩:=hd;obtain⟨ta,ya,rfl⟩:=VK.iface;obtain⟨tb,yb,rfl⟩:=hdb.iface;have eQ:=HH.out.low;have hb:ζ w'.heap.size w' ((w'.alloc (.cells #[.iface ta ya,.iface tb yb] 31)).drew):=((zad _ _).alloc (zab _) _).drew;have HB:Hid _:=hb;have HT:Hid _:=xz EB.out lI.out (ei.above HH.out hb) HM.out hi (hk:= .pair) ⟨_,hx⟩ 1 (.bD a (.bD b .ee)) (.slice (some ⟨w'.heap.size,0,none⟩) 2 2) [.iface ta ya,.iface tb yb] (by unfold cT;exact⟨.iface ta ya,[.iface tb yb],rfl,VK,by unfold cT;exact⟨.iface tb yb,[],rfl,hdb,by unfold cT;rfl⟩⟩) (by simp[bp,dm]) (by simp) (aT (w:=w'.alloc (.cells #[.iface ta ya,.iface tb yb] 31)) (Yy w' _ _) (zap _) λ_ _ _=>rfl) k g' HN.out hlen;have hx1:=(eQ.block (E.α i) (zag.1 hx).1).trans hx;have x0:w'.cell? ⟨E.α i,0,none⟩=some (.iface ta ya):=by simp[Ξ.cell?,hx1]
 have x1:w'.cell? ⟨E.α i,1,none⟩=some (.iface tb yb):=by simp[Ξ.cell?,hx1]
 unfold kM ai at HT;unfold ai;simp only[HK.p]at HT;have a1:(Θ (.iface 122 (.pointer (some ⟨E.α i,0,none⟩))) 31 122 true).run prog w'=_:=dB w' od;clear HC hx HH HM EB lI HN eQ hx1 VK hdb hb;go_wp2_with fail
 go_region_with (refine zae HT.out ?_;rintro e w1 ⟨rfl,tN⟩;have HG:Hid _:=tN;clear tN)
 all_goals
  go_wp2_with fail;go_ret;exact⟨rfl,Grown.above HG.out.1 HB.out,HG.out.2⟩
end
end Go.Proofs.YtlhimdjkkiflhaaGreat
namespace Go.Proofs.YtlhimdjkkiflhaaGreat
open Go.RowKit Go.Loop
theorem MP {root:Dt}:∀{d:Dt} {v:Λ} {w0:Ξ} {lo K:Nat} {L:List Int} {E:Env},bX lo K L w0 E d v→bp root d=true→(bY root 200000 d).hd=true
 |.ask m,_,_,_,_,_,_,_,h=>by simp only[bp,zai]at h;exact h.2
 |.put n x,_,_,_,_,_,_,_,h=>by simp only[bp,zai]at h;exact h.1
 |.nil,_,_,_,_,_,_,_,_=>rfl
 |.sym _,_,_,_,_,_,_,_,_=>rfl
 |.num _ _,_,_,_,_,_,_,_,_=>rfl
 |.dI _,_,_,_,_,_,_,_,_=>rfl
 |.oY _,_,_,_,_,_,_,_,_=>rfl
 |.txt _ _,_,_,_,_,_,_,_,_=>rfl
 |.pair _ _ _,_,_,_,_,_,_,_,_=>rfl
 |.vec _ _,_,_,_,_,_,_,_,_=>rfl
 |.ee,_,_,_,_,_,_,hd,_=>by unfold bX at hd;exact hd.elim
 |.bD _ _,_,_,_,_,_,_,hd,_=>by unfold bX at hd;exact hd.elim
theorem gG.cons {w0:Ξ}{K:Nat}{κ:Nat→HK}{E:Env}{met:List (Nat×Nat)}(h:gG w0 K κ E met){i k:Nat}(hi:i<K)(hat:qB w0 (κ i) (E.α i))(hq:met.lookup i=none):gG w0 K κ E ((i,k)::met):=by
 refine⟨λp hp=>?_,?_⟩
 ·rcases zaI.1 hp with rfl|hp
  ·exact⟨hi,hat⟩
  ·exact h.at_ p hp
 ·rw[zaC,List.nodup_cons];refine⟨λyz=>?_,h.nd⟩;obtain⟨q,YG,zC⟩:=zbN.1 yz;have:=List.lookup_eq_none_iff.1 hq q YG;simp[zC]at this
section
variable {w0:Ξ}{G M K lo:Nat}{L:List Int}{κ:Nat→HK}{E:Env}{root:Dt}
theorem DK {n:Nat}(hgr:mJ w0 lo K L κ E root)(ih:∀m,m≤n→xx w0 lo K L κ E root G M m):xx w0 lo K L κ E root G M (n+1):=by
 intro d v w g ay nv k g' cy dm h hm df hlen;obtain⟨rv,Ht⟩:=hgr.mj;have Qr:=MP cy dm;have HC:Hid _:=JV h.low Ht (gY hgr.good) 200000 d v cy (gY dm) Qr;have KN:=lA hgr.good 200000 d dm;have hgrow:=(l8 root (n+1)).1 _ _ _ _ df;unfold nj at df;cases ht:bY root 200000 d with
 |nil=>
  rw[ht]at df HC;cases df;exact(Ql h (by simp[jF.add]at hlen;omega) HC).mono λe w' hx=>⟨hx.1,hx.2,hm⟩
 |sym s=>
  rw[ht]at df HC KN;cases df;exact(Qo s (by simpa[bp]using KN) h (by simp[jF.add]at hlen;omega) HC).mono λe w' hx=>⟨hx.1,hx.2,hm⟩
 |num a b=>
  rw[ht]at df HC;cases df;exact(Qm a b h (by simp[jF.add]at hlen;omega) HC).mono λe w' hx=>⟨hx.1,hx.2,hm⟩
 |dI a=>
  rw[ht]at df HC;cases df;exact(J0 a h (by simp[jF.add]at hlen;omega) HC).mono λe w' hx=>⟨hx.1,hx.2,hm⟩
 |oY a=>
  rw[ht]at df HC;cases df;exact(Qn a h (by simp[jF.add]at hlen;omega) HC).mono λe w' hx=>⟨hx.1,hx.2,hm⟩
 |txt i s=>
  rw[ht]at df HC;have hl:g.nodes.length+1≤1000000:=by omega
  refine(Qp i s hgr h hm hl HC k g' df).mono λe w' hx=>⟨hx.1,hx.2.1,?_⟩;cases hq:g.met.lookup i with
  |some k0=>simp only[hq]at df;cases df;exact hm
  |none=>simp only[hq]at df;cases df;exact hm.cons hx.2.2.1 hx.2.2.2 hq
 |pair i a b=>
  rw[ht]at df HC KN;exact MO i a b hgr ih h hm KN HC k g' df hlen
 |vec i l=>
  rw[ht]at df HC KN;exact Qq i l hgr ih h hm KN HC k g' df hlen
 |put n x=>rw[ht]at Qr;simp[Dt.hd]at Qr
 |ask m=>rw[ht]at Qr;simp[Dt.hd]at Qr
 |ee=>rw[ht]at Qr;simp[Dt.hd]at Qr
 |bD a l=>rw[ht]at Qr;simp[Dt.hd]at Qr
theorem DL (hgr:mJ w0 lo K L κ E root):∀N n,n≤N→xx w0 lo K L κ E root G M n
 |0,n,h=>by
  obtain rfl:n=0:=by omega
  intro d v w g ay nv k g' _ _ _ _ df;simp[nj]at df
 |N+1,n,h=>by
  have ih:=DL hgr N;cases n with
  |zero=>exact ih 0 (zap _)
  |succ n=>exact DK hgr λm hm=>ih m (by omega)
end
end Go.Proofs.YtlhimdjkkiflhaaGreat
namespace Go.Proofs.YtlhimdjkkiflhaaGreat
open Go.Proofs.Tryz
open Go.RowKit Go.Loop
def b9 (w:Ξ)(lo:Nat)(nv:Λ)(ay:List Λ)(nodes:List dF):Prop:=
 w.ownsRow lo 50 5 nv nodes.length (kY nodes ay)∧ay.length=nodes.length∧∀(j:Nat) x sv,nodes[j]?=some x→ay[j]?=some sv→MI w lo sv x.subs
theorem DM (w0:Ξ)(E:Env):∃κ:Nat→HK,∀i h,qB w0 h (E.α i)→κ i=h:=by
 have hex:∀i,∃k:HK,∀h,qB w0 h (E.α i)→k=h:=λi=>by
  by_cases e:∃h,qB w0 h (E.α i)
  ·obtain⟨h,hh⟩:=e;exact⟨h,λh' VA=>hh.same VA⟩
  ·exact⟨.txt,λh hh=>absurd ⟨h,hh⟩ e⟩
 exact⟨λi=>Classical.choose (hex i),λi=>zaL (hex i)⟩
theorem DN {lo K:Nat}{L:List Int}{E:Env}(w:Ξ)(root:Dt)(v:Λ)(hd:bX lo K L w E root v)(dm:bp root root=true)(xw:∀i j,i<K→j<K→E.α i=E.α j→i=j)(f:Nat)(k:Nat)(g':jF)(df:nj root f root ⟨[],[]⟩=some (k,g'))(hlen:g'.nodes.length≤999999):Φ prog 14 #[v] w λe w'=>∃nv ay,e=.returned nv∧b9 w' w.heap.size nv ay g'.nodes∧ζ w.heap.size w w':=by
 obtain⟨κ,VN⟩:=DM w E;have hgr:mJ w lo K L κ E root:=⟨⟨v,hd⟩,dm,xw,λi h _ hh=>VN i h hh⟩;have hb2:ζ w.heap.size w ((w.alloc (.map #[] 0)).alloc (.cells #[.slice none 0 0,.map (some w.heap.size)] 93)):=((zad _ w).alloc (zab _) _).alloc (by simp) _;have hG:ei w ((w.alloc (.map #[] 0)).alloc (.cells #[.slice none 0 0,.map (some w.heap.size)] 93)) (w.heap.size+1) w.heap.size κ E ⟨[],[]⟩ [] (.slice none 0 0):=
  ⟨by omega,by omega,zab _,hb2,dJ w _ _,zcm _ _ _ _,⟨#[],0,(zaK _ _ _ (by simp)).trans (zau w _),rfl⟩,rfl,λj x sv h=>(by simp at h)⟩
 have HN:Hid _:=DL hgr f f (zab _) root v _ ⟨[],[]⟩ [] (.slice none 0 0) k g' hd dm hG ⟨λp hp=>(by cases hp),List.nodup_nil⟩ df hlen;have Qk:(Instr.makeMap 91 none).run prog w=.ok (.map (some w.heap.size)) (w.alloc (.map #[] 0)):=rfl;clear hgr hb2 hG hd dm xw df;unfold ai at HN;go_enter func14,ntmps14;go_wp2_with fail;refine zae HN.out ?_;rintro e w1 ⟨rfl,⟨ay,nv,hG,-,-,-⟩,-⟩;have HF:Hid (b9 w1 w.heap.size nv ay g'.nodes∧ζ w.heap.size w w1):=⟨⟨hG.row,hG.len,hG.subs⟩,hG.low⟩;have y0:w1.cell? ⟨w.heap.size+1,0,none⟩=some nv:=by
  have hblk:=hG.blk;simp[Ξ.cell?,hblk]
 clear hG HN;go_wp2_with fail;go_ret;exact⟨nv,ay,rfl,HF.out⟩
end Go.Proofs.YtlhimdjkkiflhaaGreat
