import Derived.Deep.OwnRows
import Derived.Deep.Cut
import Derived.Deep.RegionWith
import Derived.Test.YtlhimdjkkiflhaaGreatDoorKnown24
set_option maxHeartbeats 8000000
set_option maxRecDepth 100000
namespace Go.Proofs.YtlhimdjkkiflhaaGreatDoor
open Go.Proofs.Tryz
open Go.RowKit Go.Loop
def iA (acc:List Nat)(n:Nat):Array Value:=(acc.map (λk:Nat=>Value.int .i64 (k:Int))++List.replicate (n-acc.length) (Value.int .i64 0)).toArray
section
variable {w0 w:World}{G M K:Nat}{κ:Nat→HK}{E:Env}{g:mU}{bu:List Value}{nv:Value}
theorem dI.other (h:dI w0 w G M κ E g bu nv){B:Nat}{c:Array Value}(hB:w.heap[B]?=some (.cells c 3))(Ih:w0.heap.size≤B)(hn:∀sv∈bu,sv.ownBlock≠some B)(j:Nat)(v:Value):dI w0 (w.setCell ⟨B,j,none⟩ v) G M κ E g bu nv:=by
 have ho:∀b,b≠B→(w.setCell ⟨B,j,none⟩ v).heap[b]?=w.heap[b]?:=λb hb=>Below.heap_setCell _ _ _ _ hb;obtain⟨es,cl,hm,Vg⟩:=h.map;refine⟨h.gm,h.Xk,h.Xl,⟨h.low.os,h.low.tape,h.low.output,by have:=h.low.size;simpa using this,λb hb=>(ho b (by omega)).trans (h.low.block b hb)⟩,(ho G (λe=>by rw[←e,h.blk]at hB;simp at hB)).trans h.blk,?_,⟨es,cl,(ho M (λe=>by rw[←e,hm]at hB;simp at hB)).trans hm,Vg⟩,h.len,λi x sv hx qx=>?_⟩
 ·refine⟨h.row.1,h.row.2.imp id ?_⟩;rintro ⟨b,cp,cur,q1,q2,q3,q4⟩;exact⟨b,cp,cur,q1,q2,(ho b (λe=>by rw[←e,q3]at hB;simp at hB)).trans q3,q4⟩
 ·rcases h.subs i x sv hx qx with q|⟨b,q1,q2,q3⟩
  ·exact .inl q
  ·exact .inr ⟨b,q1,q2,(ho b (λe=>hn sv (List.mem_of_getElem? qx) (by rw[q1,←e];rfl))).trans q3⟩
theorem Gd {acc:List Nat}{n:Nat}(h:acc.length<n)(k:Nat):(iA acc n).setIfInBounds acc.length (.int .i64 (k:Int))=iA (acc++[k]) n:=by
 unfold iA;obtain⟨r,hr⟩:∃r,n-acc.length=r+1:=⟨n-acc.length-1,by omega⟩;have nE:n-(acc++[k]).length=r:=by simp;omega
 rw[hr,nE,zbz];apply Array.ext';simp
theorem Df {acc:List Nat}{n:Nat}(h:acc.length=n):iA acc n=(acc.map λk:Nat=>Value.int .i64 (k:Int)).toArray:=by
 unfold iA;rw[h,Nat.sub_self];simp
theorem Ge {acc:List Nat}{n j:Nat}(h:j<n)(ha:acc.length≤n):∃v,(iA acc n)[j]?=some v:=by
 have:j<(iA acc n).size:=by simp[iA];omega
 exact⟨_,zaq this⟩
theorem RH {α:Type}{l:List α}{j:Nat}{x:α}{r:List α}(h:l.drop j=x::r):l[j]?=some x∧l.drop (j+1)=r:=by
 constructor
 ·rw[←List.head?_drop,h];rfl
 ·rw[←List.tail_drop,h];rfl
theorem Dg {lo:Nat}{L:List Int}{root:Dt}{n:Nat}(ih:∀m,m≤n→xj w0 lo K L κ E root G M m)(wb w:World)(KC:List Value)(PW:Value)(at_ B:Nat)(hv:Value)(vs:List Value)(l:Dt)(g1 g2:mU)(KA:List Value)(Ts:Value)(ks:List Nat)
 (cr:jh root n l [] g1=some (ks,g2))(hlen:g2.nodes.length≤999999)(hat:at_<g1.nodes.length)(PC:vs.length≤1000)(hD:cH lo K L w0 E l vs)(bY:bn root l=true)(hG:dI w0 w G M κ E g1 KA Ts)(hM:gi w0 K κ E g1.met)(hK:js G M PW.ownBlock wb w)
 (hnv:Ts.ownBlock=PW.ownBlock∨∃b,Ts.ownBlock=some b∧wb.heap.size≤b)(hns:N7 wb KC KA)(hB:w.heap[B]?=some (.cells (iA [] vs.length) 3))(o7:wb.heap.size≤B)(hB0:w0.heap.size≤B)(hBn:∀sv∈KA,sv.ownBlock≠some B)(hrow:w.ownsRow 0 58 1 hv vs.length vs)
 (x1 x2 x4 x5 x6 x7 x8 x9 x10 Zv x14 x15 x16 x17 x18 x19 x20 x21 x22 x23 x24 x25 x26 x27 x28 x29 x30 x31 x32 x33 x34 x35 x36 x37 x38 x39 x40 x41 x42 x43 x44 x45 x46 x47 x48 x49 x50 x51 x52 x53 x54 x55 x56 x57 x58 x59 x60 x61:Value):
 (aL (aL (aL (aL (aL (f80.body.getD .skip)))))).wp prog (bodyPost prog f80 λe w'=>e=.returned (.int .i64 (at_:Nat))∧Grown w0 wb w' G M κ E KC PW { g2 with nodes:=dR g2.nodes at_ ks }∧gi w0 K κ E g2.met) ⟨#[.pointer (some ⟨G,0,none⟩),x1,x2,hv,x4,x5,x6,x7,x8,x9,x10,.int .i64 (at_:Nat),.slice (some ⟨B,0,none⟩) vs.length vs.length,Zv,x14,x15,x16,x17,x18,x19,x20,x21,x22,x23,x24,x25,x26,x27,x28,x29,x30,x31,x32,x33,x34,x35,x36,x37,x38,x39,x40,x41,x42,x43,x44,x45,x46,x47,x48,x49,x50,x51,x52,x53,x54,x55,x56,x57,x58,x59,x60,x61],[]⟩ w:=by
 obtain⟨ha,hc,rfl⟩:=bh hrow;have HI:Hid _:=ih;have H0:Hid (∃(m:Nat) (l':Dt) (acc:List Nat) (gj:mU) (tz:List Value) (Iz:Value),(.int .i64 0:Value)=.int .i64 (acc.length:Nat)∧acc.length≤vs.length∧m≤n∧at_<gj.nodes.length∧Hid (jh root m l' acc gj=some (ks,g2))∧Hid (cH lo K L w0 E l' (vs.drop acc.length))∧Hid (bn root l'=true)∧Hid (dI w0 w G M κ E gj tz Iz)∧Hid (gi w0 K κ E gj.met)∧Hid (js G M PW.ownBlock wb w)∧Hid (Iz.ownBlock=PW.ownBlock∨∃b,Iz.ownBlock=some b∧wb.heap.size≤b)∧Hid (N7 wb KC tz)∧Hid (w.heap[B]?=some (.cells (iA acc vs.length) 3))∧Hid (∀sv∈tz,sv.ownBlock≠some B)∧Hid (w.ownsRow 0 58 1 (.slice ha vs.length hc) vs.length vs)):=
  ⟨n,l,[],g1,KA,Ts,rfl,zah _,zaa _,hat,cr,hD,bY,hG,hM,hK,hnv,hns,hB,hBn,hrow⟩
 clear ih cr hat hD bY hG hM hK hnv hns hB hBn hrow;dsimp only[f80,aL,Option.getD];go_wp2_with fail;go_loopw [41] (λsv wr=>∃(m:Nat) (l':Dt) (acc:List Nat) (gj:mU) (tz:List Value) (Iz:Value),sv=.int .i64 (acc.length:Nat)∧acc.length≤vs.length∧m≤n∧at_<gj.nodes.length∧Hid (jh root m l' acc gj=some (ks,g2))∧Hid (cH lo K L w0 E l' (vs.drop acc.length))∧Hid (bn root l'=true)∧Hid (dI w0 wr G M κ E gj tz Iz)∧Hid (gi w0 K κ E gj.met)∧Hid (js G M PW.ownBlock wb wr)∧Hid (Iz.ownBlock=PW.ownBlock∨∃b,Iz.ownBlock=some b∧wb.heap.size≤b)∧Hid (N7 wb KC tz)∧Hid (wr.heap[B]?=some (.cells (iA acc vs.length) 3))∧Hid (∀sv∈tz,sv.ownBlock≠some B)∧Hid (wr.ownsRow 0 58 1 (.slice ha vs.length hc) vs.length vs)) (λsv _=>vs.length-(intOf sv).toNat)
 case atStart=>exact H0.out
 case round=>
  obtain⟨m,l',acc,gj,tz,Iz,rfl,adn,hm,hat,HN,HD,LV,HG,HM,HK,Tt,HNS,HB,HBN,mB⟩:=hrel;have hBl:B<wr.heap.size:=(zac.1 HB.out).1;have hnG:B≠G:=λe=>by have h1:=HB.out;rw[e,HG.out.blk]at h1;simp at h1
  have hnM:B≠M:=λe=>by obtain⟨es,c,h2,-⟩:=HG.out.map;have h1:=HB.out;rw[e,h2]at h1;simp at h1
  have hnN:=dI.tu HG.out B _ HB.out (λcur e=>by simp at e);by_cases hlt:acc.length<vs.length
  ·obtain⟨x,r,ym⟩:∃x r,vs.drop acc.length=x::r:=by
    cases hq:vs.drop acc.length with
    |nil=>simp at hq;omega
    |cons x r=>exact⟨x,r,rfl⟩
   obtain⟨hx,hr⟩:=RH ym;have bW:=HD.out;rw[ym]at bW;obtain⟨a,l2,rfl,KD,Xm⟩:∃a l2,l'=.cK a l2∧ba lo K L w0 E a x∧cH lo K L w0 E l2 r:=by
    cases l'<;>unfold cH at bW<;>first|exact bW.elim|(cases bW;done)|skip
    rename_i a l2;obtain⟨v,r',e,h1,h2⟩:=bW;cases e;exact⟨a,l2,rfl,h1,h2⟩
   have hgd:=LV.out;simp only[bn,zae]at hgd;obtain⟨m',rfl⟩:∃m',m=m'+1:=by
    cases m with
    |zero=>have h1:=HN.out;simp[jh]at h1
    |succ m'=>exact⟨m',rfl⟩
   have hN:=HN.out;unfold jh at hN;obtain⟨⟨k1,g'⟩,Zw,hN2⟩:=zaz.1 hN;have E9:=(lW root m').2 _ _ _ _ _ hN2;have age:=(lW root m').1 _ _ _ _ Zw;have HC:Hid _:=HI.out m' (by omega) a x wr gj tz Iz k1 g' KD hgd.1 HG.out HM.out Zw (by simp at E9;omega);obtain⟨hb,cap,cur,hhv,q1,q2,q3⟩:∃hb cap cur,Value.slice ha vs.length hc=.slice (some ⟨hb,0,none⟩) vs.length cap∧0≤hb∧wr.heap[hb]?=some (.cells cur 58)∧True:=by
    rcases mB.out.2 with⟨e,h0⟩|⟨hb,cap,cur,e,p1,p2,_⟩
    ·omega
    ·exact⟨hb,cap,cur,e,p1,p2,trivial⟩
   obtain rfl:ha=some ⟨hb,0,none⟩:=by cases hhv;rfl
   have cx:wr.cell? ⟨hb,acc.length,none⟩=some x:=by
    rw[World.ownsRow.cellAt mB.out acc.length (by omega)];exact hx
   have hbl:hb<wr.heap.size:=(zac.1 q2).1;have hbG:hb≠G:=λe=>by rw[e,HG.out.blk]at q2;simp at q2
   have hbM:hb≠M:=λe=>by obtain⟨es,c,h2,-⟩:=HG.out.map;rw[e,h2]at q2;simp at q2
   have hbN:=dI.tu HG.out hb _ q2 (λcur e=>by simp at e);have agf:(acc.length:Int)<(vs.length:Int):=by omega
   have H2:Hid _:=hN2;have HDL:Hid _:=Xm;have HR:Hid _:=hr;have HGL:Hid _:=hgd.2;have Zl:Hid _:=q2;clear hN Zw hN2 KD Xm bW hgd hhv q1 q2 q3 ym hx hr;unfold au at HC;go_wp2_with fail;refine Calls.mono HC.out ?_;clear HC;rintro e w2 ⟨rfl,⟨xh,RB,Uz,hK2,Zx,Vj⟩,LH⟩;have hs2:=hK2.size;have Xn:=(hK2.block B hBl hnG hnM hnN).trans HB.out;have hb2:=(hK2.block hb hbl hbG hbM hbN).trans Zl.out;have Vk:∀sv∈xh,sv.ownBlock≠some B:=λsv qx e=>by
    rcases Vj sv qx B e with⟨sv0,h1,h2⟩|h1
    ·exact HBN.out sv0 h1 h2
    ·omega
   obtain⟨v0,hv0⟩:=Ge (acc:=acc) hlt adn;have cB:w2.cell? ⟨B,acc.length,none⟩=some v0:=by simp[World.cell?,Xn,hv0]
   have fB:w2.frozen? ⟨B,acc.length,none⟩=false:=by simp[World.frozen?,Xn]
   have Vh:Hid (∃(m:Nat) (l':Dt) (Oc:List Nat) (gj:mU) (tz:List Value) (Iz:Value),(Value.int .i64 ((acc.length:Int)+1))=.int .i64 (Oc.length:Nat)∧Oc.length≤vs.length∧m≤n∧at_<gj.nodes.length∧Hid (jh root m l' Oc gj=some (ks,g2))∧Hid (cH lo K L w0 E l' (vs.drop Oc.length))∧Hid (bn root l'=true)∧Hid (dI w0 (w2.setCell ⟨B,acc.length,none⟩ (.int .i64 k1)) G M κ E gj tz Iz)∧Hid (gi w0 K κ E gj.met)∧Hid (js G M PW.ownBlock wb (w2.setCell ⟨B,acc.length,none⟩ (.int .i64 k1)))∧Hid (Iz.ownBlock=PW.ownBlock∨∃b,Iz.ownBlock=some b∧wb.heap.size≤b)∧Hid (N7 wb KC tz)∧Hid ((w2.setCell ⟨B,acc.length,none⟩ (.int .i64 k1)).heap[B]?=some (.cells (iA Oc vs.length) 3))∧Hid (∀sv∈tz,sv.ownBlock≠some B)∧Hid ((w2.setCell ⟨B,acc.length,none⟩ (.int .i64 k1)).ownsRow 0 58 1 (.slice (some ⟨hb,0,none⟩) vs.length hc) vs.length vs)):=by
    have hws:=HK.out.size;refine⟨m',l2,acc++[k1],g',xh,RB,by simp,by simp;omega,by omega,by omega,H2.out,?_,HGL.out,dI.other Uz Xn hB0 Vk _ _,LH,?_,?_,λsv qx b hb'=>?_,?_,Vk,?_⟩
    ·show cH lo K L w0 E l2 (vs.drop (acc++[k1]).length);rw[zaL];show cH lo K L w0 E l2 (vs.drop (acc.length+1));rw[HR.out];exact HDL.out
    ·exact js.above (js.put HK.out hK2 Tt.out) o7 _ _
    ·rcases Zx with e|⟨b,e,LM⟩
     ·rcases Tt.out with e2|⟨b,e2,LM⟩
      ·exact .inl (e.trans e2)
      ·exact .inr ⟨b,e.trans e2,LM⟩
     ·exact .inr ⟨b,e,by omega⟩
    ·rcases Vj sv qx b hb' with⟨sv0,h1,h2⟩|h1
     ·exact HNS.out sv0 h1 b h2
     ·exact .inr (by omega)
    ·show _=_;rw[←Gd hlt];exact dN Xn _ _
    ·have hrow:=mB.out;refine⟨hrow.1,hrow.2.imp id ?_⟩;rintro ⟨b,cp,cu,p1,p2,p3,p4⟩;have eb:b=hb:=by cases p1;rfl
     subst eb;have hne:b≠B:=λe=>by rw[e,Xn]at hb2;simp at hb2
     exact⟨b,cp,cu,p1,p2,(Below.heap_setCell _ _ _ _ hne).trans ((hK2.block b hbl hbG hbM hbN).trans p3),p4⟩
   clear Uz hK2 Zx Vj LH Xn hb2 Vk hv0 HN HD LV HG HM HK Tt HNS HB HBN mB H2 HDL HR HGL Zl;go_wp2_with fail;exact⟨Vh.out,by simp[intOf];omega⟩
  ·have he:acc.length=vs.length:=by omega
   have i6:¬((acc.length:Int)<(vs.length:Int)):=by omega
   obtain⟨rfl,XR,hg2⟩:l'=.iw∧ks=acc∧g2=gj:=by
    have bW:=HD.out;rw[he,List.drop_length]at bW;have hl:l'=.iw:=by
     cases l'<;>unfold cH at bW<;>first|rfl|exact bW.elim|skip
     obtain⟨v,r',e,-⟩:=bW;cases e
    subst hl;have hN:=HN.out;cases m with
    |zero=>simp[jh]at hN
    |succ m'=>
     unfold jh at hN;cases hN;exact⟨rfl,rfl,rfl⟩
   have MV:=HB.out;rw[Df he]at MV;obtain⟨nb,agh,hnv,⟨sv0,hc0⟩,Y0,YW,hK3⟩:=dI.sub HG.out hat hB0 MV;obtain⟨y0,y1⟩:wr.cell? ⟨G,0,none⟩=some Iz∧wr.cell? ⟨G,1,none⟩=some (.map (some M)):=by
    have hblk:=HG.out.blk;constructor<;>simp[World.cell?,hblk]
   rw[he]at YW hK3;have RI:Hid (Grown w0 wb (wr.setCell ⟨nb,at_*5+4,none⟩ (.slice (some ⟨B,0,none⟩) vs.length vs.length)) G M κ E KC PW { g2 with nodes:=dR g2.nodes at_ ks }∧gi w0 K κ E g2.met):=by
    subst XR hg2;refine⟨⟨_,_,YW,js.put HK.out hK3 Tt.out,Tt.out,λsv qx b hb'=>?_⟩,HM.out⟩;rcases List.mem_or_eq_of_mem_set qx with h1|h1
    ·exact HNS.out sv h1 b hb'
    ·subst h1;cases hb';exact .inr o7
   subst hnv;have agi:(at_:Int)<(gj.nodes.length:Int):=by omega
   clear YW hK3 MV HN HD LV HG HM HK Tt HNS HB HBN mB XR hg2;go_wp2_with fail;go_ret;exact⟨rfl,RI.out⟩
end
theorem Od (n:Nat):madeCells #[.int .i64 0] n=iA [] n:=by
 unfold madeCells iA;apply Array.ext
 ·simp
 ·intro i h1 h2;simp[Nat.mod_one]
section
variable {w0 w:World}{G M K:Nat}{κ:Nat→HK}{E:Env}{g:mU}{bu:List Value}{nv:Value}
theorem dI.above {w':World}(h:dI w0 w G M κ E g bu nv)(hb:Below w.heap.size w w'):dI w0 w' G M κ E g bu nv:=by
 obtain⟨es,c,hm,Vg⟩:=h.map;have hl:=h.low.size;refine⟨h.gm,h.Xk,h.Xl,⟨hb.os.trans h.low.os,hb.tape.trans h.low.tape,hb.output.trans h.low.output,zad hl hb.size,λb hb'=>(hb.block b (by omega)).trans (h.low.block b hb')⟩,(hb.block G (zac.1 h.blk).1).trans h.blk,bg h.row (zaa _) λb _ hlt=>hb.block b hlt,⟨es,c,(hb.block M (zac.1 hm).1).trans hm,Vg⟩,h.len,λj x sv hx qx=>?_⟩;rcases h.subs j x sv hx qx with q|⟨b,q1,q2,q3⟩
 ·exact .inl q
 ·exact .inr ⟨b,q1,q2,(hb.block b (zac.1 q3).1).trans q3⟩
theorem dI.sub_lt (h:dI w0 w G M κ E g bu nv):∀sv∈bu,∀b,sv.ownBlock=some b→b<w.heap.size:=by
 intro sv qx b hb;obtain⟨j,hj⟩:=List.mem_iff_getElem?.1 qx;have Mz:j<g.nodes.length:=by rw[←h.len];exact(zaT.1 hj).1
 rcases h.subs j _ sv (zaf Mz) hj with⟨rfl,_⟩|⟨b',rfl,_,q3⟩
 ·cases hb
 ·cases hb;exact(zac.1 q3).1
theorem xk {lo:Nat}{L:List Int}{root:Dt}{n:Nat}(hgr:kR w0 lo K L κ E root)(ih:∀m,m≤n→xj w0 lo K L κ E root G M m)(h:dI w0 w G M κ E g bu nv)(hm:gi w0 K κ E g.met){i:Nat}(hi:i<K){hk:HK}(Tu:kJ w0 hk (E.α i))(c:Nat)
 (l:Dt)(hv:Value)(vs:List Value)(hD:cH lo K L w0 E l vs)(bY:bn root l=true)(PC:vs.length≤1000)(hrow:w.ownsRow 0 58 1 hv vs.length vs)(k:Nat)(g':mU)
 (cr:(match g.met.lookup i with|some k=>some (k,g)|none=>(jh root n l [] ⟨g.nodes++[⟨c,[],0,0,[]⟩],(i,g.nodes.length)::g.met⟩).map λy=>(g.nodes.length,{ y.2 with nodes:=dR y.2.nodes g.nodes.length y.1 }))=some (k,g'))(hlen:g'.nodes.length≤999999):
 Calls prog 80 #[au G,ki hk (E.α i),.int .i64 c,hv] w λe w'=>e=.returned (.int .i64 (k:Nat))∧Grown w0 w w' G M κ E bu nv g'∧gi w0 K κ E g'.met:=by
 have Tv:κ i=hk:=hgr.kind i hk hi Tu;have hat:kJ w0 (κ i) (E.α i):=by rw[Tv];exact Tu
 have cE:=h.look hm hgr.inj hi hat
 obtain⟨ha,hc,rfl⟩:=bh hrow;obtain⟨g0,g1⟩:w.cell? ⟨G,0,none⟩=some nv∧w.cell? ⟨G,1,none⟩=some (.map (some M)):=by
  constructor<;>simp[World.cell?,h.blk]
 cases hq:g.met.lookup i with
 |some k0=>
  rw[hq]at cr;cases cr;rw[hq,Tv]at cE;simp only[zaF,Option.isSome_some]at cE;have HG:Hid _:=(⟨Grown.refl h,hm⟩:_∧_);clear h hm hat hD hrow bY;unfold ki au at cE ⊢;go_enter func80,ntmps80;go_wp2_with fail;go_ret;exact⟨rfl,HG.out⟩
 |none=>
  rw[hq]at cr;obtain⟨⟨ks,g2⟩,hL,e⟩:=zai.1 cr;cases e;have E9:=(lW root n).2 _ _ _ _ _ hL;have IB:g2.nodes.length≤999999:=by simpa[dR]using hlen
  have Rt:g.nodes.length+1≤1000000:=by simp at E9;omega
  rw[hq,Tv]at cE;simp only[zbc,zbF]at cE;have HC:Hid _:=km h ⟨c,[],0,0,[]⟩ rfl Rt;have PX:=run_make_row' (P:=prog) 43 3 (.int .i64 0) 8 underlying43 Oa rfl .i64 .i64 vs.length (by omega) (by omega);have HH:Hid _:=h;have HM:Hid _:=hm;have EN:Hid _:=hgr;have Vi:Hid _:=hat
  have HL:Hid _:=hL;have mB:Hid _:=hrow;have KB:Hid _:=ih;clear h hm hgr hat hL cr hrow ih;unfold ki au at cE ⊢;unfold au jI at HC;simp only at HC;go_enter func80,ntmps80;go_wp2_with fail;refine Calls.mono HC.out ?_;rintro e w1 ⟨rfl,tA⟩;obtain⟨KA,Ts,h1,k1,b1,s1⟩:=id tA;obtain⟨o,hput,hmap⟩:=xd h1.map i g.nodes.length (kJ.low Vi.out h1.low) (λp hp=>kJ.low (HM.out.at_ p hp).2 h1.low) (λp hp e=>EN.out.inj i p.1 hi (HM.out.at_ p hp).1 e) HM.out.nd hq;obtain⟨KE,nv2,h2,k2,b2,s2⟩:=Grown.met tA hmap;obtain⟨y0,y1⟩:w1.cell? ⟨G,0,none⟩=some Ts∧w1.cell? ⟨G,1,none⟩=some (.map (some M)):=by
   constructor<;>simp[World.cell?,h1.blk]
  rw[Tv]at hput;unfold ki au at hput;have LH:gi w0 K κ E ((i,g.nodes.length)::g.met):=by
   refine⟨λp hp=>?_,?_⟩
   ·rcases zao.1 hp with rfl|hp
    ·exact⟨hi,Vi.out⟩
    ·exact HM.out.at_ p hp
   ·rw[zan,List.nodup_cons];refine⟨λpX=>?_,HM.out.nd⟩;obtain⟨q,hq1,uF⟩:=zaP.1 pX;have:=List.lookup_eq_none_iff.1 hq q hq1;simp[uF]at this
  have h1b:=h1.blk;generalize hw2:({ w1 with heap:=w1.heap.setIfInBounds M o }:World)=w2 at *;have hs2:=k2.size;have mk2:=PX w2;have hb3:Below w2.heap.size w2 (w2.alloc (.cells (madeCells #[.int .i64 0] vs.length) 3)):=(Below.refl _ _).alloc (zaa _) _;have h3:=h2.above hb3;have Tx:Hid ((w2.alloc (.cells (madeCells #[.int .i64 0] vs.length) 3)).ownsRow 0 58 1 (.slice ha vs.length hc) vs.length vs):=by
   have hrow:=mB.out;refine⟨hrow.1,hrow.2.imp id ?_⟩;rintro ⟨b,cp,cu,p1,p2,p3,p4⟩;have hbl:b<w.heap.size:=(zac.1 p3).1;have hbG:b≠G:=λe=>by rw[e,HH.out.blk]at p3;simp at p3
   have hbM:b≠M:=λe=>by obtain⟨es,cl,q2,-⟩:=HH.out.map;rw[e,q2]at p3;simp at p3
   have hbN:=dI.tu HH.out b _ p3 (λcur e=>by simp at e);exact⟨b,cp,cu,p1,p2,(hb3.block b (by omega)).trans ((k2.block b hbl hbG hbM hbN).trans p3),p4⟩
  have lS:Hid (js G M nv.ownBlock w (w2.alloc (.cells (madeCells #[.int .i64 0] vs.length) 3))):=k2.trans ((Kp.ay hb3).a _);have hw0:=h2.low.size;have HT:Hid _:=Dg KB.out w (w2.alloc (.cells (madeCells #[.int .i64 0] vs.length) 3)) bu nv g.nodes.length w2.heap.size (.slice ha vs.length hc) vs l _ g2 KE nv2 ks HL.out IB (by simp) PC hD bY h3 LH lS.out b2 s2 (by rw[heap_alloc_new,Od]) hs2 hw0 (λsv qx e=>by have:=h2.sub_lt sv qx _ e;omega) Tx.out;clear tA h1 k1 b1 s1 hmap h2 k2 b2 s2 hb3 h3 LH hw2 HC HL KB mB Tx lS HH HM EN Vi PX
  go_upto_region 6 with fail
  rename_i hK;have HKK:Hid _:=hK;clear hK;go_wp2_with fail;exact HKK.out _ _ (HT.out _ _ _ _ _ _ _ _ _ _ _ _ _ _ _ _ _ _ _ _ _ _ _ _ _ _ _ _ _ _ _ _ _ _ _ _ _ _ _ _ _ _ _ _ _ _ _ _ _ _ _ _ _ _ _ _ _ _)
end
theorem nZ:eF prog 150=true:=by kernel_rfl
theorem xl:(prog.info? 150).bind (·.zero)=some (.pointer none):=by kernel_rfl
theorem mC:eF prog 163=true:=by kernel_rfl
theorem zeroV:(prog.info? 163).bind (·.zero)=some (.pointer none):=by kernel_rfl
theorem tB:eF prog 158=true:=by kernel_rfl
theorem Dh:(prog.info? 158).bind (·.zero)=some (.pointer none):=by kernel_rfl
theorem xm:eF prog 168=true:=by kernel_rfl
theorem IC:(prog.info? 168).bind (·.zero)=some (.agg #[.string ⟨#[]⟩]):=by kernel_rfl
theorem A9:eF prog 153=true:=by kernel_rfl
theorem Gf:(prog.info? 153).bind (·.zero)=some (.agg #[.int .i64 0,.int .i64 0]):=by kernel_rfl
theorem Ba:eF prog 155=true:=by kernel_rfl
theorem Oe:(prog.info? 155).bind (·.zero)=some (.agg #[.int .i64 0]):=by kernel_rfl
theorem Og:eF prog 157=true:=by kernel_rfl
theorem Zy:(prog.info? 157).bind (·.zero)=some (.agg #[.int .i64 0]):=by kernel_rfl
theorem KF (s:ByteArray)(w:World)(UT:s.size≤281474976710656):Calls prog 83 #[.string s] w λe w'=>e=.returned (.string s)∧Below w.heap.size w w':=by
 have HC:Hid _:=Tryz.stringslite_Clone s w UT;go_enter func83,ntmps83;go_wp2_with fail;refine Calls.mono HC.out ?_;rintro e w1 ⟨rfl,hb⟩;have HB:Hid _:=hb;clear hb;go_wp2_with fail;go_ret;exact⟨rfl,HB.out⟩
section
variable {w0 w:World}{G M K lo:Nat}{L:List Int}{κ:Nat→HK}{E:Env}{g:mU}{bu:List Value}{nv v:Value}
theorem Grown.above {w1 w2:World}{g':mU}(h:Grown w0 w1 w2 G M κ E bu nv g')(hb:Below w.heap.size w w1):Grown w0 w w2 G M κ E bu nv g':=by
 obtain⟨xh,RB,h1,h2,h3,h4⟩:=h;have hs:=hb.size;exact⟨xh,RB,h1,((Kp.ay hb).a _).trans h2,h3.imp id (λ⟨b,e,q⟩=>⟨b,e,by omega⟩),λsv qx b hb'=>(h4 sv qx b hb').imp id λq=>by omega⟩
theorem RJ (h:dI w0 w G M κ E g bu nv)(hl:g.nodes.length+1≤1000000)(HC:Hid (Calls prog 78 #[v] w λe w'=>∃v',e=.returned v'∧w'=w∧ba lo K L w0 E .nil v')):Calls prog 48 #[au G,v] w λe w'=>e=.returned (.int .i64 (g.nodes.length:Nat))∧Grown w0 w w' G M κ E bu nv (g.add ⟨0,[],0,0,[]⟩):=by
 have HA:Hid _:=km h ⟨0,[],0,0,[]⟩ rfl hl;clear h;unfold au jI at HA;simp only at HA;unfold au;go_enter func48,ntmps48;go_wp2_with fail;refine Calls.mono HC.out ?_;rintro e w' ⟨v',rfl,rfl,hd⟩;unfold ba at hd;subst hd;have a1:(Instr.typeAssert (.iface 272 (.agg #[])) 58 150 true).run prog w'=_:=ak w' nZ xl (by decide);have a2:(Instr.typeAssert (.iface 272 (.agg #[])) 58 163 true).run prog w'=_:=ak w' mC zeroV (by decide);have a3:(Instr.typeAssert (.iface 272 (.agg #[])) 58 158 true).run prog w'=_:=ak w' tB Dh (by decide);have a4:(Instr.typeAssert (.iface 272 (.agg #[])) 58 168 true).run prog w'=_:=ak w' xm IC (by decide);have a5:(Instr.typeAssert (.iface 272 (.agg #[])) 58 153 true).run prog w'=_:=ak w' A9 Gf (by decide);have a6:(Instr.typeAssert (.iface 272 (.agg #[])) 58 155 true).run prog w'=_:=ak w' Ba Oe (by decide);have a7:(Instr.typeAssert (.iface 272 (.agg #[])) 58 157 true).run prog w'=_:=ak w' Og Zy (by decide);clear HC;go_wp2_with fail;refine Calls.mono HA.out ?_;rintro e w1 ⟨rfl,tA⟩;have HG:Hid _:=tA;clear tA HA;go_wp2_with fail;go_ret;exact⟨rfl,HG.out⟩
end
section
variable {w0 w:World}{G M K lo:Nat}{L:List Int}{κ:Nat→HK}{E:Env}{g:mU}{bu:List Value}{nv v:Value}
theorem RL (a b:Int)(h:dI w0 w G M κ E g bu nv)(hl:g.nodes.length+1≤1000000)(HC:Hid (Calls prog 78 #[v] w λe w'=>∃v',e=.returned v'∧w'=w∧ba lo K L w0 E (.num a b) v')):Calls prog 48 #[au G,v] w λe w'=>e=.returned (.int .i64 (g.nodes.length:Nat))∧Grown w0 w w' G M κ E bu nv (g.add ⟨5,[],a,b,[]⟩):=by
 have hb:Below w.heap.size w (w.alloc (.cells #[.int .i64 a,.int .i64 b] 153)):=(Below.refl _ _).alloc (zaa _) _;have HB:Hid _:=hb;have HA:Hid _:=km (h.above hb) ⟨5,[],a,b,[]⟩ rfl hl;clear h hb;unfold au jI at HA;simp only at HA;unfold au;go_enter func48,ntmps48;go_wp2_with fail;refine Calls.mono HC.out ?_;rintro e w' ⟨v',rfl,rfl,hd⟩;unfold ba at hd;subst hd;have a1:(Instr.typeAssert (.iface 153 (.agg #[.int .i64 a,.int .i64 b])) 58 150 true).run prog w'=_:=ak w' nZ xl (by decide);have a2:(Instr.typeAssert (.iface 153 (.agg #[.int .i64 a,.int .i64 b])) 58 163 true).run prog w'=_:=ak w' mC zeroV (by decide);have a3:(Instr.typeAssert (.iface 153 (.agg #[.int .i64 a,.int .i64 b])) 58 158 true).run prog w'=_:=ak w' tB Dh (by decide);have a4:(Instr.typeAssert (.iface 153 (.agg #[.int .i64 a,.int .i64 b])) 58 168 true).run prog w'=_:=ak w' xm IC (by decide);have a5:(Instr.typeAssert (.iface 153 (.agg #[.int .i64 a,.int .i64 b])) 58 153 true).run prog w'=_:=bz w' A9;clear HC;go_wp2_with fail;refine Calls.mono HA.out ?_;rintro e w1 ⟨rfl,tA⟩;have HG:Hid _:=Grown.above tA HB.out;clear tA HA HB;go_wp2_with fail;go_ret;exact⟨rfl,HG.out⟩
theorem KG (a:Int)(h:dI w0 w G M κ E g bu nv)(hl:g.nodes.length+1≤1000000)(HC:Hid (Calls prog 78 #[v] w λe w'=>∃v',e=.returned v'∧w'=w∧ba lo K L w0 E (.cQ a) v')):Calls prog 48 #[au G,v] w λe w'=>e=.returned (.int .i64 (g.nodes.length:Nat))∧Grown w0 w w' G M κ E bu nv (g.add ⟨6,[],a,0,[]⟩):=by
 have hb:Below w.heap.size w (w.alloc (.cells #[.int .i64 a] 155)):=(Below.refl _ _).alloc (zaa _) _;have HB:Hid _:=hb;have HA:Hid _:=km (h.above hb) ⟨6,[],a,0,[]⟩ rfl hl;clear h hb;unfold au jI at HA;simp only at HA;unfold au;go_enter func48,ntmps48;go_wp2_with fail;refine Calls.mono HC.out ?_;rintro e w' ⟨v',rfl,rfl,hd⟩;unfold ba at hd;subst hd;have a1:(Instr.typeAssert (.iface 155 (.agg #[.int .i64 a])) 58 150 true).run prog w'=_:=ak w' nZ xl (by decide);have a2:(Instr.typeAssert (.iface 155 (.agg #[.int .i64 a])) 58 163 true).run prog w'=_:=ak w' mC zeroV (by decide);have a3:(Instr.typeAssert (.iface 155 (.agg #[.int .i64 a])) 58 158 true).run prog w'=_:=ak w' tB Dh (by decide);have a4:(Instr.typeAssert (.iface 155 (.agg #[.int .i64 a])) 58 168 true).run prog w'=_:=ak w' xm IC (by decide);have a5:(Instr.typeAssert (.iface 155 (.agg #[.int .i64 a])) 58 153 true).run prog w'=_:=ak w' A9 Gf (by decide);have a6:(Instr.typeAssert (.iface 155 (.agg #[.int .i64 a])) 58 155 true).run prog w'=_:=bz w' Ba;clear HC;go_wp2_with fail;refine Calls.mono HA.out ?_;rintro e w1 ⟨rfl,tA⟩;have HG:Hid _:=Grown.above tA HB.out;clear tA HA HB;go_wp2_with fail;go_ret;exact⟨rfl,HG.out⟩
theorem RM (a:Int)(h:dI w0 w G M κ E g bu nv)(hl:g.nodes.length+1≤1000000)(HC:Hid (Calls prog 78 #[v] w λe w'=>∃v',e=.returned v'∧w'=w∧ba lo K L w0 E (.su a) v')):Calls prog 48 #[au G,v] w λe w'=>e=.returned (.int .i64 (g.nodes.length:Nat))∧Grown w0 w w' G M κ E bu nv (g.add ⟨7,[],a,0,[]⟩):=by
 have hb:Below w.heap.size w (w.alloc (.cells #[.int .i64 a] 157)):=(Below.refl _ _).alloc (zaa _) _;have HB:Hid _:=hb;have HA:Hid _:=km (h.above hb) ⟨7,[],a,0,[]⟩ rfl hl;clear h hb;unfold au jI at HA;simp only at HA;unfold au;go_enter func48,ntmps48;go_wp2_with fail;refine Calls.mono HC.out ?_;rintro e w' ⟨v',rfl,rfl,hd⟩;unfold ba at hd;subst hd;have a1:(Instr.typeAssert (.iface 157 (.agg #[.int .i64 a])) 58 150 true).run prog w'=_:=ak w' nZ xl (by decide);have a2:(Instr.typeAssert (.iface 157 (.agg #[.int .i64 a])) 58 163 true).run prog w'=_:=ak w' mC zeroV (by decide);have a3:(Instr.typeAssert (.iface 157 (.agg #[.int .i64 a])) 58 158 true).run prog w'=_:=ak w' tB Dh (by decide);have a4:(Instr.typeAssert (.iface 157 (.agg #[.int .i64 a])) 58 168 true).run prog w'=_:=ak w' xm IC (by decide);have a5:(Instr.typeAssert (.iface 157 (.agg #[.int .i64 a])) 58 153 true).run prog w'=_:=ak w' A9 Gf (by decide);have a6:(Instr.typeAssert (.iface 157 (.agg #[.int .i64 a])) 58 155 true).run prog w'=_:=ak w' Ba Oe (by decide);have a7:(Instr.typeAssert (.iface 157 (.agg #[.int .i64 a])) 58 157 true).run prog w'=_:=bz w' Og;clear HC;go_wp2_with fail;refine Calls.mono HA.out ?_;rintro e w1 ⟨rfl,tA⟩;have HG:Hid _:=Grown.above tA HB.out;clear tA HA HB;go_wp2_with fail;go_ret;exact⟨rfl,HG.out⟩
theorem RN (s:List UInt8)(hs:s.length≤1000000)(h:dI w0 w G M κ E g bu nv)(hl:g.nodes.length+1≤1000000)(HC:Hid (Calls prog 78 #[v] w λe w'=>∃v',e=.returned v'∧w'=w∧ba lo K L w0 E (.sym s) v')):Calls prog 48 #[au G,v] w λe w'=>e=.returned (.int .i64 (g.nodes.length:Nat))∧Grown w0 w w' G M κ E bu nv (g.add ⟨4,s,0,0,[]⟩):=by
 have hb:Below w.heap.size w (w.alloc (.cells #[.string ⟨⟨s⟩⟩] 168)):=(Below.refl _ _).alloc (zaa _) _;have HCL:Hid _:=KF ⟨⟨s⟩⟩ (w.alloc (.cells #[.string ⟨⟨s⟩⟩] 168)) (by show s.length≤_;omega);have HB:Hid _:=hb;have HH:Hid _:=h;clear h hb;unfold au;go_enter func48,ntmps48;go_wp2_with fail;refine Calls.mono HC.out ?_;rintro e w' ⟨v',rfl,rfl,hd⟩;unfold ba at hd;subst hd;have a1:(Instr.typeAssert (.iface 168 (.agg #[.string ⟨⟨s⟩⟩])) 58 150 true).run prog w'=_:=ak w' nZ xl (by decide);have a2:(Instr.typeAssert (.iface 168 (.agg #[.string ⟨⟨s⟩⟩])) 58 163 true).run prog w'=_:=ak w' mC zeroV (by decide);have a3:(Instr.typeAssert (.iface 168 (.agg #[.string ⟨⟨s⟩⟩])) 58 158 true).run prog w'=_:=ak w' tB Dh (by decide);have a4:(Instr.typeAssert (.iface 168 (.agg #[.string ⟨⟨s⟩⟩])) 58 168 true).run prog w'=_:=bz w' xm;clear HC;go_wp2_with fail;refine Calls.mono HCL.out ?_;rintro e w2 ⟨rfl,hb2⟩;have hb3:Below w'.heap.size w' w2:=⟨hb2.os.trans HB.out.os,hb2.tape.trans HB.out.tape,hb2.output.trans HB.out.output,zad HB.out.size hb2.size,λb hlt=>(hb2.block b (zaw hlt HB.out.size)).trans (HB.out.block b hlt)⟩;have gQ:Hid _:=hb3;have HA:Hid _:=km (dI.above HH.out hb3) ⟨4,s,0,0,[]⟩ rfl hl;clear hb2 hb3 HCL HB HH;unfold au jI at HA;simp only at HA;go_wp2_with fail;refine Calls.mono HA.out ?_;rintro e w1 ⟨rfl,tA⟩;have HG:Hid _:=Grown.above tA gQ.out;clear tA HA gQ;go_wp2_with fail;go_ret;exact⟨rfl,HG.out⟩
end
section
variable {w0 w:World}{G M K lo:Nat}{L:List Int}{κ:Nat→HK}{E:Env}{g:mU}{bu:List Value}{nv v:Value}{root:Dt}
theorem cH.len:∀{l:Dt} {vs:List Value},cH lo K L w0 E l vs→vs.length=l.RF
 |.cK a l,vs,h=>by
  unfold cH at h;obtain⟨v,r,rfl,_,h2⟩:=h;simp[Dt.RF,cH.len h2]
 |.iw,vs,h=>by unfold cH at h;subst h;rfl
 |.nil,_,h=>by unfold cH at h;exact h.elim
 |.sym _,_,h=>by unfold cH at h;exact h.elim
 |.num _ _,_,h=>by unfold cH at h;exact h.elim
 |.cQ _,_,h=>by unfold cH at h;exact h.elim
 |.su _,_,h=>by unfold cH at h;exact h.elim
 |.txt _ _,_,h=>by unfold cH at h;exact h.elim
 |.pair _ _ _,_,h=>by unfold cH at h;exact h.elim
 |.vec _ _,_,h=>by unfold cH at h;exact h.elim
 |.put _ _,_,h=>by unfold cH at h;exact h.elim
 |.ask _,_,h=>by unfold cH at h;exact h.elim
theorem ba.iface:∀{d:Dt} {v:Value},ba lo K L w0 E d v→∃t y,v=.iface t y
 |.nil,v,h=>by unfold ba at h;exact⟨_,_,h⟩
 |.sym _,v,h=>by unfold ba at h;exact⟨_,_,h⟩
 |.num _ _,v,h=>by unfold ba at h;exact⟨_,_,h⟩
 |.cQ _,v,h=>by unfold ba at h;exact⟨_,_,h⟩
 |.su _,v,h=>by unfold ba at h;exact⟨_,_,h⟩
 |.txt _ _,v,h=>by unfold ba at h;exact⟨_,_,h.2.2.1⟩
 |.pair _ _ _,v,h=>by unfold ba at h;exact⟨_,_,h.2.2.1⟩
 |.vec _ _,v,h=>by unfold ba at h;exact⟨_,_,h.2.2.1⟩
 |.put _ d,v,h=>by unfold ba at h;exact ba.iface (d:=d) h.2.2.2
 |.ask _,v,h=>by unfold ba at h;exact⟨_,_,h.2⟩
 |.iw,v,h=>by unfold ba at h;exact h.elim
 |.cK _ _,v,h=>by unfold ba at h;exact h.elim
theorem RO (i:Nat)(s:List UInt8)(hgr:kR w0 lo K L κ E root)(h:dI w0 w G M κ E g bu nv)(hm:gi w0 K κ E g.met)(hl:g.nodes.length+1≤1000000)(HC:Hid (Calls prog 78 #[v] w λe w'=>∃v',e=.returned v'∧w'=w∧ba lo K L w0 E (.txt i s) v'))(k:Nat)(g':mU)
 (cr:(match g.met.lookup i with|some k=>some (k,g)|none=>some (g.nodes.length,⟨g.nodes++[⟨3,s,0,0,[]⟩],(i,g.nodes.length)::g.met⟩))=some (k,g')):
 Calls prog 48 #[au G,v] w λe w'=>e=.returned (.int .i64 (k:Nat))∧Grown w0 w w' G M κ E bu nv g'∧i<K∧kJ w0 (κ i) (E.α i):=by
 have HH:Hid _:=h;have HM:Hid _:=hm;have EN:Hid _:=hgr;have HN:Hid _:=cr;clear h hm hgr cr;unfold au;go_enter func48,ntmps48;go_wp2_with fail;refine Calls.mono HC.out ?_;rintro e w' ⟨v',rfl,rfl,hd⟩;unfold ba at hd;obtain⟨hi,-,rfl,hx⟩:=hd;have hk:κ i=.txt:=EN.out.kind i .txt hi ⟨_,hx⟩;have hat:kJ w0 (κ i) (E.α i):=by rw[hk];exact⟨_,hx⟩
 have Vi:Hid _:=hat
 have HT:Hid _:=N8 HH.out HM.out EN.out.inj hi hk hx hl;unfold au at HT ⊢;have a1:(Instr.typeAssert (.iface 158 (.pointer (some ⟨E.α i,0,none⟩))) 58 150 true).run prog w'=_:=ak w' nZ xl (by decide);have a2:(Instr.typeAssert (.iface 158 (.pointer (some ⟨E.α i,0,none⟩))) 58 163 true).run prog w'=_:=ak w' mC zeroV (by decide);have a3:(Instr.typeAssert (.iface 158 (.pointer (some ⟨E.α i,0,none⟩))) 58 158 true).run prog w'=_:=bz w' tB;clear HC hx HH HM EN hat
 go_wp2_with fail;refine Calls.mono HT.out ?_;rintro e w1 ⟨k1,g1,hq,rfl,tA⟩;obtain⟨rfl,rfl⟩:k1=k∧g1=g':=by
  have:=hq.symm.trans HN.out;simp only[zam,zab]at this;exact this
 have HG:Hid _:=tA;clear hq tA HT HN;go_wp2_with fail;go_ret;exact⟨rfl,HG.out,hi,Vi.out⟩
theorem RP {n:Nat}(i:Nat)(l:Dt)(hgr:kR w0 lo K L κ E root)(ih:∀m,m≤n→xj w0 lo K L κ E root G M m)(h:dI w0 w G M κ E g bu nv)(hm:gi w0 K κ E g.met)(bY:bn root (.vec i l)=true)(HC:Hid (Calls prog 78 #[v] w λe w'=>∃v',e=.returned v'∧w'=w∧ba lo K L w0 E (.vec i l) v'))(k:Nat)(g':mU)
 (cr:(match g.met.lookup i with|some k=>some (k,g)|none=>(jh root n l [] ⟨g.nodes++[⟨2,[],0,0,[]⟩],(i,g.nodes.length)::g.met⟩).map λy=>(g.nodes.length,{ y.2 with nodes:=dR y.2.nodes g.nodes.length y.1 }))=some (k,g'))(hlen:g'.nodes.length≤999999):
 Calls prog 48 #[au G,v] w λe w'=>e=.returned (.int .i64 (k:Nat))∧Grown w0 w w' G M κ E bu nv g'∧gi w0 K κ E g'.met:=by
 have HH:Hid _:=h;have HM:Hid _:=hm;have EN:Hid _:=hgr;have KB:Hid _:=ih;have HN:Hid _:=cr;simp only[bn,zae,decide_eq_true_eq]at bY;clear h hm hgr ih cr;unfold au;go_enter func48,ntmps48;go_wp2_with fail;refine Calls.mono HC.out ?_;rintro e w' ⟨v',rfl,rfl,hd⟩;unfold ba at hd;obtain⟨hi,-,rfl,sl,vs,hx,hrow,Xm⟩:=hd;have dV:=HH.out.low;have HT:Hid _:=xk EN.out KB.out HH.out HM.out hi (hk:= .vec) ⟨_,hx⟩ 2 l sl vs Xm bY.2 (by rw[Xm.len];exact bY.1) (bg hrow (zah _) λb _ hb=>dV.block b hb) k g' HN.out hlen;have hx1:=(dV.block (E.α i) (zac.1 hx).1).trans hx;have x0:w'.cell? ⟨E.α i,0,none⟩=some sl:=by simp[World.cell?,hx1]
 unfold ki au at HT;unfold au;simp only[HK.p]at HT;have a1:(Instr.typeAssert (.iface 163 (.pointer (some ⟨E.α i,0,none⟩))) 58 150 true).run prog w'=_:=ak w' nZ xl (by decide);have a2:(Instr.typeAssert (.iface 163 (.pointer (some ⟨E.α i,0,none⟩))) 58 163 true).run prog w'=_:=bz w' mC;clear HC hx HH HM EN KB HN dV hx1 hrow Xm;go_wp2_with fail;refine Calls.mono HT.out ?_;rintro e w1 ⟨rfl,tA⟩;have HG:Hid _:=tA;clear tA HT;go_wp2_with fail;go_ret;exact⟨rfl,HG.out⟩
theorem Oh {n:Nat}(i:Nat)(a b:Dt)(hgr:kR w0 lo K L κ E root)(ih:∀m,m≤n→xj w0 lo K L κ E root G M m)(h:dI w0 w G M κ E g bu nv)(hm:gi w0 K κ E g.met)(bY:bn root (.pair i a b)=true)(HC:Hid (Calls prog 78 #[v] w λe w'=>∃v',e=.returned v'∧w'=w∧ba lo K L w0 E (.pair i a b) v'))(k:Nat)(g':mU)
 (cr:(match g.met.lookup i with|some k=>some (k,g)|none=>(jh root n (.cK a (.cK b .iw)) [] ⟨g.nodes++[⟨1,[],0,0,[]⟩],(i,g.nodes.length)::g.met⟩).map λy=>(g.nodes.length,{ y.2 with nodes:=dR y.2.nodes g.nodes.length y.1 }))=some (k,g'))(hlen:g'.nodes.length≤999999):
 Calls prog 48 #[au G,v] w λe w'=>e=.returned (.int .i64 (k:Nat))∧Grown w0 w w' G M κ E bu nv g'∧gi w0 K κ E g'.met:=by
 have mixed:prog.follows Departure.mixedOrders=true:=by kernel_rfl
 have HH:Hid _:=h;have HM:Hid _:=hm;have EN:Hid _:=hgr;have KB:Hid _:=ih;have HN:Hid _:=cr;simp only[bn,zae]at bY;clear h hm hgr ih cr;unfold au;go_enter func48,ntmps48;go_wp2_with fail;refine Calls.mono HC.out ?_;rintro e w' ⟨v',rfl,rfl,hd⟩;unfold ba at hd;obtain⟨hi,-,rfl,va,vb,hx,KD,PY⟩:=hd;obtain⟨ta,ya,rfl⟩:=KD.iface;obtain⟨tb,yb,rfl⟩:=PY.iface;have dV:=HH.out.low;have hb:Below w'.heap.size w' ((w'.alloc (.cells #[.iface ta ya,.iface tb yb] 58)).drew):=((Below.refl _ _).alloc (zaa _) _).drew;have HB:Hid _:=hb;have HT:Hid _:=xk EN.out KB.out (dI.above HH.out hb) HM.out hi (hk:= .pair) ⟨_,hx⟩ 1 (.cK a (.cK b .iw)) (.slice (some ⟨w'.heap.size,0,none⟩) 2 2) [.iface ta ya,.iface tb yb] (by unfold cH;exact⟨.iface ta ya,[.iface tb yb],rfl,KD,by unfold cH;exact⟨.iface tb yb,[],rfl,PY,by unfold cH;rfl⟩⟩) (by simp[bn,bY]) (by simp) (bg (w:=w'.alloc (.cells #[.iface ta ya,.iface tb yb] 58)) (Zp w' _ _) (zah _) λ_ _ _=>rfl) k g' HN.out hlen;have hx1:=(dV.block (E.α i) (zac.1 hx).1).trans hx;have x0:w'.cell? ⟨E.α i,0,none⟩=some (.iface ta ya):=by simp[World.cell?,hx1]
 have x1:w'.cell? ⟨E.α i,1,none⟩=some (.iface tb yb):=by simp[World.cell?,hx1]
 unfold ki au at HT;unfold au;simp only[HK.p]at HT;have a1:(Instr.typeAssert (.iface 150 (.pointer (some ⟨E.α i,0,none⟩))) 58 150 true).run prog w'=_:=bz w' nZ;clear HC hx HH HM EN KB HN dV hx1 KD PY hb;go_wp2_with fail
 go_region_with (refine Calls.mono HT.out ?_;rintro e w1 ⟨rfl,tA⟩;have HG:Hid _:=tA;clear tA)
 all_goals
  go_wp2_with fail;go_ret;exact⟨rfl,Grown.above HG.out.1 HB.out,HG.out.2⟩
end
end Go.Proofs.YtlhimdjkkiflhaaGreatDoor
namespace Go.Proofs.YtlhimdjkkiflhaaGreatDoor
open Go.RowKit Go.Loop
theorem xn {root:Dt}:∀{d:Dt} {v:Value} {w0:World} {lo K:Nat} {L:List Int} {E:Env},ba lo K L w0 E d v→bn root d=true→(bR root 200000 d).hd=true
 |.ask m,_,_,_,_,_,_,_,h=>by simp only[bn,zae]at h;exact h.2
 |.put n x,_,_,_,_,_,_,_,h=>by simp only[bn,zae]at h;exact h.1
 |.nil,_,_,_,_,_,_,_,_=>rfl
 |.sym _,_,_,_,_,_,_,_,_=>rfl
 |.num _ _,_,_,_,_,_,_,_,_=>rfl
 |.cQ _,_,_,_,_,_,_,_,_=>rfl
 |.su _,_,_,_,_,_,_,_,_=>rfl
 |.txt _ _,_,_,_,_,_,_,_,_=>rfl
 |.pair _ _ _,_,_,_,_,_,_,_,_=>rfl
 |.vec _ _,_,_,_,_,_,_,_,_=>rfl
 |.iw,_,_,_,_,_,_,hd,_=>by unfold ba at hd;exact hd.elim
 |.cK _ _,_,_,_,_,_,_,hd,_=>by unfold ba at hd;exact hd.elim
theorem gi.cons {w0:World}{K:Nat}{κ:Nat→HK}{E:Env}{met:List (Nat×Nat)}(h:gi w0 K κ E met){i k:Nat}(hi:i<K)(hat:kJ w0 (κ i) (E.α i))(hq:met.lookup i=none):gi w0 K κ E ((i,k)::met):=by
 refine⟨λp hp=>?_,?_⟩
 ·rcases zao.1 hp with rfl|hp
  ·exact⟨hi,hat⟩
  ·exact h.at_ p hp
 ·rw[zan,List.nodup_cons];refine⟨λpX=>?_,h.nd⟩;obtain⟨q,hq1,uF⟩:=zaP.1 pX;have:=List.lookup_eq_none_iff.1 hq q hq1;simp[uF]at this
section
variable {w0:World}{G M K lo:Nat}{L:List Int}{κ:Nat→HK}{E:Env}{root:Dt}
theorem Di {n:Nat}(hgr:kR w0 lo K L κ E root)(ih:∀m,m≤n→xj w0 lo K L κ E root G M m):xj w0 lo K L κ E root G M (n+1):=by
 intro d v w g bu nv k g' bW bY h hm cr hlen;obtain⟨rv,nX⟩:=hgr.Vb;have zB:=xn bW bY;have HC:Hid _:=zA h.low nX (fu hgr.good) 200000 d v bW (fu bY) zB;have Xo:=nY hgr.good 200000 d bY;have hgrow:=(lW root (n+1)).1 _ _ _ _ cr;unfold lR at cr;cases ht:bR root 200000 d with
 |nil=>
  rw[ht]at cr HC;cases cr;exact(RJ h (by simp[mU.add]at hlen;omega) HC).mono λe w' hx=>⟨hx.1,hx.2,hm⟩
 |sym s=>
  rw[ht]at cr HC Xo;cases cr;exact(RN s (by simpa[bn]using Xo) h (by simp[mU.add]at hlen;omega) HC).mono λe w' hx=>⟨hx.1,hx.2,hm⟩
 |num a b=>
  rw[ht]at cr HC;cases cr;exact(RL a b h (by simp[mU.add]at hlen;omega) HC).mono λe w' hx=>⟨hx.1,hx.2,hm⟩
 |cQ a=>
  rw[ht]at cr HC;cases cr;exact(KG a h (by simp[mU.add]at hlen;omega) HC).mono λe w' hx=>⟨hx.1,hx.2,hm⟩
 |su a=>
  rw[ht]at cr HC;cases cr;exact(RM a h (by simp[mU.add]at hlen;omega) HC).mono λe w' hx=>⟨hx.1,hx.2,hm⟩
 |txt i s=>
  rw[ht]at cr HC;have hl:g.nodes.length+1≤1000000:=by omega
  refine(RO i s hgr h hm hl HC k g' cr).mono λe w' hx=>⟨hx.1,hx.2.1,?_⟩;cases hq:g.met.lookup i with
  |some k0=>simp only[hq]at cr;cases cr;exact hm
  |none=>simp only[hq]at cr;cases cr;exact hm.cons hx.2.2.1 hx.2.2.2 hq
 |pair i a b=>
  rw[ht]at cr HC Xo;exact Oh i a b hgr ih h hm Xo HC k g' cr hlen
 |vec i l=>
  rw[ht]at cr HC Xo;exact RP i l hgr ih h hm Xo HC k g' cr hlen
 |put n x=>rw[ht]at zB;simp[Dt.hd]at zB
 |ask m=>rw[ht]at zB;simp[Dt.hd]at zB
 |iw=>rw[ht]at zB;simp[Dt.hd]at zB
 |cK a l=>rw[ht]at zB;simp[Dt.hd]at zB
theorem xo (hgr:kR w0 lo K L κ E root):∀N n,n≤N→xj w0 lo K L κ E root G M n
 |0,n,h=>by
  obtain rfl:n=0:=by omega
  intro d v w g bu nv k g' _ _ _ _ cr;simp[lR]at cr
 |N+1,n,h=>by
  have ih:=xo hgr N;cases n with
  |zero=>exact ih 0 (zah _)
  |succ n=>exact Di hgr λm hm=>ih m (by omega)
end
end Go.Proofs.YtlhimdjkkiflhaaGreatDoor
namespace Go.Proofs.YtlhimdjkkiflhaaGreatDoor
open Go.Proofs.Tryz
open Go.RowKit Go.Loop
def bC (w:World)(lo:Nat)(nv:Value)(bu:List Value)(nodes:List ng):Prop:=
 w.ownsRow lo 45 5 nv nodes.length (uM nodes bu)∧bu.length=nodes.length∧∀(j:Nat) x sv,nodes[j]?=some x→bu[j]?=some sv→Tq w lo sv x.subs
theorem uj (w0:World)(E:Env):∃κ:Nat→HK,∀i h,kJ w0 h (E.α i)→κ i=h:=by
 have hex:∀i,∃k:HK,∀h,kJ w0 h (E.α i)→k=h:=λi=>by
  by_cases e:∃h,kJ w0 h (E.α i)
  ·obtain⟨h,hh⟩:=e;exact⟨h,λh' Tg=>hh.same Tg⟩
  ·exact⟨.txt,λh hh=>absurd ⟨h,hh⟩ e⟩
 exact⟨λi=>Classical.choose (hex i),λi=>Classical.choose_spec (hex i)⟩
theorem Dj {lo K:Nat}{L:List Int}{E:Env}(w:World)(root:Dt)(v:Value)(hd:ba lo K L w E root v)(bY:bn root root=true)(lV:∀i j,i<K→j<K→E.α i=E.α j→i=j)(f:Nat)(k:Nat)(g':mU)(cr:lR root f root ⟨[],[]⟩=some (k,g'))(hlen:g'.nodes.length≤999999):Calls prog 30 #[v] w λe w'=>∃nv bu,e=.returned nv∧bC w' w.heap.size nv bu g'.nodes∧Below w.heap.size w w':=by
 obtain⟨κ,Tv⟩:=uj w E;have hgr:kR w lo K L κ E root:=⟨⟨v,hd⟩,bY,lV,λi h _ hh=>Tv i h hh⟩;have hb2:Below w.heap.size w ((w.alloc (.map #[] 0)).alloc (.cells #[.slice none 0 0,.map (some w.heap.size)] 100)):=((Below.refl _ w).alloc (zaa _) _).alloc (by simp) _;have hG:dI w ((w.alloc (.map #[] 0)).alloc (.cells #[.slice none 0 0,.map (some w.heap.size)] 100)) (w.heap.size+1) w.heap.size κ E ⟨[],[]⟩ [] (.slice none 0 0):=
  ⟨by omega,by omega,zaa _,hb2,cO w _ _,World.ownsRow_nil _ _ _ _,⟨#[],0,(Lib.alloc_old _ _ _ (by simp)).trans (heap_alloc_new w _),rfl⟩,rfl,λj x sv h=>(by simp at h)⟩
 have HN:Hid _:=xo hgr f f (zaa _) root v _ ⟨[],[]⟩ [] (.slice none 0 0) k g' hd bY hG ⟨λp hp=>(by cases hp),List.nodup_nil⟩ cr hlen;have PX:(Instr.makeMap 98 none).run prog w=.ok (.map (some w.heap.size)) (w.alloc (.map #[] 0)):=rfl;clear hgr hb2 hG hd bY lV cr;unfold au at HN;go_enter func30,ntmps30;go_wp2_with fail;refine Calls.mono HN.out ?_;rintro e w1 ⟨rfl,⟨bu,nv,hG,-,-,-⟩,-⟩;have HF:Hid (bC w1 w.heap.size nv bu g'.nodes∧Below w.heap.size w w1):=⟨⟨hG.row,hG.len,hG.subs⟩,hG.low⟩;have y0:w1.cell? ⟨w.heap.size+1,0,none⟩=some nv:=by
  have hblk:=hG.blk;simp[World.cell?,hblk]
 clear hG HN;go_wp2_with fail;go_ret;exact⟨nv,bu,rfl,HF.out⟩
end Go.Proofs.YtlhimdjkkiflhaaGreatDoor
