import Derived.Deep.Cut
import Derived.Deep.RegionWith
import Derived.Test.YtlhimdjkkiflhaaGreatDoorRet20
set_option maxHeartbeats 8000000
set_option maxRecDepth 100000
open Go.Value renaming int→Γ
open Go.IntKind renaming i64→Δ
open Go.Instr renaming typeAssert→Θ
open Go renaming World→Λ,Calls→Ξ,Value→Φ,madeCells→Ω
open Go.RowKit renaming Below→ζ
namespace Go.Proofs.YtlhimdjkkiflhaaGreatDoor
open Go.Proofs.Tryz
open Go.RowKit Go.Loop
theorem Qa (n:Nat):Ω #[Γ Δ 0] n=iV [] n:=by
 unfold Ω iV;apply Array.ext
 ·simp
 ·intro i h1 h2;simp[Nat.mod_one]
section
variable {w0 w:Λ}{G M K:Nat}{κ:Nat→HK}{E:Env}{g:fP}{bN:List Φ}{nv:Φ}
theorem eG.above {w':Λ}(h:eG w0 w G M κ E g bN nv)(hb:ζ w.heap.size w w'):eG w0 w' G M κ E g bN nv:=by
 obtain⟨es,c,hm,YR⟩:=h.map;have hl:=h.low.size;refine⟨h.gm,h.glo,h.mlo,⟨hb.os.trans h.low.os,hb.tape.trans h.low.tape,hb.output.trans h.low.output,zag hl hb.size,λb hb'=>(hb.block b (by omega)).trans (h.low.block b hb')⟩,(hb.block G (zaj.1 h.blk).1).trans h.blk,bC h.row (zac _) λb _ hlt=>hb.block b hlt,⟨es,c,(hb.block M (zaj.1 hm).1).trans hm,YR⟩,h.len,λj x sv hx rM=>?_⟩;rcases h.subs j x sv hx rM with q|⟨b,q1,q2,q3⟩
 ·exact .inl q
 ·exact .inr ⟨b,q1,q2,(hb.block b (zaj.1 q3).1).trans q3⟩
theorem eG.sub_lt (h:eG w0 w G M κ E g bN nv):∀sv∈bN,∀b,sv.ownBlock=some b→b<w.heap.size:=by
 intro sv rM b hb;obtain⟨j,hj⟩:=List.mem_iff_getElem?.1 rM;have xJ:j<g.nodes.length:=by rw[←h.len];exact(zbh.1 hj).1
 rcases h.subs j _ sv (zat xJ) hj with⟨rfl,_⟩|⟨b',rfl,_,q3⟩
 ·cases hb
 ·cases hb;exact(zaj.1 q3).1
theorem yN {lo:Nat}{L:List Int}{root:Dt}{n:Nat}(hgr:mY w0 lo K L κ E root)(ih:∀m,m≤n→yL w0 lo K L κ E root G M m)(h:eG w0 w G M κ E g bN nv)(hm:gO w0 K κ E g.met){i:Nat}(hi:i<K){hk:HK}(Xl:rI w0 hk (E.α i))(c:Nat)
 (l:Dt)(hv:Φ)(vs:List Φ)(hD:df lo K L w0 E l vs)(dh:bH root l=true)(SI:vs.length≤1000)(hrow:w.ownsRow 0 58 1 hv vs.length vs)(k:Nat)(g':fP)
 (cO:(match g.met.lookup i with|some k=>some (k,g)|none=>(dV root n l [] ⟨g.nodes++[⟨c,[],0,0,[]⟩],(i,g.nodes.length)::g.met⟩).map λy=>(g.nodes.length,{ y.2 with nodes:=bE y.2.nodes g.nodes.length y.1 }))=some (k,g'))(hlen:g'.nodes.length≤999999):
 Ξ prog 80 #[aC G,kU hk (E.α i),Γ Δ c,hv] w λe w'=>e=.returned (Γ Δ (k:Nat))∧Grown w0 w w' G M κ E bN nv g'∧gO w0 K κ E g'.met:=by
 have hκ:κ i=hk:=hgr.kind i hk hi Xl;have hat:rI w0 (κ i) (E.α i):=by rw[hκ];exact Xl
 have cU:=h.look hm hgr.inj hi hat
 obtain⟨ha,hc,rfl⟩:=bD hrow;obtain⟨g0,g1⟩:w.cell? ⟨G,0,none⟩=some nv∧w.cell? ⟨G,1,none⟩=some (.map (some M)):=by
  constructor<;>simp[Λ.cell?,h.blk]
 cases hq:g.met.lookup i with
 |some k0=>
  rw[hq]at cO;cases cO;rw[hq,hκ]at cU;simp only[zbg,Option.isSome_some]at cU;have HG:Hid _:=(⟨Grown.refl h,hm⟩:_∧_);clear h hm hat hD hrow dh;unfold kU aC at cU ⊢;go_enter func80,ntmps80;go_wp2_with fail;go_ret;exact⟨rfl,HG.out⟩
 |none=>
  rw[hq]at cO;obtain⟨⟨ks,g2⟩,hL,e⟩:=zas.1 cO;cases e;have SH:=(my root n).2 _ _ _ _ _ hL;have Xm:g2.nodes.length≤999999:=by simpa[bE]using hlen
  have rq:g.nodes.length+1≤1000000:=by simp at SH;omega
  rw[hq,hκ]at cU;simp only[zbH,Option.isSome_none]at cU;have HC:Hid _:=kW h ⟨c,[],0,0,[]⟩ rfl rq;have hmk:=run_make_row' (P:=prog) 43 3 (Γ Δ 0) 8 underlying43 FJ rfl .i64 .i64 vs.length (by omega) (by omega);have HH:Hid _:=h;have HM:Hid _:=hm;have G3:Hid _:=hgr;have Dh:Hid _:=hat
  have HL:Hid _:=hL;have ku:Hid _:=hrow;have yM:Hid _:=ih;clear h hm hgr hat hL cO hrow ih;unfold kU aC at cU ⊢;unfold aC kt at HC;simp only at HC;go_enter func80,ntmps80;go_wp2_with fail;refine zai HC.out ?_;rintro e w1 ⟨rfl,uz⟩;obtain⟨MA,Xj,h1,k1,b1,s1⟩:=id uz;obtain⟨o,hput,hmap⟩:=yG h1.map i g.nodes.length (rI.low Dh.out h1.low) (λp hp=>rI.low (HM.out.at_ p hp).2 h1.low) (λp hp e=>G3.out.inj i p.1 hi (HM.out.at_ p hp).1 e) HM.out.nd hq;obtain⟨abb,nv2,h2,k2,b2,s2⟩:=Grown.met uz hmap;obtain⟨y0,y1⟩:w1.cell? ⟨G,0,none⟩=some Xj∧w1.cell? ⟨G,1,none⟩=some (.map (some M)):=by
   constructor<;>simp[Λ.cell?,h1.blk]
  rw[hκ]at hput;unfold kU aC at hput;have DN:gO w0 K κ E ((i,g.nodes.length)::g.met):=by
   refine⟨λp hp=>?_,?_⟩
   ·rcases zal.1 hp with rfl|hp
    ·exact⟨hi,Dh.out⟩
    ·exact HM.out.at_ p hp
   ·rw[zaB,zco];refine⟨λAH=>?_,HM.out.nd⟩;obtain⟨q,hq1,Bt⟩:=zbo.1 AH;have:=List.lookup_eq_none_iff.1 hq q hq1;simp[Bt]at this
  have h1b:=h1.blk;generalize hw2:({ w1 with heap:=w1.heap.setIfInBounds M o }:Λ)=w2 at *;have hs2:=k2.size;have mk2:=hmk w2;have hb3:ζ w2.heap.size w2 (w2.alloc (.cells (Ω #[Γ Δ 0] vs.length) 3)):=(zad _ _).alloc (zac _) _;have h3:=h2.above hb3;have Xn:Hid ((w2.alloc (.cells (Ω #[Γ Δ 0] vs.length) 3)).ownsRow 0 58 1 (.slice ha vs.length hc) vs.length vs):=by
   have hrow:=ku.out;refine⟨hrow.1,hrow.2.imp id ?_⟩;rintro ⟨b,cp,cu,p1,p2,p3,p4⟩;have hbl:b<w.heap.size:=(zaj.1 p3).1;have hbG:b≠G:=λe=>by rw[e,HH.out.blk]at p3;simp at p3
   have hbM:b≠M:=λe=>by obtain⟨es,cl,q2,-⟩:=HH.out.map;rw[e,q2]at p3;simp at p3
   have hbN:=eG.ux HH.out b _ p3 (λcur e=>by simp at e);exact⟨b,cp,cu,p1,p2,(hb3.block b (by omega)).trans ((k2.block b hbl hbG hbM hbN).trans p3),p4⟩
  have nZ:Hid (jO G M nv.ownBlock w (w2.alloc (.cells (Ω #[Γ Δ 0] vs.length) 3))):=k2.trans ((Kp.aG hb3).a _);have hw0:=h2.low.size;have HT:Hid _:=FL yM.out w (w2.alloc (.cells (Ω #[Γ Δ 0] vs.length) 3)) bN nv g.nodes.length w2.heap.size (.slice ha vs.length hc) vs l _ g2 abb nv2 ks HL.out Xm (by simp) SI hD dh h3 DN nZ.out b2 s2 (by rw[zav,Qa]) hs2 hw0 (λsv rM e=>by have:=h2.sub_lt sv rM _ e;omega) Xn.out;clear uz h1 k1 b1 s1 hmap h2 k2 b2 s2 hb3 h3 DN hw2 HC HL yM ku Xn nZ HH HM G3 Dh hmk
  go_upto_region 6 with fail
  rename_i hK;have HKK:Hid _:=hK;clear hK;go_wp2_with fail;exact HKK.out _ _ (HT.out _ _ _ _ _ _ _ _ _ _ _ _ _ _ _ _ _ _ _ _ _ _ _ _ _ _ _ _ _ _ _ _ _ _ _ _ _ _ _ _ _ _ _ _ _ _ _ _ _ _ _ _ _ _ _ _ _ _)
end
theorem oU:jY prog 150=true:=by kernel_rfl
theorem yO:(prog.info? 150).bind (·.zero)=some (.pointer none):=by kernel_rfl
theorem mZ:jY prog 163=true:=by kernel_rfl
theorem zeroV:(prog.info? 163).bind (·.zero)=some (.pointer none):=by kernel_rfl
theorem uA:jY prog 158=true:=by kernel_rfl
theorem FM:(prog.info? 158).bind (·.zero)=some (.pointer none):=by kernel_rfl
theorem yP:jY prog 168=true:=by kernel_rfl
theorem Ku:(prog.info? 168).bind (·.zero)=some (.agg #[.string ⟨#[]⟩]):=by kernel_rfl
theorem Di:jY prog 153=true:=by kernel_rfl
theorem IV:(prog.info? 153).bind (·.zero)=some (.agg #[Γ Δ 0,Γ Δ 0]):=by kernel_rfl
theorem Dj:jY prog 155=true:=by kernel_rfl
theorem Qb:(prog.info? 155).bind (·.zero)=some (.agg #[Γ Δ 0]):=by kernel_rfl
theorem Qc:jY prog 157=true:=by kernel_rfl
theorem abc:(prog.info? 157).bind (·.zero)=some (.agg #[Γ Δ 0]):=by kernel_rfl
theorem MC (s:ByteArray)(w:Λ)(Yy:s.size≤281474976710656):Ξ prog 83 #[.string s] w λe w'=>e=.returned (.string s)∧ζ w.heap.size w w':=by
 have HC:Hid _:=Tryz.stringslite_Clone s w Yy;go_enter func83,ntmps83;go_wp2_with fail;refine zai HC.out ?_;rintro e w1 ⟨rfl,hb⟩;have HB:Hid _:=hb;clear hb;go_wp2_with fail;go_ret;exact⟨rfl,HB.out⟩
section
variable {w0 w:Λ}{G M K lo:Nat}{L:List Int}{κ:Nat→HK}{E:Env}{g:fP}{bN:List Φ}{nv v:Φ}
theorem Grown.above {w1 w2:Λ}{g':fP}(h:Grown w0 w1 w2 G M κ E bN nv g')(hb:ζ w.heap.size w w1):Grown w0 w w2 G M κ E bN nv g':=by
 obtain⟨yJ,Uw,h1,h2,h3,h4⟩:=h;have hs:=hb.size;exact⟨yJ,Uw,h1,((Kp.aG hb).a _).trans h2,h3.imp id (λ⟨b,e,q⟩=>⟨b,e,by omega⟩),λsv rM b hb'=>(h4 sv rM b hb').imp id λq=>by omega⟩
theorem UA (h:eG w0 w G M κ E g bN nv)(hl:g.nodes.length+1≤1000000)(HC:Hid (Ξ prog 78 #[v] w λe w'=>∃v',e=.returned v'∧w'=w∧ct lo K L w0 E .nil v')):Ξ prog 48 #[aC G,v] w λe w'=>e=.returned (Γ Δ (g.nodes.length:Nat))∧Grown w0 w w' G M κ E bN nv (g.add ⟨0,[],0,0,[]⟩):=by
 have HA:Hid _:=kW h ⟨0,[],0,0,[]⟩ rfl hl;clear h;unfold aC kt at HA;simp only at HA;unfold aC;go_enter func48,ntmps48;go_wp2_with fail;refine zai HC.out ?_;rintro e w' ⟨v',rfl,rfl,hd⟩;unfold ct at hd;subst hd;have a1:(Θ (.iface 272 (.agg #[])) 58 150 true).run prog w'=_:=au w' oU yO (by decide);have a2:(Θ (.iface 272 (.agg #[])) 58 163 true).run prog w'=_:=au w' mZ zeroV (by decide);have a3:(Θ (.iface 272 (.agg #[])) 58 158 true).run prog w'=_:=au w' uA FM (by decide);have a4:(Θ (.iface 272 (.agg #[])) 58 168 true).run prog w'=_:=au w' yP Ku (by decide);have a5:(Θ (.iface 272 (.agg #[])) 58 153 true).run prog w'=_:=au w' Di IV (by decide);have a6:(Θ (.iface 272 (.agg #[])) 58 155 true).run prog w'=_:=au w' Dj Qb (by decide);have a7:(Θ (.iface 272 (.agg #[])) 58 157 true).run prog w'=_:=au w' Qc abc (by decide);clear HC;go_wp2_with fail;refine zai HA.out ?_;rintro e w1 ⟨rfl,uz⟩;have HG:Hid _:=uz;clear uz HA;go_wp2_with fail;go_ret;exact⟨rfl,HG.out⟩
end
section
variable {w0 w:Λ}{G M K lo:Nat}{L:List Int}{κ:Nat→HK}{E:Env}{g:fP}{bN:List Φ}{nv v:Φ}
theorem UB (a b:Int)(h:eG w0 w G M κ E g bN nv)(hl:g.nodes.length+1≤1000000)(HC:Hid (Ξ prog 78 #[v] w λe w'=>∃v',e=.returned v'∧w'=w∧ct lo K L w0 E (.num a b) v')):Ξ prog 48 #[aC G,v] w λe w'=>e=.returned (Γ Δ (g.nodes.length:Nat))∧Grown w0 w w' G M κ E bN nv (g.add ⟨5,[],a,b,[]⟩):=by
 have hb:ζ w.heap.size w (w.alloc (.cells #[Γ Δ a,Γ Δ b] 153)):=(zad _ _).alloc (zac _) _;have HB:Hid _:=hb;have HA:Hid _:=kW (h.above hb) ⟨5,[],a,b,[]⟩ rfl hl;clear h hb;unfold aC kt at HA;simp only at HA;unfold aC;go_enter func48,ntmps48;go_wp2_with fail;refine zai HC.out ?_;rintro e w' ⟨v',rfl,rfl,hd⟩;unfold ct at hd;subst hd;have a1:(Θ (.iface 153 (.agg #[Γ Δ a,Γ Δ b])) 58 150 true).run prog w'=_:=au w' oU yO (by decide);have a2:(Θ (.iface 153 (.agg #[Γ Δ a,Γ Δ b])) 58 163 true).run prog w'=_:=au w' mZ zeroV (by decide);have a3:(Θ (.iface 153 (.agg #[Γ Δ a,Γ Δ b])) 58 158 true).run prog w'=_:=au w' uA FM (by decide);have a4:(Θ (.iface 153 (.agg #[Γ Δ a,Γ Δ b])) 58 168 true).run prog w'=_:=au w' yP Ku (by decide);have a5:(Θ (.iface 153 (.agg #[Γ Δ a,Γ Δ b])) 58 153 true).run prog w'=_:=dM w' Di;clear HC;go_wp2_with fail;refine zai HA.out ?_;rintro e w1 ⟨rfl,uz⟩;have HG:Hid _:=Grown.above uz HB.out;clear uz HA HB;go_wp2_with fail;go_ret;exact⟨rfl,HG.out⟩
theorem MD (a:Int)(h:eG w0 w G M κ E g bN nv)(hl:g.nodes.length+1≤1000000)(HC:Hid (Ξ prog 78 #[v] w λe w'=>∃v',e=.returned v'∧w'=w∧ct lo K L w0 E (.cD a) v')):Ξ prog 48 #[aC G,v] w λe w'=>e=.returned (Γ Δ (g.nodes.length:Nat))∧Grown w0 w w' G M κ E bN nv (g.add ⟨6,[],a,0,[]⟩):=by
 have hb:ζ w.heap.size w (w.alloc (.cells #[Γ Δ a] 155)):=(zad _ _).alloc (zac _) _;have HB:Hid _:=hb;have HA:Hid _:=kW (h.above hb) ⟨6,[],a,0,[]⟩ rfl hl;clear h hb;unfold aC kt at HA;simp only at HA;unfold aC;go_enter func48,ntmps48;go_wp2_with fail;refine zai HC.out ?_;rintro e w' ⟨v',rfl,rfl,hd⟩;unfold ct at hd;subst hd;have a1:(Θ (.iface 155 (.agg #[Γ Δ a])) 58 150 true).run prog w'=_:=au w' oU yO (by decide);have a2:(Θ (.iface 155 (.agg #[Γ Δ a])) 58 163 true).run prog w'=_:=au w' mZ zeroV (by decide);have a3:(Θ (.iface 155 (.agg #[Γ Δ a])) 58 158 true).run prog w'=_:=au w' uA FM (by decide);have a4:(Θ (.iface 155 (.agg #[Γ Δ a])) 58 168 true).run prog w'=_:=au w' yP Ku (by decide);have a5:(Θ (.iface 155 (.agg #[Γ Δ a])) 58 153 true).run prog w'=_:=au w' Di IV (by decide);have a6:(Θ (.iface 155 (.agg #[Γ Δ a])) 58 155 true).run prog w'=_:=dM w' Dj;clear HC;go_wp2_with fail;refine zai HA.out ?_;rintro e w1 ⟨rfl,uz⟩;have HG:Hid _:=Grown.above uz HB.out;clear uz HA HB;go_wp2_with fail;go_ret;exact⟨rfl,HG.out⟩
theorem UC (a:Int)(h:eG w0 w G M κ E g bN nv)(hl:g.nodes.length+1≤1000000)(HC:Hid (Ξ prog 78 #[v] w λe w'=>∃v',e=.returned v'∧w'=w∧ct lo K L w0 E (.kB a) v')):Ξ prog 48 #[aC G,v] w λe w'=>e=.returned (Γ Δ (g.nodes.length:Nat))∧Grown w0 w w' G M κ E bN nv (g.add ⟨7,[],a,0,[]⟩):=by
 have hb:ζ w.heap.size w (w.alloc (.cells #[Γ Δ a] 157)):=(zad _ _).alloc (zac _) _;have HB:Hid _:=hb;have HA:Hid _:=kW (h.above hb) ⟨7,[],a,0,[]⟩ rfl hl;clear h hb;unfold aC kt at HA;simp only at HA;unfold aC;go_enter func48,ntmps48;go_wp2_with fail;refine zai HC.out ?_;rintro e w' ⟨v',rfl,rfl,hd⟩;unfold ct at hd;subst hd;have a1:(Θ (.iface 157 (.agg #[Γ Δ a])) 58 150 true).run prog w'=_:=au w' oU yO (by decide);have a2:(Θ (.iface 157 (.agg #[Γ Δ a])) 58 163 true).run prog w'=_:=au w' mZ zeroV (by decide);have a3:(Θ (.iface 157 (.agg #[Γ Δ a])) 58 158 true).run prog w'=_:=au w' uA FM (by decide);have a4:(Θ (.iface 157 (.agg #[Γ Δ a])) 58 168 true).run prog w'=_:=au w' yP Ku (by decide);have a5:(Θ (.iface 157 (.agg #[Γ Δ a])) 58 153 true).run prog w'=_:=au w' Di IV (by decide);have a6:(Θ (.iface 157 (.agg #[Γ Δ a])) 58 155 true).run prog w'=_:=au w' Dj Qb (by decide);have a7:(Θ (.iface 157 (.agg #[Γ Δ a])) 58 157 true).run prog w'=_:=dM w' Qc;clear HC;go_wp2_with fail;refine zai HA.out ?_;rintro e w1 ⟨rfl,uz⟩;have HG:Hid _:=Grown.above uz HB.out;clear uz HA HB;go_wp2_with fail;go_ret;exact⟨rfl,HG.out⟩
theorem UD (s:List UInt8)(hs:s.length≤1000000)(h:eG w0 w G M κ E g bN nv)(hl:g.nodes.length+1≤1000000)(HC:Hid (Ξ prog 78 #[v] w λe w'=>∃v',e=.returned v'∧w'=w∧ct lo K L w0 E (.sym s) v')):Ξ prog 48 #[aC G,v] w λe w'=>e=.returned (Γ Δ (g.nodes.length:Nat))∧Grown w0 w w' G M κ E bN nv (g.add ⟨4,s,0,0,[]⟩):=by
 have hb:ζ w.heap.size w (w.alloc (.cells #[.string ⟨⟨s⟩⟩] 168)):=(zad _ _).alloc (zac _) _;have Xo:Hid _:=MC ⟨⟨s⟩⟩ (w.alloc (.cells #[.string ⟨⟨s⟩⟩] 168)) (by show s.length≤_;omega);have HB:Hid _:=hb;have HH:Hid _:=h;clear h hb;unfold aC;go_enter func48,ntmps48;go_wp2_with fail;refine zai HC.out ?_;rintro e w' ⟨v',rfl,rfl,hd⟩;unfold ct at hd;subst hd;have a1:(Θ (.iface 168 (.agg #[.string ⟨⟨s⟩⟩])) 58 150 true).run prog w'=_:=au w' oU yO (by decide);have a2:(Θ (.iface 168 (.agg #[.string ⟨⟨s⟩⟩])) 58 163 true).run prog w'=_:=au w' mZ zeroV (by decide);have a3:(Θ (.iface 168 (.agg #[.string ⟨⟨s⟩⟩])) 58 158 true).run prog w'=_:=au w' uA FM (by decide);have a4:(Θ (.iface 168 (.agg #[.string ⟨⟨s⟩⟩])) 58 168 true).run prog w'=_:=dM w' yP;clear HC;go_wp2_with fail;refine zai Xo.out ?_;rintro e w2 ⟨rfl,hb2⟩;have hb3:ζ w'.heap.size w' w2:=⟨hb2.os.trans HB.out.os,hb2.tape.trans HB.out.tape,hb2.output.trans HB.out.output,zag HB.out.size hb2.size,λb hlt=>(hb2.block b (zaI hlt HB.out.size)).trans (HB.out.block b hlt)⟩;have iT:Hid _:=hb3;have HA:Hid _:=kW (eG.above HH.out hb3) ⟨4,s,0,0,[]⟩ rfl hl;clear hb2 hb3 Xo HB HH;unfold aC kt at HA;simp only at HA;go_wp2_with fail;refine zai HA.out ?_;rintro e w1 ⟨rfl,uz⟩;have HG:Hid _:=Grown.above uz iT.out;clear uz HA iT;go_wp2_with fail;go_ret;exact⟨rfl,HG.out⟩
end
section
variable {w0 w:Λ}{G M K lo:Nat}{L:List Int}{κ:Nat→HK}{E:Env}{g:fP}{bN:List Φ}{nv v:Φ}{root:Dt}
theorem df.len:∀{l:Dt} {vs:List Φ},df lo K L w0 E l vs→vs.length=l.mX
 |.br a l,vs,h=>by
  unfold df at h;obtain⟨v,r,rfl,_,h2⟩:=h;simp[Dt.mX,df.len h2]
 |.cZ,vs,h=>by unfold df at h;subst h;rfl
 |.nil,_,h=>by unfold df at h;exact h.elim
 |.sym _,_,h=>by unfold df at h;exact h.elim
 |.num _ _,_,h=>by unfold df at h;exact h.elim
 |.cD _,_,h=>by unfold df at h;exact h.elim
 |.kB _,_,h=>by unfold df at h;exact h.elim
 |.txt _ _,_,h=>by unfold df at h;exact h.elim
 |.pair _ _ _,_,h=>by unfold df at h;exact h.elim
 |.vec _ _,_,h=>by unfold df at h;exact h.elim
 |.put _ _,_,h=>by unfold df at h;exact h.elim
 |.ask _,_,h=>by unfold df at h;exact h.elim
theorem ct.iface:∀{d:Dt} {v:Φ},ct lo K L w0 E d v→∃t y,v=.iface t y
 |.nil,v,h=>by unfold ct at h;exact⟨_,_,h⟩
 |.sym _,v,h=>by unfold ct at h;exact⟨_,_,h⟩
 |.num _ _,v,h=>by unfold ct at h;exact⟨_,_,h⟩
 |.cD _,v,h=>by unfold ct at h;exact⟨_,_,h⟩
 |.kB _,v,h=>by unfold ct at h;exact⟨_,_,h⟩
 |.txt _ _,v,h=>by unfold ct at h;exact⟨_,_,h.2.2.1⟩
 |.pair _ _ _,v,h=>by unfold ct at h;exact⟨_,_,h.2.2.1⟩
 |.vec _ _,v,h=>by unfold ct at h;exact⟨_,_,h.2.2.1⟩
 |.put _ d,v,h=>by unfold ct at h;exact ct.iface (d:=d) h.2.2.2
 |.ask _,v,h=>by unfold ct at h;exact⟨_,_,h.2⟩
 |.cZ,v,h=>by unfold ct at h;exact h.elim
 |.br _ _,v,h=>by unfold ct at h;exact h.elim
theorem UE (i:Nat)(s:List UInt8)(hgr:mY w0 lo K L κ E root)(h:eG w0 w G M κ E g bN nv)(hm:gO w0 K κ E g.met)(hl:g.nodes.length+1≤1000000)(HC:Hid (Ξ prog 78 #[v] w λe w'=>∃v',e=.returned v'∧w'=w∧ct lo K L w0 E (.txt i s) v'))(k:Nat)(g':fP)
 (cO:(match g.met.lookup i with|some k=>some (k,g)|none=>some (g.nodes.length,⟨g.nodes++[⟨3,s,0,0,[]⟩],(i,g.nodes.length)::g.met⟩))=some (k,g')):
 Ξ prog 48 #[aC G,v] w λe w'=>e=.returned (Γ Δ (k:Nat))∧Grown w0 w w' G M κ E bN nv g'∧i<K∧rI w0 (κ i) (E.α i):=by
 have HH:Hid _:=h;have HM:Hid _:=hm;have G3:Hid _:=hgr;have HN:Hid _:=cO;clear h hm hgr cO;unfold aC;go_enter func48,ntmps48;go_wp2_with fail;refine zai HC.out ?_;rintro e w' ⟨v',rfl,rfl,hd⟩;unfold ct at hd;obtain⟨hi,-,rfl,hx⟩:=hd;have hk:κ i=.txt:=G3.out.kind i .txt hi ⟨_,hx⟩;have hat:rI w0 (κ i) (E.α i):=by rw[hk];exact⟨_,hx⟩
 have Dh:Hid _:=hat
 have HT:Hid _:=P6 HH.out HM.out G3.out.inj hi hk hx hl;unfold aC at HT ⊢;have a1:(Θ (.iface 158 (.pointer (some ⟨E.α i,0,none⟩))) 58 150 true).run prog w'=_:=au w' oU yO (by decide);have a2:(Θ (.iface 158 (.pointer (some ⟨E.α i,0,none⟩))) 58 163 true).run prog w'=_:=au w' mZ zeroV (by decide);have a3:(Θ (.iface 158 (.pointer (some ⟨E.α i,0,none⟩))) 58 158 true).run prog w'=_:=dM w' uA;clear HC hx HH HM G3 hat
 go_wp2_with fail;refine zai HT.out ?_;rintro e w1 ⟨k1,g1,hq,rfl,uz⟩;obtain⟨rfl,rfl⟩:k1=k∧g1=g':=by
  have:=hq.symm.trans HN.out;simp only[zaE,zaf]at this;exact this
 have HG:Hid _:=uz;clear hq uz HT HN;go_wp2_with fail;go_ret;exact⟨rfl,HG.out,hi,Dh.out⟩
theorem UF {n:Nat}(i:Nat)(l:Dt)(hgr:mY w0 lo K L κ E root)(ih:∀m,m≤n→yL w0 lo K L κ E root G M m)(h:eG w0 w G M κ E g bN nv)(hm:gO w0 K κ E g.met)(dh:bH root (.vec i l)=true)(HC:Hid (Ξ prog 78 #[v] w λe w'=>∃v',e=.returned v'∧w'=w∧ct lo K L w0 E (.vec i l) v'))(k:Nat)(g':fP)
 (cO:(match g.met.lookup i with|some k=>some (k,g)|none=>(dV root n l [] ⟨g.nodes++[⟨2,[],0,0,[]⟩],(i,g.nodes.length)::g.met⟩).map λy=>(g.nodes.length,{ y.2 with nodes:=bE y.2.nodes g.nodes.length y.1 }))=some (k,g'))(hlen:g'.nodes.length≤999999):
 Ξ prog 48 #[aC G,v] w λe w'=>e=.returned (Γ Δ (k:Nat))∧Grown w0 w w' G M κ E bN nv g'∧gO w0 K κ E g'.met:=by
 have HH:Hid _:=h;have HM:Hid _:=hm;have G3:Hid _:=hgr;have yM:Hid _:=ih;have HN:Hid _:=cO;simp only[bH,zae,zaK]at dh;clear h hm hgr ih cO;unfold aC;go_enter func48,ntmps48;go_wp2_with fail;refine zai HC.out ?_;rintro e w' ⟨v',rfl,rfl,hd⟩;unfold ct at hd;obtain⟨hi,-,rfl,sl,vs,hx,hrow,hdl⟩:=hd;have fV:=HH.out.low;have HT:Hid _:=yN G3.out yM.out HH.out HM.out hi (hk:= .vec) ⟨_,hx⟩ 2 l sl vs hdl dh.2 (by rw[hdl.len];exact dh.1) (bC hrow (zaq _) λb _ hb=>fV.block b hb) k g' HN.out hlen;have hx1:=(fV.block (E.α i) (zaj.1 hx).1).trans hx;have x0:w'.cell? ⟨E.α i,0,none⟩=some sl:=by simp[Λ.cell?,hx1]
 unfold kU aC at HT;unfold aC;simp only[HK.p]at HT;have a1:(Θ (.iface 163 (.pointer (some ⟨E.α i,0,none⟩))) 58 150 true).run prog w'=_:=au w' oU yO (by decide);have a2:(Θ (.iface 163 (.pointer (some ⟨E.α i,0,none⟩))) 58 163 true).run prog w'=_:=dM w' mZ;clear HC hx HH HM G3 yM HN fV hx1 hrow hdl;go_wp2_with fail;refine zai HT.out ?_;rintro e w1 ⟨rfl,uz⟩;have HG:Hid _:=uz;clear uz HT;go_wp2_with fail;go_ret;exact⟨rfl,HG.out⟩
theorem Qd {n:Nat}(i:Nat)(a b:Dt)(hgr:mY w0 lo K L κ E root)(ih:∀m,m≤n→yL w0 lo K L κ E root G M m)(h:eG w0 w G M κ E g bN nv)(hm:gO w0 K κ E g.met)(dh:bH root (.pair i a b)=true)(HC:Hid (Ξ prog 78 #[v] w λe w'=>∃v',e=.returned v'∧w'=w∧ct lo K L w0 E (.pair i a b) v'))(k:Nat)(g':fP)
 (cO:(match g.met.lookup i with|some k=>some (k,g)|none=>(dV root n (.br a (.br b .cZ)) [] ⟨g.nodes++[⟨1,[],0,0,[]⟩],(i,g.nodes.length)::g.met⟩).map λy=>(g.nodes.length,{ y.2 with nodes:=bE y.2.nodes g.nodes.length y.1 }))=some (k,g'))(hlen:g'.nodes.length≤999999):
 Ξ prog 48 #[aC G,v] w λe w'=>e=.returned (Γ Δ (k:Nat))∧Grown w0 w w' G M κ E bN nv g'∧gO w0 K κ E g'.met:=by
 have mixed:prog.follows Departure.mixedOrders=true:=by kernel_rfl
 have HH:Hid _:=h;have HM:Hid _:=hm;have G3:Hid _:=hgr;have yM:Hid _:=ih;have HN:Hid _:=cO;simp only[bH,zae]at dh;clear h hm hgr ih cO;unfold aC;go_enter func48,ntmps48;go_wp2_with fail;refine zai HC.out ?_;rintro e w' ⟨v',rfl,rfl,hd⟩;unfold ct at hd;obtain⟨hi,-,rfl,va,vb,hx,hda,hdb⟩:=hd;obtain⟨ta,ya,rfl⟩:=hda.iface;obtain⟨tb,yb,rfl⟩:=hdb.iface;have fV:=HH.out.low;have hb:ζ w'.heap.size w' ((w'.alloc (.cells #[.iface ta ya,.iface tb yb] 58)).drew):=((zad _ _).alloc (zac _) _).drew;have HB:Hid _:=hb;have HT:Hid _:=yN G3.out yM.out (eG.above HH.out hb) HM.out hi (hk:= .pair) ⟨_,hx⟩ 1 (.br a (.br b .cZ)) (.slice (some ⟨w'.heap.size,0,none⟩) 2 2) [.iface ta ya,.iface tb yb] (by unfold df;exact⟨.iface ta ya,[.iface tb yb],rfl,hda,by unfold df;exact⟨.iface tb yb,[],rfl,hdb,by unfold df;rfl⟩⟩) (by simp[bH,dh]) (by simp) (bC (w:=w'.alloc (.cells #[.iface ta ya,.iface tb yb] 58)) (aa6 w' _ _) (zaq _) λ_ _ _=>rfl) k g' HN.out hlen;have hx1:=(fV.block (E.α i) (zaj.1 hx).1).trans hx;have x0:w'.cell? ⟨E.α i,0,none⟩=some (.iface ta ya):=by simp[Λ.cell?,hx1]
 have x1:w'.cell? ⟨E.α i,1,none⟩=some (.iface tb yb):=by simp[Λ.cell?,hx1]
 unfold kU aC at HT;unfold aC;simp only[HK.p]at HT;have a1:(Θ (.iface 150 (.pointer (some ⟨E.α i,0,none⟩))) 58 150 true).run prog w'=_:=dM w' oU;clear HC hx HH HM G3 yM HN fV hx1 hda hdb hb;go_wp2_with fail
 go_region_with (refine zai HT.out ?_;rintro e w1 ⟨rfl,uz⟩;have HG:Hid _:=uz;clear uz)
 all_goals
  go_wp2_with fail;go_ret;exact⟨rfl,Grown.above HG.out.1 HB.out,HG.out.2⟩
end
end Go.Proofs.YtlhimdjkkiflhaaGreatDoor
namespace Go.Proofs.YtlhimdjkkiflhaaGreatDoor
open Go.RowKit Go.Loop
theorem Qe {root:Dt}:∀{d:Dt} {v:Φ} {w0:Λ} {lo K:Nat} {L:List Int} {E:Env},ct lo K L w0 E d v→bH root d=true→(bQ root 200000 d).hd=true
 |.ask m,_,_,_,_,_,_,_,h=>by simp only[bH,zae]at h;exact h.2
 |.put n x,_,_,_,_,_,_,_,h=>by simp only[bH,zae]at h;exact h.1
 |.nil,_,_,_,_,_,_,_,_=>rfl
 |.sym _,_,_,_,_,_,_,_,_=>rfl
 |.num _ _,_,_,_,_,_,_,_,_=>rfl
 |.cD _,_,_,_,_,_,_,_,_=>rfl
 |.kB _,_,_,_,_,_,_,_,_=>rfl
 |.txt _ _,_,_,_,_,_,_,_,_=>rfl
 |.pair _ _ _,_,_,_,_,_,_,_,_=>rfl
 |.vec _ _,_,_,_,_,_,_,_,_=>rfl
 |.cZ,_,_,_,_,_,_,hd,_=>by unfold ct at hd;exact hd.elim
 |.br _ _,_,_,_,_,_,_,hd,_=>by unfold ct at hd;exact hd.elim
theorem gO.cons {w0:Λ}{K:Nat}{κ:Nat→HK}{E:Env}{met:List (Nat×Nat)}(h:gO w0 K κ E met){i k:Nat}(hi:i<K)(hat:rI w0 (κ i) (E.α i))(hq:met.lookup i=none):gO w0 K κ E ((i,k)::met):=by
 refine⟨λp hp=>?_,?_⟩
 ·rcases zal.1 hp with rfl|hp
  ·exact⟨hi,hat⟩
  ·exact h.at_ p hp
 ·rw[zaB,zco];refine⟨λAH=>?_,h.nd⟩;obtain⟨q,hq1,Bt⟩:=zbo.1 AH;have:=List.lookup_eq_none_iff.1 hq q hq1;simp[Bt]at this
section
variable {w0:Λ}{G M K lo:Nat}{L:List Int}{κ:Nat→HK}{E:Env}{root:Dt}
theorem FN {n:Nat}(hgr:mY w0 lo K L κ E root)(ih:∀m,m≤n→yL w0 lo K L κ E root G M m):yL w0 lo K L κ E root G M (n+1):=by
 intro d v w g bN nv k g' cK dh h hm cO hlen;obtain⟨rv,Kq⟩:=hgr.dat
 have uB:=Qe cK dh;have HC:Hid _:=Mz h.low Kq (iw hgr.good) 200000 d v cK (iw dh) uB;have hgm:=oT hgr.good 200000 d dh;have hgrow:=(my root (n+1)).1 _ _ _ _ cO;unfold ie at cO;cases ht:bQ root 200000 d with
 |nil=>
  rw[ht]at cO HC;cases cO;exact(UA h (by simp[fP.add]at hlen;omega) HC).mono λe w' hx=>⟨hx.1,hx.2,hm⟩
 |sym s=>
  rw[ht]at cO HC hgm;cases cO;exact(UD s (by simpa[bH]using hgm) h (by simp[fP.add]at hlen;omega) HC).mono λe w' hx=>⟨hx.1,hx.2,hm⟩
 |num a b=>
  rw[ht]at cO HC;cases cO;exact(UB a b h (by simp[fP.add]at hlen;omega) HC).mono λe w' hx=>⟨hx.1,hx.2,hm⟩
 |cD a=>
  rw[ht]at cO HC;cases cO;exact(MD a h (by simp[fP.add]at hlen;omega) HC).mono λe w' hx=>⟨hx.1,hx.2,hm⟩
 |kB a=>
  rw[ht]at cO HC;cases cO;exact(UC a h (by simp[fP.add]at hlen;omega) HC).mono λe w' hx=>⟨hx.1,hx.2,hm⟩
 |txt i s=>
  rw[ht]at cO HC;have hl:g.nodes.length+1≤1000000:=by omega
  refine(UE i s hgr h hm hl HC k g' cO).mono λe w' hx=>⟨hx.1,hx.2.1,?_⟩;cases hq:g.met.lookup i with
  |some k0=>simp only[hq]at cO;cases cO;exact hm
  |none=>simp only[hq]at cO;cases cO;exact hm.cons hx.2.2.1 hx.2.2.2 hq
 |pair i a b=>
  rw[ht]at cO HC hgm;exact Qd i a b hgr ih h hm hgm HC k g' cO hlen
 |vec i l=>
  rw[ht]at cO HC hgm;exact UF i l hgr ih h hm hgm HC k g' cO hlen
 |put n x=>rw[ht]at uB;simp[Dt.hd]at uB
 |ask m=>rw[ht]at uB;simp[Dt.hd]at uB
 |cZ=>rw[ht]at uB;simp[Dt.hd]at uB
 |br a l=>rw[ht]at uB;simp[Dt.hd]at uB
theorem FO (hgr:mY w0 lo K L κ E root):∀N n,n≤N→yL w0 lo K L κ E root G M n
 |0,n,h=>by
  obtain rfl:n=0:=by omega
  intro d v w g bN nv k g' _ _ _ _ cO;simp[ie]at cO
 |N+1,n,h=>by
  have ih:=FO hgr N;cases n with
  |zero=>exact ih 0 (zaq _)
  |succ n=>exact FN hgr λm hm=>ih m (by omega)
end
end Go.Proofs.YtlhimdjkkiflhaaGreatDoor
namespace Go.Proofs.YtlhimdjkkiflhaaGreatDoor
open Go.Proofs.Tryz
open Go.RowKit Go.Loop
def b9 (w:Λ)(lo:Nat)(nv:Φ)(bN:List Φ)(nodes:List eO):Prop:=
 w.ownsRow lo 45 5 nv nodes.length (tL nodes bN)∧bN.length=nodes.length∧∀(j:Nat) x sv,nodes[j]?=some x→bN[j]?=some sv→Xg w lo sv x.subs
theorem FP (w0:Λ)(E:Env):∃κ:Nat→HK,∀i h,rI w0 h (E.α i)→κ i=h:=by
 have hex:∀i,∃k:HK,∀h,rI w0 h (E.α i)→k=h:=λi=>by
  by_cases e:∃h,rI w0 h (E.α i)
  ·obtain⟨h,hh⟩:=e;exact⟨h,λh' NF=>hh.same NF⟩
  ·exact⟨.txt,λh hh=>absurd ⟨h,hh⟩ e⟩
 exact⟨λi=>Classical.choose (hex i),λi=>zaP (hex i)⟩
theorem FQ {lo K:Nat}{L:List Int}{E:Env}(w:Λ)(root:Dt)(v:Φ)(hd:ct lo K L w E root v)(dh:bH root root=true)(yK:∀i j,i<K→j<K→E.α i=E.α j→i=j)(f:Nat)(k:Nat)(g':fP)(cO:ie root f root ⟨[],[]⟩=some (k,g'))(hlen:g'.nodes.length≤999999):Ξ prog 30 #[v] w λe w'=>∃nv bN,e=.returned nv∧b9 w' w.heap.size nv bN g'.nodes∧ζ w.heap.size w w':=by
 obtain⟨κ,hκ⟩:=FP w E;have hgr:mY w lo K L κ E root:=⟨⟨v,hd⟩,dh,yK,λi h _ hh=>hκ i h hh⟩;have hb2:ζ w.heap.size w ((w.alloc (.map #[] 0)).alloc (.cells #[.slice none 0 0,.map (some w.heap.size)] 100)):=((zad _ w).alloc (zac _) _).alloc (by simp) _;have hG:eG w ((w.alloc (.map #[] 0)).alloc (.cells #[.slice none 0 0,.map (some w.heap.size)] 100)) (w.heap.size+1) w.heap.size κ E ⟨[],[]⟩ [] (.slice none 0 0):=
  ⟨by omega,by omega,zac _,hb2,en w _ _,zck _ _ _ _,⟨#[],0,(zaT _ _ _ (by simp)).trans (zav w _),rfl⟩,rfl,λj x sv h=>(by simp at h)⟩
 have HN:Hid _:=FO hgr f f (zac _) root v _ ⟨[],[]⟩ [] (.slice none 0 0) k g' hd dh hG ⟨λp hp=>(by cases hp),zcg⟩ cO hlen;have hmk:(Instr.makeMap 98 none).run prog w=.ok (.map (some w.heap.size)) (w.alloc (.map #[] 0)):=rfl;clear hgr hb2 hG hd dh yK cO;unfold aC at HN;go_enter func30,ntmps30;go_wp2_with fail;refine zai HN.out ?_;rintro e w1 ⟨rfl,⟨bN,nv,hG,-,-,-⟩,-⟩;have HF:Hid (b9 w1 w.heap.size nv bN g'.nodes∧ζ w.heap.size w w1):=⟨⟨hG.row,hG.len,hG.subs⟩,hG.low⟩;have y0:w1.cell? ⟨w.heap.size+1,0,none⟩=some nv:=by
  have hblk:=hG.blk;simp[Λ.cell?,hblk]
 clear hG HN;go_wp2_with fail;go_ret;exact⟨nv,bN,rfl,HF.out⟩
end Go.Proofs.YtlhimdjkkiflhaaGreatDoor
