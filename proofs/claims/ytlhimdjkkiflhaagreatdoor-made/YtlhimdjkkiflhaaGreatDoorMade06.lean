import Derived.BigRegion
import Derived.Deep.OwnRows
import Derived.Test.YtlhimdjkkiflhaaGreatDoorMade05
set_option maxHeartbeats 8000000
set_option maxRecDepth 100000
open Go.Value renaming int→Γ
open Go.IntKind renaming i64→Δ
open Go.RowKit renaming Below→Θ
open List renaming replicate→Λ,getD→η
open Go renaming World→Ξ,madeCells→Φ,Value→Ω,Calls→ζ,TypeId→θ
namespace Go.Proofs.YtlhimdjkkiflhaaGreatDoor
open Go.Proofs.Tryz
open Go.RowKit Go.Loop
variable {w:Ξ}{n g m:Nat}{nv:Ω}{K:Nat→Int}{S:Nat→List Nat}{L:Nat→Bool}{t:TS}
theorem Gd:(prog.info? 4).map (λi=>(i.zero,i.size,i.bytes))=some (some (.bool false),1,1):=by kernel_rfl
theorem KC:(prog.info? 3).map (λi=>(i.zero,i.size,i.bytes))=some (some (Γ Δ 0),1,8):=by kernel_rfl
theorem pT (w:Ξ):w.drew.heap=w.heap:=rfl
theorem ni (w:Ξ)(o:Obj)(k:Nat):(w.alloc o).heap[k]?=if k=w.heap.size then some o else w.heap[k]?:=by
 show(w.heap.push o)[k]?=_;rw[zbY]
theorem uE {k:Nat}{t:θ}(h:w.heap[k]?=some (.cells (Φ #[.bool false] n) t)):iA w k (Λ n false):=by
 intro i hi;rw[List.length_replicate]at hi;have hl:(Φ #[Ω.bool false] n)[i]?=some (.bool false):=by
  rw[←zbz,toList_madeCells_one,zcF,zab hi]
 refine⟨?_,?_⟩
 ·unfold Ξ.cell?;simp only[h];rw[ez];simpa using hl
 ·unfold Ξ.frozen?;simp[h]
theorem BO {k:Nat}{t:θ}(h:w.heap[k]?=some (.cells (Φ #[Γ Δ 0] n) t)):lx w k (Λ n 0):=by
 intro i hi;rw[List.length_replicate]at hi;have hl:(Φ #[Ω.int .i64 0] n)[i]?=some (Γ Δ 0):=by
  rw[←zbz,toList_madeCells_one,zcF,zab hi]
 refine⟨?_,?_⟩
 ·unfold Ξ.cell?;simp only[h];rw[ez];simpa using hl
 ·unfold Ξ.frozen?;simp[h]
theorem MH {p bo bm bw:Nat}{t1 t2 t3 t4:θ}
 (hp:w.heap[p]?=some (.cells #[nv,.slice (some ⟨bo,0,none⟩) n n,.slice (some ⟨bm,0,none⟩) n n,.slice (some ⟨bw,0,none⟩) n n] t1))
 (ho:w.heap[bo]?=some (.cells (Φ #[.bool false] n) t2))(hm:w.heap[bm]?=some (.cells (Φ #[Γ Δ 0] n) t3))(hw:w.heap[bw]?=some (.cells (Φ #[.bool false] n) t4)):
 fI w p bo bm bw n nv (WS.start n):=by
 refine⟨?_,?_,?_,?_,BO hm,uE hw,uE ho⟩;all_goals (unfold Ξ.cell?;simp[hp])
theorem Qu (S:Nat→List Nat)(n:Nat):(WS.start n).Bd S ((WS.start n).pQ (λx=>(S x).length)):=by
 intro i;show(Λ n (0:Int)).getD i 0+_≤_;rw[ez];omega
theorem KD (g:Nat→Nat)(M:Nat)(h:∀x,g x≤M):∀(n i:Nat),sW g i (Λ n 0)≤n*M
 |0,_=>by simp[sW]
 |n+1,i=>by
  have:=KD g M h n (i+1);have:=h i;simp only[List.replicate_succ,sW,if_true];rw[Nat.succ_mul];omega
theorem MJ (S:Nat→List Nat)(M:Nat)(h:∀x,(S x).length≤M)(n:Nat):(WS.start n).pQ (λx=>(S x).length)≤n*M:=KD _ M h n 0
theorem oZ (G:List Nd)(b o cap:Nat)(w:Ξ)(hG:bK w b o G)(hn:G.length≤150)(h1:1≤G.length)(ia:∀x (h:x<G.length),eT G[x].subs G.length=true)(G5:∀x,(ai G x).length≤20):ζ prog 27 #[.slice (some ⟨b,o,none⟩) G.length cap] w λe w'=>∃bm bw,e=.returned (.agg #[.slice (some ⟨bm,0,none⟩) G.length G.length,.slice (some ⟨bw,0,none⟩) G.length G.length])∧lx w' bm (fj (ai G) G.length).met∧iA w' bw (fj (ai G) G.length).wi∧Θ w.heap.size w w':=by
 have HG:Hid _:=hG;have HS:Hid _:=ia;clear hG ia;have mkb:=run_make_row' (P:=prog) 66 4 (.bool false) 1 underlying66 Gd rfl .i64 .i64 G.length (by omega) (by omega);have mki:=run_make_row' (P:=prog) 43 3 (Γ Δ 0) 8 underlying43 KC rfl .i64 .i64 G.length (by omega) (by omega);go_enter func27,ntmps27
 go_upto_region 1 with fail
 go_cut [3,7,10,13] (λx3 x7 x10 x13 wc=>∃p bo bm bw:Nat,x3=.pointer (some ⟨p,0,none⟩)∧x7=.slice (some ⟨bo,0,none⟩) G.length G.length∧x10=.slice (some ⟨bm,0,none⟩) G.length G.length∧x13=.slice (some ⟨bw,0,none⟩) G.length G.length∧
  Hid (Apart (w.heap.size+1) p bo bm bw∧fI wc p bo bm bw G.length (.slice (some ⟨b,o,none⟩) G.length cap) (WS.start G.length)∧Θ (w.heap.size+1) (w.alloc (.cells #[.slice none 0 0,.slice none 0 0] 68)) wc))
 case first=>
  go_region;all_goals
   go_wp2_with fail
   go_meet
   case rel=>
    refine⟨_,_,_,_,rfl,rfl,rfl,rfl,?_⟩;refine⟨⟨by omega,by omega,by omega,by omega,by omega,by omega,by omega,by omega,by omega,by omega⟩,MH (t1:=90) (t2:=4) (t3:=3) (t4:=4) ?_ ?_ ?_ ?_,?_⟩
    ·rw[pT];simp only[ni,Ξ.size_alloc];repeat' (first|rfl|(exfalso;omega)|split)
    ·rw[pT];simp only[ni,Ξ.size_alloc];repeat' (first|rfl|(exfalso;omega)|split)
    ·rw[pT];simp only[ni,Ξ.size_alloc];repeat' (first|rfl|(exfalso;omega)|split)
    ·rw[pT];simp only[ni,Ξ.size_alloc];repeat' (first|rfl|(exfalso;omega)|split)
    ·exact(((((zad _ _).alloc (by simp) _).alloc (by simp) _).alloc (by simp) _).alloc (by simp) _).drew
 case rest=>
  obtain⟨p,bo,bm,bw,rfl,rfl,rfl,rfl,hcu⟩:=hcut;have hbx:bK (w.alloc (.cells #[.slice none 0 0,.slice none 0 0] 68)) b o G:=bK.below HG.out aD;have hsz:(w.alloc (.cells #[.slice none 0 0,.slice none 0 0] 68)).heap.size=w.heap.size+1:=Ξ.size_alloc ..;have HA:Hid (Apart (w.alloc (.cells #[.slice none 0 0,.slice none 0 0] 68)).heap.size p bo bm bw):=by show Apart _ _ _ _ _;rw[hsz];exact hcu.out.1
  have HW:Hid (fI wc p bo bm bw G.length (.slice (some ⟨b,o,none⟩) G.length cap) (WS.start G.length)):=hcu.out.2.1;have HB:Hid (Θ (w.alloc (.cells #[.slice none 0 0,.slice none 0 0] 68)).heap.size (w.alloc (.cells #[.slice none 0 0,.slice none 0 0] 68)) wc):=by show Θ _ _ _;rw[hsz];exact hcu.out.2.2
  have HX:Hid (bK (w.alloc (.cells #[.slice none 0 0,.slice none 0 0] 68)) b o G):=hbx;have ad0:=MJ (ai G) 20 G5 G.length;have HP:Hid ((WS.start G.length).pQ (λx=>(ai G x).length)+1≤1000000):=by show _≤_;omega
  have HSS:Hid (∀x (h:x<G.length),eT G[x].subs G.length=true):=HS.out;clear hcu hbx mkb mki ad0 G5 HS;go_wp2_with fail;refine(Qq G b o cap _ HX hn HSS p bo bm bw HA.out (G.length+1) (WS.start G.length) 0 wc _
   (kY _) (by omega) (by omega) (by show sW (λ_=>1) 0 (Λ G.length 0)<_;rw[yT];omega) (Qu _ _) HP.out HB.out HW.out).mono ?_
  rintro e w2 ⟨rfl,hw2,hb2⟩;obtain⟨hcell,Oe⟩:=BN hb2;have iB:Hid _:=hb2;have wP:Hid _:=hw2;obtain⟨q0,q1,q2,q3,_,_,_⟩:=hw2;clear hb2 q0 q1;go_wp2_with fail;refine zao (by simp[results,results27,go_sem,hcell];rfl) rfl ?_;have a1:=HA.out.hm;have a2:=HA.out.hw;rw[hsz]at a1 a2;have b1:(⟨w.heap.size,0,none⟩:Addr).block≠bm:=by show w.heap.size≠bm;omega
  have b2:(⟨w.heap.size,0,none⟩:Addr).block≠bw:=by show w.heap.size≠bw;omega
  have b3:(⟨w.heap.size,1,none⟩:Addr).block≠bm:=by show w.heap.size≠bm;omega
  have b4:(⟨w.heap.size,1,none⟩:Addr).block≠bw:=by show w.heap.size≠bw;omega
  have NC:Θ w.heap.size w w2:=aD.trans (iB.out.mono (by simp));exact⟨bm,bw,rfl,(wP.out.rm.far b1 _).far b3 _,(wP.out.rw.far b2 _).far b4 _,(NC.setCell (zac _) _).setCell (zac _) _⟩
def iY (G:List Nd)(mode:Int)(i:Nat):Bool:=
 if mode=1 then(fj (ai G) G.length).wi.getD i false
 else if mode=2 then decide (1<(fj (ai G) G.length).met.getD i 0)&&decide (1≤aJ G i∧aJ G i≤3)else false
def qj (G:List Nd):Bool:=(List.range G.length).any λi=>(fj (ai G) G.length).wi.getD i false
def bu (n:Nat):TS:=⟨Λ n (-1),0,[],false⟩
def dw (G:List Nd)(mode:Int)(F:Nat):TS:=WF (aJ G) (ai G) (jD G) (iY G mode) F false (bu G.length) 0
def bJ (G:List Nd)(mode:Int)(F:Nat):List UInt8×Int:=
 if mode<0∨2<mode then([],1)else if ey G=false then([],8)else if mode=0∧qj G=true then([],9)else if(dw G mode F).long=true then([],2)else((dw G mode F).out,0)
theorem pU (n:Nat)(L:Nat→Bool):(bu n).Ok n L:=
 ⟨by simp[bu],λ_=>by simp[bu],λi=>by show -1≤(Λ n (-1:Int)).getD i (-1)∧(Λ n (-1:Int)).getD i (-1)<_;rw[ez];simp[bu],λi hi=>by
   change 0≤(Λ n (-1:Int)).getD i (-1)at hi;rw[ez]at hi;omega,λ_=>by simp[bu],by simp[bu]⟩
theorem lI (G:List Nd)(h:ey G=true):1≤G.length∧G.length≤150∧(∀x (hx:x<G.length),aQ G[x]=true)∧(∀x (hx:x<G.length),eT G[x].subs G.length=true)∧(∀x,(ai G x).length≤20):=by
 unfold ey at h;simp only[zae,zaK]at h;obtain⟨⟨h1,h2⟩,h3⟩:=h;have hk:∀x (hx:x<G.length),aQ G[x]=true∧eT G[x].subs G.length=true:=λx hx=>by
  have:=zaC.1 h3 G[x] (zbx hx);simpa using this
 refine⟨h1,h2,λx hx=>(hk x hx).1,λx hx=>(hk x hx).2,λx=>?_⟩;by_cases hx:x<G.length
 ·rw[iX G x hx,zby];have hb:=(hk x hx).1;unfold aQ at hb;by_cases k0:G[x].kind=0
  ·rw[zab k0]at hb;simp at hb;rw[hb.2.2.2];simp
  rw[zaa k0]at hb;by_cases k1:G[x].kind=1
  ·rw[zab k1]at hb;simp at hb;omega
  rw[zaa k1]at hb;by_cases k2:G[x].kind=2
  ·rw[zab k2]at hb;simp at hb;omega
  rw[zaa k2]at hb;by_cases k3:G[x].kind=3
  ·rw[zab k3]at hb;simp at hb;rw[hb.2.2.2];simp
  rw[zaa k3]at hb;by_cases k4:G[x].kind=4
  ·rw[zab k4]at hb;simp at hb;rw[hb.1.2.2];simp
  rw[zaa k4]at hb;by_cases k5:G[x].kind=5
  ·rw[zab k5]at hb;simp at hb;rw[hb.2.2];simp
  rw[zaa k5]at hb;by_cases k6:G[x].kind=6
  ·rw[zab k6]at hb;simp at hb;rw[hb.2.2.2];simp
  rw[zaa k6]at hb;by_cases k7:G[x].kind=7
  ·rw[zab k7]at hb;simp at hb;rw[hb.2.2.2];simp
  rw[zaa k7]at hb;exact absurd hb (by simp)
 ·unfold ai;rw[zcp (by omega)];simp
theorem kx {a a':List UInt8}{n n':Int}(h1:a=a')(h2:n=n'):Ending.returned (.tuple #[.string ⟨⟨a⟩⟩,Γ Δ n])=.returned (.tuple #[.string ⟨⟨a'⟩⟩,Γ Δ n']):=by rw[h1,h2]
theorem I7 {At:Nat→List UInt8}(ho:t.long=false→t.out.length≤400)(hg:need t≤g)(hk:K m=1)(hL:L m=false):∃g',g'≤g∧need (t.add [32])≤g'∧WF K S At L g true t m=WF K S At L g' true (WF K S At L g' false (t.add [32]) ((S m).getD 0 0)) ((S m).getD 1 0):=by
 cases hl:t.long
 ·have h1:=sY hl (ho hl) (p:=[32]) (by simp);have h2:=sZ (t.add [32]);obtain⟨g',rfl⟩:∃g',g=g'+1:=⟨g-1,by omega⟩;refine⟨g',by omega,by omega,?_⟩
  conv=>lhs;rw[WF]
  rw[zab ⟨hk,hL⟩]
 ·refine⟨g,zac _,by rw[dW hl];exact hg,?_⟩;rw[dW hl,kv g true t m hl,kv g false t _ hl,kv g true t _ hl]
theorem Qw {At:Nat→List UInt8}(ho:t.long=false→t.out.length≤400)(hg:need t≤g)(hn:¬(K m=1∧L m=false))(hk:K m≠0):∃g',g'≤g∧need (t.add [32,46,32])≤g'∧WF K S At L g true t m=(WF K S At L g' false (t.add [32,46,32]) m).add [41]:=by
 cases hl:t.long
 ·have h1:=sY hl (ho hl) (p:=[32,46,32]) (by simp);have h2:=sZ (t.add [32,46,32]);obtain⟨g',rfl⟩:∃g',g=g'+1:=⟨g-1,by omega⟩;refine⟨g',by omega,by omega,?_⟩
  conv=>lhs;rw[WF]
  rw[zaa hn,zaa hk]
 ·refine⟨g,zac _,by rw[dW hl];exact hg,?_⟩;rw[dW hl,kv g true t m hl,kv g false t _ hl,dW hl]
theorem Qx {At:Nat→List UInt8}(hg:need t≤g)(hk:K m=0):WF K S At L g true t m=t.add [41]:=by
 have h2:=sZ t;obtain⟨g',rfl⟩:∃g',g=g'+1:=⟨g-1,by omega⟩;rw[WF,zaa (by omega),zab hk]
def Ds (K:Nat→Int)(L:Nat→Bool)(rk:Nat→Nat)(m:Nat):Nat:=if K m=1∧L m=false then rk m+1 else 0
theorem MK {rk:Nat→Nat}{z:Nat}(hm:K m=1∧L m=false)(h:K z=1→L z=false→rk z<rk m):Ds K L rk z<Ds K L rk m:=by
 unfold Ds;rw[zab hm];split
 ·rename_i hz;have:=h hz.1 hz.2;omega
 ·omega
theorem dm.cells {B p bl bL:Nat}{v:Ω}(h:dm w B p bl bL n nv t v):w.cell? ⟨p,0,none⟩=some nv∧w.cell? ⟨p,1,none⟩=some (.slice (some ⟨bL,0,none⟩) n n)∧w.cell? ⟨p,2,none⟩=some (.slice (some ⟨bl,0,none⟩) n n)∧w.cell? ⟨p,6,none⟩=some (.bool t.long):=by
 obtain⟨q,hq,hb⟩:=h.blk;exact⟨zbw hb 0,zbw hb 1,zbw hb 2,zbw hb 6⟩
theorem BP (G:List Nd)(b o cap:Nat)(W0:Ξ)(p bl bL:Nat)(L:Nat→Bool)(Rc:Nat→Prop)(rk:Nat→Nat)(C:Gb G b o W0 p bl bL L Rc rk)(f:Nat)(IA:Hid (∀g,g≤f→Gc G b o cap W0 p bl bL L Rc g))
 (n:Nat)(jM:n<G.length)(Qs:Rc n)(k1:G[n].kind=1)(t:TS)(w:Ξ)(v:Ω)(ht:t.Ok G.length L)(hf:need (t.add [40])≤f)(hb:Θ W0.heap.size W0 w)
 (hw:dm w W0.heap.size p bl bL G.length (.slice (some ⟨b,o,none⟩) G.length cap) t v):
 ζ prog 102 #[.pointer (some ⟨p,0,none⟩),dF G[n]] w λe w'=>e=.returned (.tuple #[])∧
  ∃v',dm w' W0.heap.size p bl bL G.length (.slice (some ⟨b,o,none⟩) G.length cap) (WF (aJ G) (ai G) (jD G) L f true (WF (aJ G) (ai G) (jD G) L f false (t.add [40]) ((ai G n).getD 0 0)) ((ai G n).getD 1 0)) v'∧bA w w' p bl v v':=by
 have HC:Hid (Gb G b o W0 p bl bL L Rc rk):=C;have ML:Hid (∀y,y<G.length→∀z∈ai G y,z<G.length):=k9 G C.hs;have Xz:Hid (∀y,y<G.length→aJ G y=1→(ai G y).length=2):=λy hy hk=>yV G y hy (C.hk y hy) hk;have hl2:G[n].subs.length=2:=by have:=Xz.out n jM (by rw[ld G n jM];exact k1);rw[iX G n jM]at this;simpa using this
 have HXS:Hid _:=C.hs n jM;have hs0:=oX G n jM 0 (by omega);have hs1:=oX G n jM 1 (by omega);have hv0:=mC _ _ HXS.out 0 (by omega);have NA:=mC _ _ HXS.out 1 (by omega);have rL:Hid _:=C.rc n Qs _ (oY G n jM 0 (by omega));have wO:Hid _:=C.rc n Qs _ (oY G n jM 1 (by omega));have HRK:Hid (∀y,y=(G[n].subs.getD 1 0).toNat→aJ G y=1→L y=false→rk y<rk n):=λy hy=>by subst hy;exact C.rr n Qs _ (oY G n jM 1 (by omega))
 have HXI:Hid _:=(C.hG n jM).ints;rw[hs0,hs1];clear hs0 hs1;generalize G[n]=x at *;have HBX:Hid (dm (w.alloc (.cells #[Γ Δ x.kind,.string ⟨⟨x.text⟩⟩,Γ Δ x.n,Γ Δ x.d,.slice x.sa x.subs.length x.cap] 45)) W0.heap.size p bl bL G.length (.slice (some ⟨b,o,none⟩) G.length cap) t v):=hw.below aD;have AW:Hid _:=(⟨hw.lt,hw.bl,hw.Xx⟩:p<w.heap.size∧bl<w.heap.size∧∀k,v.ownBlock=some k→k<w.heap.size);have hsz:=hb.size;have hne:=C.pl;have G4:Hid (∀w' v',bA w w' p bl v v'→Θ W0.heap.size W0 w'):=λw' v' h=>hb.trans (h.below hsz C.hp C.hl hw.Qr);have HF:Hid (need (t.add [40])≤f):=hf;have HT:Hid ((t.add [40]).Ok G.length L):=ht.add _;clear k1 C hb ht hf hw Qs;rcases HXI.out with h|⟨sb,so,Nu,hc⟩
 ·exfalso;rw[h]at hl2;simp at hl2
 have HCE:Hid (∀w':Ξ,Θ W0.heap.size W0 w'→∀k,k<x.subs.length→w'.cell? ⟨sb,so+k,none⟩=some (Γ Δ (x.subs.getD k 0))):=λw' hb' k hk=>cd hb' (hc k hk);have HC0:Hid (∀w':Ξ,Θ W0.heap.size W0 w'→w'.cell? ⟨sb,so,none⟩=some (Γ Δ (x.subs.getD 0 0))):=λw' hb'=>HCE.out w' hb' 0 (by omega);have HC1:Hid (∀w':Ξ,Θ W0.heap.size W0 w'→w'.cell? ⟨sb,so+1,none⟩=some (Γ Δ (x.subs.getD 1 0))):=λw' hb'=>HCE.out w' hb' 1 (by omega);clear hc HXI HCE;rw[hl2,Nu]at HBX;generalize x.subs.getD 0 0=s0 at *;generalize x.subs.getD 1 0=s1 at *;obtain⟨m1,rfl⟩:=zbq NA.1;rw[zbn]at wO ⊢;obtain⟨t1,rH⟩:∃t1,Hid (t1=WF (aJ G) (ai G) (jD G) L f false (t.add [40]) s0.toNat):=⟨_,rfl⟩;rw[←rH.out];unfold dF;rw[hl2,Nu];go_enter func102,ntmps102;go_wp2_with (go_at_call 99;refine(fJ HBX.out hne (by simp;omega) [40]).mono ?_);rintro e w1 ⟨rfl,v1,h1,h2⟩;have r4:w1.cell? ⟨w.heap.size,4,none⟩=some (.slice (some ⟨sb,so,none⟩) 2 x.cap):=h2.box AW.out.1 AW.out.2.1 AW.out.2.2 4 _ rfl;have HA2:Hid _:=h2;have H1:Hid _:=h1;have H2:Hid (bA w w1 p bl v v1):=(bA.aG aD).trans h2;have jb:Hid (Θ W0.heap.size W0 w1):=G4.out _ _ H2.out;have q0:=HC0.out _ jb.out;clear h1 h2;go_wp2_with (go_at_call 62;refine(IA.out f (zac _) _ s0 _ _ HT.out hv0.1 hv0.2 rL.out HF.out jb.out H1.out).mono ?_);rintro e w2 ⟨rfl,v2,h3,h4⟩;rw[←rH.out]at h3;have r4':w2.cell? ⟨w.heap.size,4,none⟩=some (.slice (some ⟨sb,so,none⟩) 2 x.cap):=(HA2.out.trans h4).box AW.out.1 AW.out.2.1 AW.out.2.2 4 _ rfl;have H3:Hid _:=h3;have H4:Hid (bA w w2 p bl v v2):=H2.out.trans h4;have iB:Hid (Θ W0.heap.size W0 w2):=G4.out _ _ H4.out;have q1:=HC1.out _ iB.out;clear h3 h4 r4 q0;have Zi:Hid ((WF (aJ G) (ai G) (jD G) L f false (t.add [40]) s0.toNat).Ok G.length L):=nS ML.out Xz.out f false _ _ HT.out (by omega);have HN1:Hid (need (WF (aJ G) (ai G) (jD G) L f false (t.add [40]) s0.toNat)≤f):=zag (gY f false _ _) HF.out;rw[←rH.out]at Zi HN1;have TC:m1<G.length:=by omega
 go_wp2_with fail;go_loopw [4] (λi wr=>∃(m g:Nat) (tk:TS) (vk:Ω),m<G.length∧i=Γ Δ m∧Hid (Rc m)∧g≤f∧Hid (need tk≤g)∧Hid (tk.Ok G.length L)∧Hid (WF (aJ G) (ai G) (jD G) L f true t1 m1=WF (aJ G) (ai G) (jD G) L g true tk m)∧
  Hid (dm wr W0.heap.size p bl bL G.length (.slice (some ⟨b,o,none⟩) G.length cap) tk vk)∧Hid (bA w wr p bl v vk)) (λi _=>Ds (aJ G) L rk (intOf i).toNat)
 case atStart=>exact⟨m1,f,t1,v2,TC,rfl,wO.out,zac _,HN1.out,Zi.out,rfl,H3.out,H4.out⟩
 case round=>
  obtain⟨m,g,tk,vk,hm,rfl,HRm,hgf,HNm,HTm,HEm,HWm,HKm⟩:=hrel;have HBm:Hid (Θ W0.heap.size W0 wr):=G4.out _ _ HKm.out;have Dr:W0.heap.size≤wr.heap.size:=HBm.out.size;obtain⟨y0,y1,y2,y3,y4,yi,yt,ys⟩:=(HC.out.hG m hm).below HBm.out;have KE:Hid _:=ld G m hm;have HLm:Hid (∀w',Θ W0.heap.size W0 w'→w'.cell? ⟨bL,m,none⟩=some (.bool (L m))):=λw' hb'=>cd hb' (HC.out.hL m hm);have S4:=HLm.out _ HBm.out;obtain⟨c0,c1,c2,c6⟩:=HWm.out.cells;have Xy:Hid _:=HC.out.hk m hm;have UM:Hid _:=HC.out.hs m hm;have Zj:Hid _:=oX G m hm 0;have Zk:Hid _:=oX G m hm 1;have HMM:Hid _:=oY G m hm;have Zl:Hid (aJ G m=1→G[m].subs.length=2):=λhk=>by have:=Xz.out m hm hk;rw[iX G m hm]at this;simpa using this
  have HIN:Hid _:=(HC.out.hG m hm).ints;have HY4:Hid (∀w',Θ W0.heap.size W0 w'→w'.cell? ⟨b,o+m*5+4,none⟩=some (.slice G[m].sa G[m].subs.length G[m].cap)):=λw' hb'=>cd hb' (HC.out.hG m hm).subs;generalize G[m]=y at *;clear yi yt ys y1 y2 y3 c2 c6;by_cases Ak:y.kind=1∧L m=false
  ·have hb1:(y.kind==1)=true:=by rw[zaJ];exact Ak.1
   have hLm:=Ak.2;rw[hLm]at S4;obtain⟨g',tK,Qy,hE⟩:=I7 (K:=aJ G) (S:=ai G) (At:=jD G) (L:=L) (m:=m) HTm.out.lo HNm.out (by rw[KE.out];exact Ak.1) Ak.2;have XA:=Zl.out (by rw[KE.out];exact Ak.1);rcases HIN.out with h|⟨yb,yo,hya,LQ⟩
   ·exfalso;rw[h]at XA;simp at XA
   have ad1:Hid (∀w':Ξ,Θ W0.heap.size W0 w'→w'.cell? ⟨yb,yo,none⟩=some (Γ Δ (y.subs.getD 0 0))):=λw' hb'=>cd hb' (LQ 0 (by omega));have ad2:Hid (∀w':Ξ,Θ W0.heap.size W0 w'→w'.cell? ⟨yb,yo+1,none⟩=some (Γ Δ (y.subs.getD 1 0))):=λw' hb'=>cd hb' (LQ 1 (by omega));rw[Zj.out (by omega),Zk.out (by omega)]at hE;have hz0:=mC _ _ UM.out 0 (by omega);have hz1:=mC _ _ UM.out 1 (by omega);have ad3:Hid _:=HC.out.rc m HRm.out _ (HMM.out 0 (by omega));have abP:Hid _:=HC.out.rc m HRm.out _ (HMM.out 1 (by omega));have HRk:Hid _:=MK (K:=aJ G) ⟨by rw[KE.out];exact Ak.1,Ak.2⟩ (HC.out.rr m HRm.out _ (HMM.out 1 (by omega)));have HE:Hid _:=hE;have HNG:Hid _:=Qy;rw[XA,hya]at HY4 y4;clear LQ HIN UM Zj Zk HMM Zl Xy Ak hE Qy hLm;generalize y.subs.getD 0 0=z0 at *;generalize y.subs.getD 1 0=z1 at *;go_wp2_with (go_at_call 99;refine(fJ HWm.out hne Dr [32]).mono ?_);rintro e w3 ⟨rfl,v3,hw3,hk3⟩;have Aj:Hid _:=hw3;have nZ:Hid (bA w w3 p bl v v3):=HKm.out.trans hk3;have iT:Hid (Θ W0.heap.size W0 w3):=G4.out _ _ nZ.out;obtain⟨d0,d1,d2,d6⟩:=hw3.cells;have d4:=HY4.out _ iT.out;have d5:=ad1.out _ iT.out;have QA:Hid _:=HTm.out.add [32];clear hw3 hk3 d1 d2 d6 c0 c1 y0 y4 S4;go_wp2_with (go_at_call 62;refine(IA.out g' (by omega) _ z0 _ _ QA.out hz0.1 hz0.2 ad3.out HNG.out iT.out Aj.out).mono ?_);rintro e w4 ⟨rfl,v4,hw4,hk4⟩;have vh:Hid _:=hw4;have rJ:Hid (bA w w4 p bl v v4):=nZ.out.trans hk4;have qJ:Hid (Θ W0.heap.size W0 w4):=G4.out _ _ rJ.out;obtain⟨e0,e1,e2,e6⟩:=hw4.cells;have e4:=HY4.out _ qJ.out;have e5:=ad2.out _ qJ.out;have ad4:Hid _:=nS (At:=jD G) ML.out Xz.out g' false _ _ QA.out (show z0.toNat<G.length by omega);have HN4:Hid _:=zag (gY (K:=aJ G) (S:=ai G) (At:=jD G) (L:=L) g' false (tk.add [32]) z0.toNat) HNG.out;clear hw4 hk4 e1 e2 e6 d0 d4 d5;obtain⟨mz,rfl⟩:=zbq hz1.1;rw[zbn]at HE abP HRk;go_wp2_with fail;go_roundw
   case rel=>exact⟨mz,g',_,v4,by omega,rfl,abP,by omega,HN4,ad4,by show _=_;rw[HEm.out];exact HE.out,vh,rJ⟩
   case measure=>exact HRk.out
  ·have HPR:Hid (¬(aJ G m=1∧L m=false)):=by rw[KE.out];exact Ak
   clear HIN UM Zj Zk HMM Zl Xy HY4 y4;by_cases k0:y.kind=0
   ·have hb0:(y.kind==0)=true:=by rw[zaJ];exact k0
    have hb1:(y.kind==1)=false:=by rw[zah];omega
    have HE:Hid _:=Qx (K:=aJ G) (S:=ai G) (At:=jD G) (L:=L) (m:=m) HNm.out (by rw[KE.out];exact k0);clear k0 Ak S4 c1;go_wp2_with (go_at_call 99;refine(fJ HWm.out hne Dr [41]).mono ?_);rintro e w3 ⟨rfl,v3,hw3,hk3⟩;rw[←HE.out,←HEm.out]at hw3;have Aj:Hid _:=hw3;have nZ:Hid (bA w w3 p bl v v3):=HKm.out.trans hk3;clear hw3 hk3;go_wp2_with fail
    go_end0
    exact⟨rfl,v3,Aj.out,nZ.out⟩
   ·have hb0:(y.kind==0)=false:=by rw[zah];exact k0
    obtain⟨g',tK,Qy,hE⟩:=Qw (K:=aJ G) (S:=ai G) (At:=jD G) (L:=L) (m:=m) HTm.out.lo HNm.out HPR.out (by rw[KE.out];exact k0);have HE:Hid _:=hE;have HNG:Hid _:=Qy;have QA:Hid _:=HTm.out.add [32,46,32];clear hE Qy k0;by_cases k1:y.kind=1
    ·have hb1:(y.kind==1)=true:=by rw[zaJ];exact k1
     have hLm:L m=true:=by cases h:L m;exact absurd ⟨k1,h⟩ Ak;rfl
     rw[hLm]at S4;clear k1 Ak hLm;go_wp2_with (go_at_call 99;refine(fJ HWm.out hne Dr [32,46,32]).mono ?_);rintro e w3 ⟨rfl,v3,hw3,hk3⟩;have Aj:Hid _:=hw3;have nZ:Hid (bA w w3 p bl v v3):=HKm.out.trans hk3;have iT:Hid (Θ W0.heap.size W0 w3):=G4.out _ _ nZ.out;clear hw3 hk3;go_wp2_with (go_at_call 62;refine(IA.out g' (by omega) _ (m:Int) _ _ QA.out (by omega) (by omega) (by rw[zbn];exact HRm.out) HNG.out iT.out Aj.out).mono ?_);rintro e w4 ⟨rfl,v4,hw4,hk4⟩;rw[zbn]at hw4;have vh:Hid _:=hw4;have rJ:Hid (bA w w4 p bl v v4):=nZ.out.trans hk4;have Zm:W0.heap.size≤w4.heap.size:=(G4.out _ _ rJ.out).size;clear hw4 hk4;go_wp2_with (go_at_call 99;refine(fJ vh.out hne Zm [41]).mono ?_);rintro e w5 ⟨rfl,v5,I6,rK⟩;rw[←HE.out,←HEm.out]at I6;have vn:Hid _:=I6;have G2:Hid (bA w w5 p bl v v5):=rJ.out.trans rK;clear I6 rK;go_wp2_with fail
     go_end0
     exact⟨rfl,v5,vn.out,G2.out⟩
    ·have hb1:(y.kind==1)=false:=by rw[zah];exact k1
     clear k1 Ak S4 c1;go_wp2_with (go_at_call 99;refine(fJ HWm.out hne Dr [32,46,32]).mono ?_);rintro e w3 ⟨rfl,v3,hw3,hk3⟩;have Aj:Hid _:=hw3;have nZ:Hid (bA w w3 p bl v v3):=HKm.out.trans hk3;have iT:Hid (Θ W0.heap.size W0 w3):=G4.out _ _ nZ.out;clear hw3 hk3;go_wp2_with (go_at_call 62;refine(IA.out g' (by omega) _ (m:Int) _ _ QA.out (by omega) (by omega) (by rw[zbn];exact HRm.out) HNG.out iT.out Aj.out).mono ?_);rintro e w4 ⟨rfl,v4,hw4,hk4⟩;rw[zbn]at hw4;have vh:Hid _:=hw4;have rJ:Hid (bA w w4 p bl v v4):=nZ.out.trans hk4;have Zm:W0.heap.size≤w4.heap.size:=(G4.out _ _ rJ.out).size;clear hw4 hk4;go_wp2_with (go_at_call 99;refine(fJ vh.out hne Zm [41]).mono ?_);rintro e w5 ⟨rfl,v5,I6,rK⟩;rw[←HE.out,←HEm.out]at I6;have vn:Hid _:=I6;have G2:Hid (bA w w5 p bl v v5):=rJ.out.trans rK;clear I6 rK;go_wp2_with fail
     go_end0
     exact⟨rfl,v5,vn.out,G2.out⟩
theorem Ge (x:Nd)(w:Ξ)(hb:aQ x=true)(h1:x.kind≠1)(h2:x.kind≠2)(hp:Pow w):ζ prog 104 #[dF x] w λe w'=>e=.returned (.string ⟨⟨eU x⟩⟩)∧Θ w.heap.size w w':=by
 have hk:x.kind=0∨x.kind=3∨x.kind=4∨x.kind=5∨x.kind=6∨x.kind=7:=by
  by_cases h:x.kind<0∨7<x.kind
  ·unfold aQ at hb;rw[zaa (by omega),zaa (by omega),zaa (by omega),zaa (by omega),zaa (by omega),zaa (by omega),zaa (by omega),zaa (by omega)]at hb;exact absurd hb (by simp)
  ·omega
 rcases hk with h|h|h|h|h|h
 ·exact Za x w h
 ·have:x.text.length≤400:=by
   unfold aQ at hb;rw[zaa (by omega),zaa (by omega),zaa (by omega),zab h]at hb;simp at hb;exact hb.1
  exact Zb x w this h
 ·exact Zc x w h
 ·have:lT x.n x.d=true:=by
   unfold aQ at hb;rw[zaa (by omega),zaa (by omega),zaa (by omega),zaa (by omega),zaa (by omega),zab h]at hb;simp at hb;exact hb.1
  unfold lT at this;simp at this;exact Zd x w (by omega) (by omega) (by omega) (by omega) hp h
 ·exact Ze x w h
 ·have:jf x.n=true:=by
   unfold aQ at hb;rw[zaa (by omega),zaa (by omega),zaa (by omega),zaa (by omega),zaa (by omega),zaa (by omega),zaa (by omega),zab h]at hb;simp at hb;exact hb.1
  exact Zf x w this h
theorem MM (G:List Nd)(b o cap:Nat)(W0:Ξ)(p bl bL:Nat)(L:Nat→Bool)(Rc:Nat→Prop)(rk:Nat→Nat)(C:Gb G b o W0 p bl bL L Rc rk)(f:Nat)(IA:Hid (∀g,g≤f→Gc G b o cap W0 p bl bL L Rc g)):Gc G b o cap W0 p bl bL L Rc (f+1):=by
 intro t a w v ht ha0 ha Qs hf hb hw;obtain⟨n,rfl⟩:=zbq ha0;rw[zbn]at Qs ⊢;have jM:n<G.length:=by omega
 have HC:Hid (Gb G b o W0 p bl bL L Rc rk):=C;have HT:Hid (t.Ok G.length L):=ht;have HB:Hid (Θ W0.heap.size W0 w):=hb;have HW:Hid (dm w W0.heap.size p bl bL G.length (.slice (some ⟨b,o,none⟩) G.length cap) t v):=hw;have HF:Hid (need t≤f+1):=hf;have HR:Hid (Rc n):=Qs;obtain⟨c0,c1,c2,c6⟩:=hw.cells;obtain⟨hlc,_⟩:=hw.rl n (by rw[ht.ll];exact jM);have S4:=cd hb (C.hL n jM);have hsz:=hb.size;have hne:=C.pl;have G4:Hid (∀w' v',bA w w' p bl v v'→Θ W0.heap.size W0 w'):=λw' v' h=>hb.trans (h.below hsz C.hp C.hl hw.Qr);have HPW:Hid (∀w',Θ W0.heap.size W0 w'→Pow w'):=λw' h=>C.pw.on h;have hg:t.cE.getD n 0=t.cE.getD n (-1):=by
  have:=ht.ll;simp[η,List.getElem?_eq_getElem (show n<t.cE.length by omega)]
 rw[hg]at hlc;have qa:=ht.n2;have hln:=ht.ln n;clear C ht hb hw hf Qs hg;cases cV:t.long
 ·rw[cV]at c6;by_cases II:0≤t.cE.getD n (-1)
  ·have HV:Hid (WF (aJ G) (ai G) (jD G) L (f+1) false t n=t.add (35::(Lib.itoa (t.cE.getD n (-1))++[35]))):=by
    show _=_;simp only[WF];rw[zaa (by simp[cV]),zab II]
   generalize t.cE.getD n (-1)=lv at *;have hil:=s8 lv (by omega) (by omega);have ks:=wS;have rq:(lv==-1)=false:=by rw[zah];omega
   go_enter func62,ntmps62;go_wp2_with fail;refine(oW lv _ (by omega) (by omega) (HPW.out _ HB.out)).mono ?_;rintro e w1 ⟨rfl,hb1⟩;have I2:Hid _:=HW.out.below hb1;have BJ:Hid (bA w w1 p bl v v):=bA.aG hb1;have hs1:=zag hsz hb1.size;clear hb1 S4 hlc c0 c1 c2 c6;go_wp2_with fail;refine(fJ I2.out hne hs1 (35::(Lib.itoa lv++[35]))).mono ?_;rintro e w2 ⟨rfl,v2,hw2,hk2⟩;rw[←HV.out]at hw2;have wP:Hid _:=hw2;have pM:Hid (bA w w2 p bl v v2):=BJ.out.trans hk2;clear hw2 hk2;go_wp2_with fail;refine zao (results_none rfl _ _ _) rfl ?_;exact⟨rfl,v2,wP.out,pM.out⟩
  ·have ad5:Hid (¬0≤t.cE.getD n (-1)):=II;have hlv:t.cE.getD n (-1)=-1:=by omega
   rw[hlv]at hlc;obtain⟨t1,rH⟩:∃t1,Hid (t1=if L n then t.put n else t):=⟨_,rfl⟩;have Zi:Hid (t1.Ok G.length L):=by
    show t1.Ok _ _;rw[rH.out];split
    ·rename_i e;exact HT.out.put jM e cV
    ·exact HT.out
   have HF1:Hid (∀q:List UInt8,1≤q.length→need (t1.add q)≤f):=by
    intro q hq;have ho:=HT.out.lo cV;have h1:=HF.out;rw[rH.out];split
    ·have h2:=Ga cV ho n;have h3:=eP (t.put n) q;omega
    ·have h2:=sY cV ho hq;omega
   have HWF:Hid (WF (aJ G) (ai G) (jD G) L (f+1) false t n=
    if aJ G n=1 then WF (aJ G) (ai G) (jD G) L f true (WF (aJ G) (ai G) (jD G) L f false (t1.add [40]) ((ai G n).getD 0 0)) ((ai G n).getD 1 0)
    else if aJ G n=2 then(fY (WF (aJ G) (ai G) (jD G) L f false) (ai G n) (ai G n).length (t1.add [35,40])).add [41]
    else t1.add (jD G n)):=by
    show _=_;rw[rH.out];simp only[WF];rw[zaa (by simp[cV]),zaa (by have:=ad5.out;omega)]
   clear II hlv hln;cases hL:L n
   ·have HL0:Hid (t=t1):=by show _=_;rw[rH.out,hL];rfl
    rw[hL]at S4;have I2:Hid (dm w W0.heap.size p bl bL G.length (.slice (some ⟨b,o,none⟩) G.length cap) t1 v):=by rw[←HL0.out];exact HW.out
    obtain⟨v1,NA⟩:∃v1,v1=v:=⟨v,rfl⟩;have BJ:Hid (bA w w p bl v v1):=by rw[NA];exact bA.refl _ _ _ _
    rw[←NA]at I2;clear NA;go_enter func62,ntmps62;have UN:Hid (Θ W0.heap.size W0 w):=G4.out _ _ BJ.out;obtain⟨x0,x1,x2,x3,x4,xi,xt,xs⟩:=(HC.out.hG n jM).below UN.out;have Xy:Hid _:=HC.out.hk n jM;have KE:Hid _:=ld G n jM;have HAN:Hid _:=I4 G n jM;have UO:Hid (G[n].kind=2→_):=λk2=>vq G b o cap W0 p bl bL L Rc rk HC.out f (show Hid _ from IA.out f (zac _)) n jM HR.out k2;have UQ:Hid (G[n].kind=1→_):=λk1=>BP G b o cap W0 p bl bL L Rc rk HC.out f IA n jM HR.out k1;have ML:Hid (∀y,y<G.length→∀z∈ai G y,z<G.length):=k9 G HC.out.hs;have Xz:Hid (∀y,y<G.length→aJ G y=1→(ai G y).length=2):=λy hy hk=>yV G y hy (HC.out.hk y hy) hk;obtain⟨d0,d1,d2,d6⟩:=I2.out.cells;have Zn:Hid (∀ob:Obj,Θ W0.heap.size W0 (w.alloc ob)):=λob=>UN.out.alloc UN.out.size ob;have Zo:Hid (∀ob:Obj,dm (w.alloc ob) W0.heap.size p bl bL G.length (.slice (some ⟨b,o,none⟩) G.length cap) t1 v1):=λob=>I2.out.below aD;have Zp:Hid (∀ob:Obj,bA w (w.alloc ob) p bl v v1):=λob=>BJ.out.trans (bA.aG aD);generalize G[n]=x at *;clear xi xt xs d1 d2 d6;by_cases k1:x.kind=1
    ·have hb1:(x.kind==1)=true:=by rw[zaJ];exact k1
     have HV:Hid _:=HWF.out;rw[KE.out,zab k1]at HV;have Zq:Hid _:=UQ.out k1;clear k1 UO UQ;go_wp2_with fail;refine(Zq.out t1 _ v1 Zi.out (HF1.out [40] (by simp)) (Zn.out _) (Zo.out _)).mono ?_;rintro e w2 ⟨rfl,v2,hw2,hk2⟩;rw[←HV.out]at hw2;have wP:Hid _:=hw2;have pM:Hid (bA w w2 p bl v v2):=(Zp.out _).trans hk2;clear hw2 hk2;go_wp2_with fail
     go_end0
     exact⟨rfl,v2,wP.out,pM.out⟩
    ·have hb1:(x.kind==1)=false:=by rw[zah];exact k1
     by_cases k2:x.kind=2
     ·have hb2:(x.kind==2)=true:=by rw[zaJ];exact k2
      have HV:Hid _:=HWF.out;rw[KE.out,zaa k1,zab k2]at HV;have Zq:Hid _:=UO.out k2;clear k1 k2 UO UQ;go_wp2_with fail;refine(Zq.out t1 _ v1 Zi.out (HF1.out [35,40] (by simp)) (Zn.out _) ML.out Xz.out (Zo.out _)).mono ?_;rintro e w2 ⟨rfl,v2,hw2,hk2⟩;rw[←HV.out]at hw2;have wP:Hid _:=hw2;have pM:Hid (bA w w2 p bl v v2):=(Zp.out _).trans hk2;clear hw2 hk2;go_wp2_with fail
      go_end0
      exact⟨rfl,v2,wP.out,pM.out⟩
     ·have hb2:(x.kind==2)=false:=by rw[zah];exact k2
      have HV:Hid _:=HWF.out;rw[KE.out,zaa k1,zaa k2,HAN.out]at HV;have Zr:Hid _:=k1;have Zs:Hid _:=k2;have ad6:W0.heap.size≤w.heap.size:=UN.out.size;clear k1 k2 UO UQ;go_wp2_with fail;refine(Ge x _ Xy.out (by exact Zr.out) (by exact Zs.out) (HPW.out _ (Zn.out _))).mono ?_;rintro e w4 ⟨rfl,hb4⟩;have vh:Hid _:=(Zo.out _).below hb4;have rJ:Hid _:=(Zp.out _).trans (bA.aG hb4);have NB:W0.heap.size≤w4.heap.size:=by have:=hb4.size;simp at this;omega
      clear hb4;go_wp2_with fail;refine(fJ vh.out hne NB (eU x)).mono ?_;rintro e w2 ⟨rfl,v2,hw2,hk2⟩;rw[←HV.out]at hw2;have wP:Hid _:=hw2;have pM:Hid (bA w w2 p bl v v2):=rJ.out.trans hk2;clear hw2 hk2;go_wp2_with fail
      go_end0
      exact⟨rfl,v2,wP.out,pM.out⟩
   ·have HL0:Hid (t.put n=t1):=by show _=_;rw[rH.out,hL];rfl
    rw[hL]at S4;go_enter func62,ntmps62;go_wp2_with fail;refine(UL HW.out hne hsz HT.out.ll qa n jM HC.out.hl (λw' h=>HPW.out w' (HB.out.trans h))).mono ?_;rintro e w1 ⟨rfl,v1,h1,h2⟩;rw[HL0.out]at h1;have I2:Hid _:=h1;have BJ:Hid (bA w w1 p bl v v1):=h2;clear h1 h2 c0 c1 c2 c6 hlc S4;have UN:Hid (Θ W0.heap.size W0 w1):=G4.out _ _ BJ.out;obtain⟨x0,x1,x2,x3,x4,xi,xt,xs⟩:=(HC.out.hG n jM).below UN.out;have Xy:Hid _:=HC.out.hk n jM;have KE:Hid _:=ld G n jM;have HAN:Hid _:=I4 G n jM;have UO:Hid (G[n].kind=2→_):=λk2=>vq G b o cap W0 p bl bL L Rc rk HC.out f (show Hid _ from IA.out f (zac _)) n jM HR.out k2;have UQ:Hid (G[n].kind=1→_):=λk1=>BP G b o cap W0 p bl bL L Rc rk HC.out f IA n jM HR.out k1;have ML:Hid (∀y,y<G.length→∀z∈ai G y,z<G.length):=k9 G HC.out.hs;have Xz:Hid (∀y,y<G.length→aJ G y=1→(ai G y).length=2):=λy hy hk=>yV G y hy (HC.out.hk y hy) hk;obtain⟨d0,d1,d2,d6⟩:=I2.out.cells;have Zn:Hid (∀ob:Obj,Θ W0.heap.size W0 (w1.alloc ob)):=λob=>UN.out.alloc UN.out.size ob;have Zo:Hid (∀ob:Obj,dm (w1.alloc ob) W0.heap.size p bl bL G.length (.slice (some ⟨b,o,none⟩) G.length cap) t1 v1):=λob=>I2.out.below aD;have Zp:Hid (∀ob:Obj,bA w (w1.alloc ob) p bl v v1):=λob=>BJ.out.trans (bA.aG aD);generalize G[n]=x at *;clear xi xt xs d1 d2 d6;by_cases k1:x.kind=1
    ·have hb1:(x.kind==1)=true:=by rw[zaJ];exact k1
     have HV:Hid _:=HWF.out;rw[KE.out,zab k1]at HV;have Zq:Hid _:=UQ.out k1;clear k1 UO UQ;go_wp2_with fail;refine(Zq.out t1 _ v1 Zi.out (HF1.out [40] (by simp)) (Zn.out _) (Zo.out _)).mono ?_;rintro e w2 ⟨rfl,v2,hw2,hk2⟩;rw[←HV.out]at hw2;have wP:Hid _:=hw2;have pM:Hid (bA w w2 p bl v v2):=(Zp.out _).trans hk2;clear hw2 hk2;go_wp2_with fail
     go_end0
     exact⟨rfl,v2,wP.out,pM.out⟩
    ·have hb1:(x.kind==1)=false:=by rw[zah];exact k1
     by_cases k2:x.kind=2
     ·have hb2:(x.kind==2)=true:=by rw[zaJ];exact k2
      have HV:Hid _:=HWF.out;rw[KE.out,zaa k1,zab k2]at HV;have Zq:Hid _:=UO.out k2;clear k1 k2 UO UQ;go_wp2_with fail;refine(Zq.out t1 _ v1 Zi.out (HF1.out [35,40] (by simp)) (Zn.out _) ML.out Xz.out (Zo.out _)).mono ?_;rintro e w2 ⟨rfl,v2,hw2,hk2⟩;rw[←HV.out]at hw2;have wP:Hid _:=hw2;have pM:Hid (bA w w2 p bl v v2):=(Zp.out _).trans hk2;clear hw2 hk2;go_wp2_with fail
      go_end0
      exact⟨rfl,v2,wP.out,pM.out⟩
     ·have hb2:(x.kind==2)=false:=by rw[zah];exact k2
      have HV:Hid _:=HWF.out;rw[KE.out,zaa k1,zaa k2,HAN.out]at HV;have Zr:Hid _:=k1;have Zs:Hid _:=k2;have ad6:W0.heap.size≤w1.heap.size:=UN.out.size;clear k1 k2 UO UQ;go_wp2_with fail;refine(Ge x _ Xy.out (by exact Zr.out) (by exact Zs.out) (HPW.out _ (Zn.out _))).mono ?_;rintro e w4 ⟨rfl,hb4⟩;have vh:Hid _:=(Zo.out _).below hb4;have rJ:Hid _:=(Zp.out _).trans (bA.aG hb4);have NB:W0.heap.size≤w4.heap.size:=by have:=hb4.size;simp at this;omega
      clear hb4;go_wp2_with fail;refine(fJ vh.out hne NB (eU x)).mono ?_;rintro e w2 ⟨rfl,v2,hw2,hk2⟩;rw[←HV.out]at hw2;have wP:Hid _:=hw2;have pM:Hid (bA w w2 p bl v v2):=rJ.out.trans hk2;clear hw2 hk2;go_wp2_with fail
      go_end0
      exact⟨rfl,v2,wP.out,pM.out⟩
 ·rw[cV]at c6;have HV:Hid (WF (aJ G) (ai G) (jD G) L (f+1) false t n=t):=kv _ _ _ _ cV;go_enter func62,ntmps62;go_wp2_with fail;refine zao (results_none rfl _ _ _) rfl ?_;exact⟨rfl,v,by rw[HV.out];exact HW.out,bA.refl _ _ _ _⟩
theorem yX {G:List Nd}{b o cap:Nat}{W0:Ξ}{p bl bL:Nat}{L:Nat→Bool}{Rc:Nat→Prop}{rk:Nat→Nat}(C:Gb G b o W0 p bl bL L Rc rk):∀f g,g≤f→Gc G b o cap W0 p bl bL L Rc g
 |0,g,hg=>by
  intro t a w v _ _ _ _ hf;have:=sZ t;omega
 |f+1,g,hg=>by
  rcases zaw f g with h|h
  ·have:g=f+1:=by omega
   subst this;exact MM G b o cap W0 p bl bL L Rc rk C f (λg hg=>yX C f g hg)
  ·exact yX C f g h
def vT (t:TS):List UInt8:=if t.long then[]else t.out
def DV (t:TS):Bool:=!t.long
def iZ (n k:Nat):List Int:=Λ k (-1)++Λ (n-k) 0
theorem yY (n k:Nat)(h:k≤n):(iZ n k).length=n:=by simp[iZ];omega
theorem I8 (n k:Nat)(h:k<n):(iZ n k).set k (-1)=iZ n (k+1):=by
 apply List.ext_getElem?
 intro i;unfold iZ;rw[List.getElem?_set];simp only[List.getElem?_append,zcF,zaR,List.length_replicate];repeat' split
 all_goals first|rfl|omega|(simp;omega)
theorem I9 (n:Nat):iZ n n=Λ n (-1):=by simp[iZ]
theorem dm.Zt {B p bl bL:Nat}{v:Ω}(h:dm w B p bl bL n nv t v)(hne:p≠bl){a:Nat}(ha:a<t.cE.length)(z:Int):dm (w.setCell ⟨bl,a,none⟩ (Γ Δ z)) B p bl bL n nv { t with cE:=t.cE.set a z } v:=by
 obtain⟨q,hq,hb⟩:=h.blk;refine⟨h.hB,⟨q,hq,(zax _ _ _ _ hne).trans hb⟩,?_,h.rl.set a ha z,h.nb,h.ol,?_⟩
 ·exact h.own.kept (row:=some bl) ⟨rfl,rfl,rfl,by simp[Ξ.setCell],λk _ hk=>zax _ _ _ _ (λe=>hk (by simp[e]))⟩ (Or.inr h.nb)
 ·have:=h.bl;simpa[Ξ.setCell]using this
theorem vU (G:List Nd)(b o cap:Nat)(W:Ξ)(bL:Nat)(L:Nat→Bool)(Rc:Nat→Prop)(rk:Nat→Nat)(C:∀p bl,W.heap.size≤p→W.heap.size≤bl→p≠bl→Gb G b o W p bl bL L Rc rk)(h0:Rc 0)(Ln:0<G.length)(hn:G.length≤150)(F:Nat)(hF:403≤F)(hout:(WF (aJ G) (ai G) (jD G) L F false (bu G.length) 0).long=false→(WF (aJ G) (ai G) (jD G) L F false (bu G.length) 0).out≠[]):ζ prog 39 #[.slice (some ⟨b,o,none⟩) G.length cap,.slice (some ⟨bL,0,none⟩) G.length G.length] W λe w'=>
  e=.returned (.tuple #[.string ⟨⟨vT (WF (aJ G) (ai G) (jD G) L F false (bu G.length) 0)⟩⟩,.bool (DV (WF (aJ G) (ai G) (jD G) L F false (bu G.length) 0))])∧Θ W.heap.size W w':=by
 obtain⟨tf,htf⟩:∃tf,Hid (tf=WF (aJ G) (ai G) (jD G) L F false (bu G.length) 0):=⟨_,rfl⟩;rw[←htf.out]at hout ⊢;have HC:Hid _:=C;clear C;have mki:=run_make_row' (P:=prog) 43 3 (Γ Δ 0) 8 underlying43 KC rfl .i64 .i64 G.length (by omega) (by omega);go_enter func39,ntmps39;have HS:Hid (dm ((W.alloc (Obj.cells (Φ #[Ω.int IntKind.i64 0] G.length) 3)).alloc (Obj.cells #[.slice (some ⟨b,o,none⟩) G.length cap,.slice (some ⟨bL,0,none⟩) G.length G.length,.slice (some ⟨W.heap.size,0,none⟩) G.length G.length,Γ Δ 0,.pointer none,.slice none 0 0,.bool false] 118))
  W.heap.size (W.heap.size+1) W.heap.size bL G.length (.slice (some ⟨b,o,none⟩) G.length cap) ⟨iZ G.length 0,0,[],false⟩ (.slice none 0 0)):=by
  have hz:iZ G.length 0=Λ G.length 0:=by simp[iZ]
  refine⟨by omega,⟨_,Or.inl rfl,?_⟩,zck _ _ _ _,?_,by simp[Ω.ownBlock],by simp,by simp;omega⟩
  ·have:=zav (W.alloc (Obj.cells (Φ #[Ω.int IntKind.i64 0] G.length) 3)) (Obj.cells #[.slice (some ⟨b,o,none⟩) G.length cap,.slice (some ⟨bL,0,none⟩) G.length G.length,.slice (some ⟨W.heap.size,0,none⟩) G.length G.length,Γ Δ 0,.pointer none,.slice none 0 0,.bool false] 118);rw[Ξ.size_alloc]at this;exact this
  ·show lx _ _ (iZ G.length 0);rw[hz];exact BO ((zaT _ _ _ (by simp)).trans (zav W _))
 have HSB:Hid (Θ W.heap.size W ((W.alloc (Obj.cells (Φ #[Ω.int IntKind.i64 0] G.length) 3)).alloc (Obj.cells #[.slice (some ⟨b,o,none⟩) G.length cap,.slice (some ⟨bL,0,none⟩) G.length G.length,.slice (some ⟨W.heap.size,0,none⟩) G.length G.length,Γ Δ 0,.pointer none,.slice none 0 0,.bool false] 118))):=
  ((zad _ _).alloc (zac _) _).alloc (by simp) _
 go_wp2_with fail;go_loopw [20] (λi wr=>∃k:Nat,k≤G.length∧i=Γ Δ k∧Hid (dm wr W.heap.size (W.heap.size+1) W.heap.size bL G.length (.slice (some ⟨b,o,none⟩) G.length cap) ⟨iZ G.length k,0,[],false⟩ (.slice none 0 0))∧Hid (Θ W.heap.size W wr)) (λi _=>G.length-(intOf i).toNat)
 case atStart=>exact⟨0,zaq _,rfl,HS.out,HSB.out⟩
 case round=>
  obtain⟨k,hk,rfl,yU,G1⟩:=hrel;obtain⟨c0,c1,c2,c6⟩:=yU.out.cells;by_cases hlt:k<G.length
  ·obtain⟨rq,hl2⟩:=yU.out.rl k (by show k<(iZ G.length k).length;rw[yY _ _ hk];exact hlt);have HN:Hid _:=yU.out.Zt (by omega) (a:=k) (by show k<(iZ G.length k).length;rw[yY _ _ hk];exact hlt) (-1);have HNB:Hid (Θ W.heap.size W (wr.setCell ⟨W.heap.size,k,none⟩ (Γ Δ (-1)))):=G1.out.setCell (p:=⟨W.heap.size,k,none⟩) (zac _) _;simp only[I8 _ _ hlt]at HN;go_wp2_with fail;go_roundw
   case rel=>exact⟨k+1,by omega,by go_num,HN,HNB⟩
   case measure=>simp[intOf];omega
  ·have S3:k=G.length:=by omega
   have NJ:Hid (dm wr W.heap.size (W.heap.size+1) W.heap.size bL G.length (.slice (some ⟨b,o,none⟩) G.length cap) (bu G.length) (.slice none 0 0)):=by
    have:=yU.out;rw[S3,I9]at this;exact this
   have HCC:Hid _:=HC.out (W.heap.size+1) W.heap.size (by omega) (zac _) (by omega);clear c0 c1 c2 c6 yU mki;go_wp2_with fail;refine(yX (cap:=cap) HCC.out F F (zac _) (bu G.length) 0 _ _ (pU _ _) (by omega) (by omega) h0 (by show need (bu G.length)≤F;unfold need bu;simp;omega) G1.out NJ.out).mono ?_;rintro e w2 ⟨rfl,v2,hw2,hk2⟩;have Zu:dm w2 W.heap.size (W.heap.size+1) W.heap.size bL G.length (.slice (some ⟨b,o,none⟩) G.length cap) tf v2:=by rw[htf.out];exact hw2
   obtain⟨d0,d1,d2,d6⟩:=Zu.cells;have wP:Hid _:=Zu;have iB:Hid (Θ W.heap.size W w2):=G1.out.trans (hk2.below G1.out.size (by omega) (zac _) (by simp[Ω.ownBlock]));clear hw2 Zu hk2 d0 d1 d2;cases cV:tf.long
   ·rw[cV]at d6;have HL1:Hid (vT tf=tf.out):=by show _=_;unfold vT;rw[cV];rfl
    have Zl:Hid (DV tf=true):=by show _=_;unfold DV;rw[cV];rfl
    obtain⟨q,hq,I5⟩:=wP.out.bld;have HO:Hid _:=hout cV;have HBD:Hid _:=I5;clear I5;go_wp2_with fail;refine(lW HBD.out HO.out).mono ?_;rintro e w3 ⟨rfl,h3⟩;have iT:Hid (Θ W.heap.size W w3):=iB.out.trans (h3.below iB.out.size (by omega) wP.out.Qr);clear h3;go_wp2_with fail;go_ret2;exact⟨by rw[HL1.out,Zl.out];rfl,iT.out⟩
   ·rw[cV]at d6;have HL1:Hid (vT tf=[]):=by show _=_;unfold vT;rw[cV];rfl
    have Zl:Hid (DV tf=false):=by show _=_;unfold DV;rw[cV];rfl
    go_wp2_with fail;go_ret2;exact⟨by rw[HL1.out,Zl.out];rfl,iB.out⟩
end Go.Proofs.YtlhimdjkkiflhaaGreatDoor
namespace Go.Loop
def WS.Tw (s:WS):Prop:=∀x,s.wi.getD x false=true→1<s.met.getD x 0
theorem Tw.meet {n:Nat}{S:Nat→List Nat}(hS:∀x,x<n→∀y∈S x,y<n):∀(f:Nat) (s:WS) (a:Nat),s.Ok n→a<n→s.Tw→(bf S f s a).Tw
 |0,s,a,h,ha,ht=>ht
 |f+1,s,a,h,ha,ht=>by
  have hh:∀x,1<s.met.getD x 0→1<(s.hit a).met.getD x 0:=λx hx=>by
   rw[dJ h ha];split<;>(try subst_vars)<;>omega
  simp only[bf];split
  ·rename_i hm;intro x hx;change(s.wi.set a (s.wi.getD a false||s.op.getD a false)).getD x false=true at hx;show 1<(s.hit a).met.getD x 0;rw[cR _ _ _ _ _ (by rw[h.lw];exact ha)]at hx;split at hx
   ·rename_i e;subst e;rw[dJ h ha,zab rfl];omega
   ·exact hh x (ht x hx)
  ·have h2:((s.hit a).enter a).Ok n:=(h.hit ha).enter ha (iW h ha);have t2:((s.hit a).enter a).Tw:=λx hx=>hh x (ht x hx);have:∀(l:List Nat) (t:WS),(∀y∈l,y<n)→t.Ok n→t.Tw→(l.foldl (bf S f) t).Tw:=by
    intro l
    induction l with
    |nil=>intro t _ _ ht;exact ht
    |cons y r ih=>intro t hl ht hw;exact ih _ (λz hz=>hl z (zaQ _ hz)) (Ok.meet hS f t y ht (hl y zaD)) (Tw.meet hS f t y ht (hl y zaD) hw)
   exact this _ _ (hS a ha) h2 t2
theorem UR {n:Nat}{S:Nat→List Nat}(hn:0<n)(hS:∀x,x<n→∀y∈S x,y<n):(fj S n).Tw:=
 Tw.meet hS _ _ _ (kY n) hn (λx hx=>by change(Λ n false).getD x false=true at hx;rw[ez]at hx;exact absurd hx (by simp))
theorem Gf {t:TS}(hn:need t≤403)(ho:t.long=false→t.out.length≤400){p:List UInt8}(hp:1≤p.length):need (t.add p)<403:=by
 cases h:t.long
 ·exact zaI (sY h (ho h) hp) hn
 ·rw[dW h];unfold need;rw[zab h];omega
end Go.Loop
namespace Go.Proofs.YtlhimdjkkiflhaaGreatDoor
open Go.RowKit Go.Loop
variable {w w':Ξ}
theorem UT (n:Int):1≤(Lib.itoa n).length:=by
 have hd:∀u:Nat,1≤(Lib.decDigits u).length:=λu=>by
  rw[Lib.decDigits_length];rw[Lib.nDigits];split<;>omega
 unfold Lib.itoa;split
 ·simp
 ·exact hd _
theorem UU (x:Nd)(hb:aQ x=true)(h1:x.kind≠1)(h2:x.kind≠2):1≤(eU x).length:=by
 unfold aQ at hb;unfold eU;by_cases k0:x.kind=0
 ·rw[zab k0];simp
 rw[zaa k0]at hb ⊢;rw[zaa h1,zaa h2]at hb;by_cases k3:x.kind=3
 ·rw[zab k3];unfold lZ;simp
 rw[zaa k3]at hb ⊢;by_cases k4:x.kind=4
 ·rw[zab k4]at hb ⊢;simp only[zae]at hb;have:=hb.2;unfold ir at this;cases hx:x.text
  ·rw[hx]at this;simp at this
  ·simp
 rw[zaa k4]at hb ⊢;by_cases k5:x.kind=5
 ·rw[zab k5];unfold dV;have:=UT x.n;split
  ·exact this
  ·simp only[zaR,zar];omega
 rw[zaa k5]at hb ⊢;by_cases k6:x.kind=6
 ·rw[zab k6];split<;>simp
 rw[zaa k6];unfold s7;simp
theorem Gg (G:List Nd)(hr:ey G=true)(L:Nat→Bool)(F:Nat)(hF:1≤F):(WF (aJ G) (ai G) (jD G) L F false (bu G.length) 0).long=false→(WF (aJ G) (ai G) (jD G) L F false (bu G.length) 0).out≠[]:=by
 obtain⟨h1,ql,hk,hs,G5⟩:=lI G hr;intro hl ho;have key:need (WF (aJ G) (ai G) (jD G) L F false (bu G.length) 0)<403:=by
  obtain⟨f,rfl⟩:∃f,F=f+1:=⟨F-1,by omega⟩;have e0:(bu G.length).cE.getD 0 (-1)=-1:=by show(Λ G.length (-1:Int)).getD 0 (-1)=-1;exact ez _ _ _
  have cG:=pU G.length L;have n0:need (bu G.length)≤403:=by unfold need bu;simp
  have h2:(if L 0 then(bu G.length).put 0 else bu G.length).Ok G.length L:=by
   split
   ·rename_i e;exact cG.put (by omega) e rfl
   ·exact cG
  have n2:need (if L 0 then(bu G.length).put 0 else bu G.length)≤403:=by
   split
   ·exact zag (F7 _ _) n0
   ·exact n0
  generalize hu:(if L 0 then(bu G.length).put 0 else bu G.length)=u at h2 n2;simp only[WF];rw[zaa (by simp[bu]),e0,zaa (by omega),hu];have Pv:∀p:List UInt8,1≤p.length→need (u.add p)<403:=λp hp=>Gf n2 h2.lo hp;by_cases k1:aJ G 0=1
  ·rw[zab k1];exact zch (gY f true _ _) (zch (gY f false _ _) (Pv _ (by simp)))
  ·rw[zaa k1];by_cases k2:aJ G 0=2
   ·rw[zab k2];exact zch (eP _ _) (zch (s6 (λt y=>gY f false t y) _ _ _) (Pv _ (by simp)))
   ·rw[zaa k2];rw[ld G 0 (by omega)]at k1 k2;exact Pv _ (by rw[I4 G 0 (by omega)];exact UU _ (hk 0 (by omega)) k1 k2)
 unfold need at key;rw[zaa (by rw[hl];simp),ho]at key;simp at key
theorem BQ (G:List Nd)(hr:ey G=true)(mode:Int)(hm:mode=0∨mode=1∨mode=2)(hc:mode=0→qj G=false):∃(Rc:Nat→Prop) (rk:Nat→Nat),Rc 0∧(∀x,Rc x→∀y∈ai G x,Rc y)∧(∀x,Rc x→∀y∈ai G x,aJ G y=1→iY G mode y=false→rk y<rk x):=by
 obtain⟨h1,ql,hk,hs,G5⟩:=lI G hr;have hS:=k9 G hs;obtain⟨R,r,_,h0,fK,hrk⟩:=MF (n:=G.length) (S:=ai G) (by omega) hS;refine⟨reach (ai G) G.length,r,h0,fK,λx hx y hy Yh hl=>hrk x hx y hy ?_⟩;cases hw:(fj (ai G) G.length).wi.getD y false
 ·rfl
 ·exfalso;unfold iY at hl;rcases hm with rfl|rfl|rfl
  ·have:=hc rfl;unfold qj at this;rw[List.any_eq_false]at this;by_cases XA:y<G.length
   ·exact this y (List.mem_range.2 XA) hw
   ·have cG:(fj (ai G) G.length).Ok G.length:=Ok.meet hS _ _ _ (kY _) (by omega);have:(fj (ai G) G.length).wi.getD y false=false:=by
     simp only[η];rw[zcp (by rw[cG.lw];omega)];rfl
    rw[this]at hw;exact absurd hw (by simp)
  ·rw[zab rfl,hw]at hl;exact absurd hl (by simp)
  ·have:=UR (n:=G.length) (S:=ai G) (by omega) hS y hw;rw[zaa (by omega),zab rfl,zaY this,Yh]at hl;simp at hl
def gP (x:Nd):Nd:={ x with sa:=none,cap:=0 }
theorem yZ (G:List Nd):aJ (G.map gP)=aJ G:=by
 funext x;unfold aJ;rw[zbU];cases G[x]?<;>rfl
theorem QB (G:List Nd):jD (G.map gP)=jD G:=by
 funext x;unfold jD;rw[zbU];cases G[x]?<;>rfl
theorem rC (G:List Nd):ai (G.map gP)=ai G:=by
 funext x;unfold ai;rw[zbU];cases G[x]?<;>rfl
theorem Gh (G:List Nd):ey (G.map gP)=ey G:=by
 unfold ey;rw[zby,List.all_map];rfl
theorem MN (G:List Nd)(mode:Int):iY (G.map gP) mode=iY G mode:=by
 funext i;unfold iY;rw[rC,yZ,zby]
theorem MO (G:List Nd):qj (G.map gP)=qj G:=by
 unfold qj;rw[rC,zby]
theorem Gi (G:List Nd)(mode:Int)(F:Nat):dw (G.map gP) mode F=dw G mode F:=by
 unfold dw;rw[rC,yZ,QB,MN,zby]
theorem vt (G:List Nd)(mode:Int)(F:Nat):bJ (G.map gP) mode F=bJ G mode F:=by
 unfold bJ;rw[Gh,MO,Gi]
theorem vu (G H:List Nd)(h:G.map gP=H.map gP)(mode:Int)(F:Nat):bJ G mode F=bJ H mode F:=by
 rw[←vt G,←vt H,h]
open Go.Proofs.Tryz
theorem Ja (k:Int)(w:Ξ):ζ prog 64 #[Γ Δ k] w λe w'=>e=.returned (.bool (decide (1≤k∧k≤3)))∧w'=w:=by
 go_enter func64,ntmps64
 go_wp2
 all_goals
  go_ret;refine⟨aI ?_,rfl⟩;rw[zaZ];simp;omega
def ix (G:List Nd)(mode:Int):Nat→List Bool
 |0=>Λ G.length false
 |k+1=>(ix G mode k).set k (iY G mode k)
theorem mD (G:List Nd)(mode:Int):∀k,(ix G mode k).length=G.length
 |0=>by simp[ix]
 |k+1=>by simp[ix,mD G mode k]
theorem uF (G:List Nd)(mode:Int):∀k,k≤G.length→∀i,(ix G mode k).getD i false=if i<k then iY G mode i else false
 |0,_,i=>by simp only[ix];rw[ez,zaa (by omega)]
 |k+1,hk,i=>by
  simp only[ix];rw[cR _ _ _ _ _ (by rw[mD];omega),uF G mode k (by omega) i];by_cases e:i=k
  ·subst e;rw[zab rfl,zab (by omega)]
  ·rw[zaa e];by_cases h:i<k
   ·rw[zab h,zab (by omega)]
   ·rw[zaa h,zaa (by omega)]
theorem Jb (G:List Nd)(mode:Int)(k:Nat)(hk:k<G.length)(h:iY G mode k=false):ix G mode (k+1)=ix G mode k:=by
 show(ix G mode k).set k (iY G mode k)=_;rw[h];have:=Qt (ix G mode k) k;rw[uF G mode k (by omega) k,zaa (by omega)]at this;exact this
theorem MP (l:List Bool)(bw n:Nat)(hl:l.length=n)(hn:n≤150)(w:Ξ)(hr:iA w bw l):ζ prog 77 #[.slice (some ⟨bw,0,none⟩) n n,.bool true] w λe w'=>(∃z:Int,e=.returned (Γ Δ z)∧(0≤z↔l.any id=true))∧w'=w:=by
 have HR:Hid _:=hr;clear hr;go_enter func77,ntmps77;go_wp2_with fail;go_loopw [8] (λi wr=>∃k:Nat,k≤n∧i=Γ Δ k∧wr=w∧Hid (∀j,j<k→l.getD j false=false)) (λi _=>n-(intOf i).toNat)
 case atStart=>exact⟨0,zaq _,rfl,rfl,λj hj=>by omega⟩
 case round=>
  obtain⟨k,hk,rfl,rfl,hz⟩:=hrel;by_cases hlt:k<n
  ·obtain⟨c,_⟩:=HR.out k (by omega);cases hv:l.getD k false
   ·rw[hv]at c;have HV:Hid _:=hv;clear hv;go_wp2_with fail;go_roundw
    case rel=>exact⟨k+1,by omega,by go_num,trivial,λj hj=>by
     rcases zaw j k with h|h
     ·exact hz.out j h
     ·obtain rfl:j=k:=by omega
      exact HV.out⟩
    case measure=>simp[intOf];omega
   ·rw[hv]at c;have HV:Hid (l.any id=true):=by
     rw[List.any_eq_true];have S3:k<l.length:=by omega
     refine⟨l[k],zbx S3,?_⟩;simp only[η,zat S3,zbg]at hv;exact hv
    clear hv;go_wp2_with fail;go_ret;exact⟨⟨_,rfl,⟨λ_=>HV.out,λ_=>by omega⟩⟩,rfl⟩
  ·have HV:Hid (l.any id=false):=by
    rw[List.any_eq_false];intro x hx;obtain⟨j,hj,rfl⟩:=List.mem_iff_getElem.1 hx;have:=hz.out j (by omega);simp only[η,zat hj,zbg]at this;simp[this]
   go_wp2_with fail;go_ret;exact⟨⟨_,rfl,⟨λh=>by omega,λh=>by rw[HV.out]at h;exact absurd h (by simp)⟩⟩,rfl⟩
theorem MQ (l:List Bool)(bw n:Nat)(hl:l.length=n)(hn:n≤150)(vm:Ω)(hvm:∃a c d,vm=.slice a c d)(w:Ξ)(hr:iA w bw l):ζ prog 28 #[.agg #[vm,.slice (some ⟨bw,0,none⟩) n n]] w λe w'=>e=.returned (.bool (l.any id))∧Θ w.heap.size w w':=by
 obtain⟨a,c,d,rfl⟩:=hvm;have HR:Hid (iA (w.alloc (.cells #[.slice a c d,.slice (some ⟨bw,0,none⟩) n n] 68)) bw l):=λi hi=>by
  obtain⟨h1,h2⟩:=hr i hi;have hb:bw<w.heap.size:=lH h1;rw[aD.cell (p:=⟨bw,i,none⟩) hb,aD.frozen (p:=⟨bw,i,none⟩) hb];exact⟨h1,h2⟩
 clear hr;have hcon:ζ prog 46 #[.slice (some ⟨bw,0,none⟩) n n,.bool true] (w.alloc (.cells #[.slice a c d,.slice (some ⟨bw,0,none⟩) n n] 68)) λe w'=>e=.returned (.bool (l.any id))∧w'=(w.alloc (.cells #[.slice a c d,.slice (some ⟨bw,0,none⟩) n n] 68)):=by
  generalize w.alloc (.cells #[.slice a c d,.slice (some ⟨bw,0,none⟩) n n] 68)=w1 at *;go_enter func46,ntmps46;go_wp2_with fail;refine(MP l bw n hl hn _ HR.out).mono ?_;rintro e w2 ⟨⟨z,rfl,hz⟩,rfl⟩;have HZ:Hid _:=hz;clear hz;go_wp2_with fail;go_ret;refine⟨aI ?_,rfl⟩;rw[zaZ];simp[←HZ.out]
 have HC:Hid _:=hcon;clear hcon HR;go_enter func28,ntmps28;go_wp2_with fail;refine zai HC.out ?_;rintro e w2 ⟨rfl,rfl⟩;go_wp2_with fail;go_ret;exact⟨rfl,aD⟩
theorem iA.below {b:Nat}{l:List Bool}{B:Nat}(h:iA w b l)(hb:Θ B w w')(hB:b<B):iA w' b l:=λi hi=>by
 rw[hb.cell (p:=⟨b,i,none⟩) hB,hb.frozen (p:=⟨b,i,none⟩) hB];exact h i hi
theorem lx.below {b:Nat}{l:List Int}{B:Nat}(h:lx w b l)(hb:Θ B w w')(hB:b<B):lx w' b l:=λi hi=>by
 rw[hb.cell (p:=⟨b,i,none⟩) hB,hb.frozen (p:=⟨b,i,none⟩) hB];exact h i hi
theorem Du (G:List Nd)(b o cap:Nat)(mode:Int)(hm:mode=0∨mode=1∨mode=2)(bm bw:Nat)(w:Ξ)(hG:bK w b o G)(hn:G.length≤150)(cG:(fj (ai G) G.length).Ok G.length)
 (G6:lx w bm (fj (ai G) G.length).met)(G7:iA w bw (fj (ai G) G.length).wi):
 ζ prog 40 #[.slice (some ⟨b,o,none⟩) G.length cap,Γ Δ mode,.agg #[.slice (some ⟨bm,0,none⟩) G.length G.length,.slice (some ⟨bw,0,none⟩) G.length G.length]] w
  λe w'=>∃bL,e=.returned (.slice (some ⟨bL,0,none⟩) G.length G.length)∧iA w' bL (ix G mode G.length)∧Θ w.heap.size w w':=by
 have HG:Hid _:=hG;have HM:Hid _:=G6;have HW:Hid _:=G7;have HO:Hid _:=cG;have HMD:Hid _:=hm;clear hG G6 G7 cG hm;have mkb:=run_make_row' (P:=prog) 66 4 (.bool false) 1 underlying66 Gd rfl .i64 .i64 G.length (by omega) (by omega);have rL:Hid (iA ((w.alloc (.cells #[.slice (some ⟨bm,0,none⟩) G.length G.length,.slice (some ⟨bw,0,none⟩) G.length G.length] 68)).alloc (.cells (Φ #[.bool false] G.length) 4)) (w.heap.size+1) (ix G mode 0)):=by
  have:=zav (w.alloc (.cells #[.slice (some ⟨bm,0,none⟩) G.length G.length,.slice (some ⟨bw,0,none⟩) G.length G.length] 68)) (.cells (Φ #[.bool false] G.length) 4);rw[Ξ.size_alloc]at this;exact uE this
 have HB0:Hid (Θ (w.heap.size+1) (w.alloc (.cells #[.slice (some ⟨bm,0,none⟩) G.length G.length,.slice (some ⟨bw,0,none⟩) G.length G.length] 68)) ((w.alloc (.cells #[.slice (some ⟨bm,0,none⟩) G.length G.length,.slice (some ⟨bw,0,none⟩) G.length G.length] 68)).alloc (.cells (Φ #[.bool false] G.length) 4))):=
  (zad _ _).alloc (by simp) _
 obtain⟨wa,SJ⟩:∃wa,Hid (wa=w.alloc (.cells #[.slice (some ⟨bm,0,none⟩) G.length G.length,.slice (some ⟨bw,0,none⟩) G.length G.length] 68)):=⟨_,rfl⟩;go_enter func40,ntmps40;go_wp2_with fail;go_loopw [14] (λi wr=>∃k:Nat,k≤G.length∧i=Γ Δ k∧Hid (iA wr (w.heap.size+1) (ix G mode k))∧Hid (Θ (w.heap.size+1) wa wr)) (λi _=>G.length-(intOf i).toNat)
 case atStart=>exact⟨0,zaq _,rfl,rL.out,by show Θ _ _ _;rw[SJ.out];exact HB0.out⟩
 case round=>
  obtain⟨k,hk,rfl,hr,hb⟩:=hrel;have NC:Θ w.heap.size w wr:=aD.trans ((SJ.out▸hb.out).mono (by omega));by_cases hlt:k<G.length
  ·have q0:wr.cell? ⟨w.heap.size,0,none⟩=some (.slice (some ⟨bm,0,none⟩) G.length G.length):=by
    rw[hb.out.cell (p:=⟨w.heap.size,0,none⟩) (show w.heap.size<w.heap.size+1 by omega),SJ.out,Ξ.cell?_alloc_at _ _ _ _ rfl];rfl
   have q1:wr.cell? ⟨w.heap.size,1,none⟩=some (.slice (some ⟨bw,0,none⟩) G.length G.length):=by
    rw[hb.out.cell (p:=⟨w.heap.size,1,none⟩) (show w.heap.size<w.heap.size+1 by omega),SJ.out,Ξ.cell?_alloc_at _ _ _ _ rfl];rfl
   obtain⟨cm,_⟩:=HM.out k (by rw[HO.out.lm];exact hlt);obtain⟨cw,_⟩:=HW.out k (by rw[HO.out.lw];exact hlt);have cm':=cd NC cm;have cw':=cd NC cw;obtain⟨ch,cf⟩:=hr.out k (by rw[mD];exact hlt);have n0:=((HG.out k hlt).below NC).kind;have HKD:Hid _:=ld G k hlt;have HLB:Hid (iY G mode k=if mode=1 then(fj (ai G) G.length).wi.getD k false else if mode=2 then decide (1<(fj (ai G) G.length).met.getD k 0)&&decide (1≤aJ G k∧aJ G k≤3)else false):=rfl;rw[HKD.out]at HLB;have QC:∀v,Hid (iA (wr.setCell ⟨w.heap.size+1,k,none⟩ (.bool v)) (w.heap.size+1) ((ix G mode k).set k v)):=λv=>hr.out.set k (by rw[mD];exact hlt) v;have HBS:∀v,Hid (Θ (w.heap.size+1) wa (wr.setCell ⟨w.heap.size+1,k,none⟩ (.bool v))):=λv=>hb.out.setCell (p:=⟨w.heap.size+1,k,none⟩) (zac _) _;have HSM:Hid (iY G mode k=false→ix G mode (k+1)=ix G mode k):=Jb G mode k hlt;have HST:Hid (ix G mode (k+1)=(ix G mode k).set k (iY G mode k)):=rfl;clear cm cw HKD NC mkb rL HB0;generalize (fj (ai G) G.length).wi.getD k false=wv at *;generalize (fj (ai G) G.length).met.getD k 0=mv at *;generalize G[k].kind=kd at *;generalize (ix G mode k).getD k false=hv at *;rcases HMD.out with h0|h0|h0
   ·have e1:(mode==1)=false:=by rw[h0];decide
    have e2:(mode==2)=false:=by rw[h0];decide
    have HL:Hid (iY G mode k=false):=by show _=_;rw[HLB.out,zaa (by omega),zaa (by omega)]
    have HE:Hid _:=HSM.out HL.out;clear h0 QC HBS;go_wp2_with fail;go_roundw
    case rel=>exact⟨k+1,by omega,by go_num,by show iA _ _ _;rw[HE.out];exact hr.out,hb⟩
    case measure=>simp[intOf];omega
   ·have e1:(mode==1)=true:=by rw[h0];decide
    have HL:Hid (iY G mode k=wv):=by show _=_;rw[HLB.out,zab h0]
    have HS1:=QC wv;have jb:=HBS wv;clear h0 QC HBS;go_wp2_with fail;go_roundw
    case rel=>exact⟨k+1,by omega,by go_num,by show iA _ _ _;rw[HST.out,HL.out];exact HS1.out,jb⟩
    case measure=>simp[intOf];omega
   ·have e1:(mode==1)=false:=by rw[h0];decide
    have e2:(mode==2)=true:=by rw[h0];decide
    have HL:Hid (iY G mode k=(decide (1<mv)&&decide (1≤kd∧kd≤3))):=by show _=_;rw[HLB.out,zaa (by omega),zab h0]
    have HS1:=QC (decide (1<mv)&&decide (1≤kd∧kd≤3));have jb:=HBS (decide (1<mv)&&decide (1≤kd∧kd≤3));clear h0 QC HBS;by_cases hmv:1<mv
    ·rw[zaY hmv,zbI,Bool.decide_and]at HS1 jb HL;go_wp2_with (go_at_call 64;refine(Ja _ _).mono ?_;rintro e w' ⟨rfl,rfl⟩);go_roundw
     case rel=>exact⟨k+1,by omega,by go_num,by show iA _ _ _;rw[HST.out,HL.out];exact HS1.out,jb⟩
     case measure=>simp[intOf];omega
    ·have afy:mv≤1:=by omega
     rw[zaS hmv,Bool.false_and]at HS1 jb HL;clear hmv;go_wp2_with fail;go_roundw
     case rel=>exact⟨k+1,by omega,by go_num,by show iA _ _ _;rw[HST.out,HL.out];exact HS1.out,jb⟩
     case measure=>simp[intOf];omega
  ·obtain rfl:k=G.length:=by omega
   have HF:Hid (Θ w.heap.size w wr):=NC;go_wp2_with fail;go_ret;exact⟨_,rfl,hr.out,HF.out⟩
theorem UW (G:List Nd)(h:(fj (ai G) G.length).Ok G.length):(fj (ai G) G.length).wi.any id=qj G:=by
 have hl:=h.lw;unfold qj;rw[zaZ,List.any_eq_true,List.any_eq_true];constructor
 ·rintro ⟨x,hx,hv⟩;obtain⟨j,hj,rfl⟩:=List.mem_iff_getElem.1 hx;refine⟨j,List.mem_range.2 (by omega),?_⟩;simp only[η,zat hj,zbg];exact hv
 ·rintro ⟨j,hj,hv⟩;have hj2:j<(fj (ai G) G.length).wi.length:=by rw[hl];exact List.mem_range.1 hj
  refine⟨_,zbx hj2,?_⟩;simp only[η,zat hj2,zbg]at hv;exact hv
theorem Pow.on' (h:Pow w)(hb:Θ w.heap.size w w'):Pow w':=h.on hb
theorem y7 (G:List Nd)(b o cap:Nat)(mode:Int)(hm:mode=0∨mode=1∨mode=2)(F:Nat)(hF:403≤F)(w:Ξ)(bm bw:Nat)(hr:ey G=true)(hG:bK w b o G)(hp:Pow w)
 (G6:lx w bm (fj (ai G) G.length).met)(G7:iA w bw (fj (ai G) G.length).wi)(hc:mode=0→qj G=false):
 ζ prog 40 #[.slice (some ⟨b,o,none⟩) G.length cap,Γ Δ mode,.agg #[.slice (some ⟨bm,0,none⟩) G.length G.length,.slice (some ⟨bw,0,none⟩) G.length G.length]] w
  λe w1=>∃bL,e=.returned (.slice (some ⟨bL,0,none⟩) G.length G.length)∧Θ w.heap.size w w1∧
   ζ prog 39 #[.slice (some ⟨b,o,none⟩) G.length cap,.slice (some ⟨bL,0,none⟩) G.length G.length] w1 λe w'=>e=.returned (.tuple #[.string ⟨⟨vT (dw G mode F)⟩⟩,.bool (DV (dw G mode F))])∧Θ w1.heap.size w1 w':=by
 obtain⟨h1,ql,hk,hs,G5⟩:=lI G hr;have cG:(fj (ai G) G.length).Ok G.length:=Ok.meet (k9 G hs) _ _ _ (kY _) (by omega);refine(Du G b o cap mode hm bm bw w hG ql cG G6 G7).mono ?_;rintro e w1 ⟨bL,rfl,hrl,hb⟩;obtain⟨Rc,rk,r0,r1,r2⟩:=BQ G hr mode hm hc;refine⟨bL,rfl,hb,?_⟩;refine vU G b o cap w1 bL (iY G mode) Rc rk (λp bl Ag PF hp3=>⟨hG.below hb,hk,hs,ql,Ag,PF,hp3,λi hi=>?_,hp.on hb,r1,r2⟩) r0 (by omega) ql F hF (Gg G hr (iY G mode) F (by omega));have:=(hrl i (by rw[mD];exact hi)).1;rw[uF G mode _ (zac _) i,zab hi]at this;exact this
theorem s9 (G:List Nd)(b o cap:Nat)(mode:Int)(F:Nat)(hF:403≤F)(w:Ξ)(hlen:G.length≤maxLen)(hG:bK w b o G)(hp:Pow w):ζ prog 19 #[(.slice (some ⟨b,o,none⟩) G.length cap),Γ Δ mode] w λe w'=>e=.returned (.tuple #[.string ⟨⟨(bJ G mode F).1⟩⟩,Γ Δ (bJ G mode F).2])∧Θ w.heap.size w w':=by
 have HG:Hid (bK w b o G):=hG;have HP:Hid (Pow w):=hp;have HLM:Hid (G.length≤maxLen):=hlen;clear hG hp hlen;by_cases hm:mode<0∨2<mode
 ·have HV:Hid (bJ G mode F=([],1)):=by show _=_;unfold bJ;rw[zab hm]
  have m0:(mode != 0)=true:=by simp;omega
  have m1:(mode != 1)=true:=by simp;omega
  have m2:(mode != 2)=true:=by simp;omega
  go_enter func19,ntmps19;go_wp2_with fail;go_ret2;exact⟨kx (a:=[]) (by rw[HV.out]) (by rw[HV.out]),zad _ _⟩
 ·have KF:mode=0∨mode=1∨mode=2:=by omega
  have HM:Hid (¬(mode<0∨2<mode)):=hm;have HMD:Hid _:=KF;clear hm;cases hr:ey G
  ·have HV:Hid (bJ G mode F=([],8)):=by show _=_;unfold bJ;rw[zaa HM.out,zab hr]
   rcases KF with rfl|rfl|rfl
   all_goals
    go_enter func19,ntmps19;go_wp2_with fail;refine(pP G b o cap _ HLM.out HG.out).mono ?_;rw[hr];rintro e w2 ⟨rfl,hb2⟩;go_wp2_with fail;go_ret2;exact⟨kx (a:=[]) (by rw[HV.out]) (by rw[HV.out]),hb2⟩
  ·obtain⟨h1,ql,hk,hs,G5⟩:=lI G hr;have HKK:Hid (∀x (hx:x<G.length),aQ G[x]=true):=hk;have HSS:Hid (∀x (hx:x<G.length),eT G[x].subs G.length=true):=hs;have H20:Hid (∀x,(ai G x).length≤20):=G5;have DU:Hid ((fj (ai G) G.length).Ok G.length):=Ok.meet (k9 G hs) _ _ _ (kY _) (by omega);have HR:Hid (ey G=true):=hr;have HRK:Hid ((mode=0→qj G=false)→∃(Rc:Nat→Prop) (rk:Nat→Nat),Rc 0∧(∀x,Rc x→∀y∈ai G x,Rc y)∧(∀x,Rc x→∀y∈ai G x,aJ G y=1→iY G mode y=false→rk y<rk x)):=BQ G hr mode KF;have HOT:Hid _:=Gg G hr (iY G mode) F (by omega);clear hk hs G5;by_cases h0:mode=0
   ·subst h0;go_enter func19,ntmps19;go_wp2_with fail;refine(pP G b o cap _ HLM.out HG.out).mono ?_;rw[hr];rintro e w2 ⟨rfl,hb2⟩;have XB:Hid (bK w2 b o G):=bK.below HG.out hb2;have iB:Hid (Θ w.heap.size w w2):=hb2;clear hb2;go_wp2_with fail;refine(oZ G b o cap _ XB.out ql h1 HSS.out H20.out).mono ?_;rintro e w3 ⟨bm,bw,rfl,G6,G7,hb3⟩;have HRM:Hid _:=G6;have HRW:Hid _:=G7;have HG3:Hid (bK w3 b o G):=bK.below XB.out hb3;have iT:Hid (Θ w.heap.size w w3):=iB.out.trans (hb3.mono iB.out.size);have Zv:bm<w3.heap.size:=lH (G6 0 (by rw[DU.out.lm];omega)).1;have XC:bw<w3.heap.size:=lH (G7 0 (by rw[DU.out.lw];omega)).1;clear G6 G7 hb3;go_wp2_with fail;obtain⟨w4,hw4⟩:∃w4,w4=w3.alloc (.cells #[.slice (some ⟨bm,0,none⟩) G.length G.length,.slice (some ⟨bw,0,none⟩) G.length G.length] 68):=⟨_,rfl⟩;rw[←hw4];have hx:Θ w3.heap.size w3 w4:=by rw[hw4];exact aD
    have fK:∀j,w4.cell? ⟨w3.heap.size,j,none⟩=(#[.slice (some ⟨bm,0,none⟩) G.length G.length,.slice (some ⟨bw,0,none⟩) G.length G.length]:Array Ω)[j]?:=λj=>by rw[hw4,Ξ.cell?_alloc_at _ _ _ _ rfl]
    have h4:w3.heap.size<w4.heap.size:=by rw[hw4];simp
    refine(MQ _ bw G.length DU.out.lw ql _ ⟨_,_,_,rfl⟩ _ (iA.below HRW.out hx XC)).mono ?_;rw[UW G DU.out];cases hcy:qj G
    ·rintro e w5 ⟨rfl,j8⟩;have d0:w5.cell? ⟨w3.heap.size,0,none⟩=some (.slice (some ⟨bm,0,none⟩) G.length G.length):=by rw[j8.cell (p:=⟨w3.heap.size,0,none⟩) h4,fK];rfl
     have d1:w5.cell? ⟨w3.heap.size,1,none⟩=some (.slice (some ⟨bw,0,none⟩) G.length G.length):=by rw[j8.cell (p:=⟨w3.heap.size,1,none⟩) h4,fK];rfl
     have MR:Θ w3.heap.size w3 w5:=hx.trans (j8.mono (by omega));have HT:Hid _:=y7 G b o cap 0 (by omega) F hF w5 bm bw HR.out (bK.below HG3.out MR) (HP.out.on' (iT.out.trans (MR.mono iT.out.size))) (lx.below HRM.out MR Zv) (iA.below HRW.out MR XC) (λ_=>hcy);have rN:Hid (Θ w.heap.size w w5):=iT.out.trans (MR.mono iT.out.size);have HM:Hid (¬((0:Int)<0∨(2:Int)<0)):=by show ¬_;omega
     clear fK hx h4 j8 MR hw4;go_wp2_with fail;refine zai HT.out ?_;rintro e w6 ⟨bL,rfl,nX,hwr⟩;have XD:Hid _:=hwr;have vS:Hid (Θ w.heap.size w w6):=rN.out.trans (nX.mono rN.out.size);clear nX hwr HT;go_wp2_with fail;refine zai XD.out ?_;rintro e w7 ⟨rfl,DT⟩;have yQ:Hid (Θ w.heap.size w w7):=vS.out.trans (DT.mono vS.out.size);clear DT XD;cases Gj:(dw G 0 F).long
     ·have HV:Hid (bJ G 0 F=((dw G 0 F).out,0)):=by show _=_;unfold bJ;rw[zaa HM.out,zaa (by rw[HR.out];simp),zaa (show ¬((0:Int)=0∧qj G=true) from λh=>by rw[hcy]at h;exact absurd h.2 (by simp)),zaa (by rw[Gj];simp)]
      have HO:Hid (vT (dw G 0 F)=(dw G 0 F).out):=by show _=_;unfold vT;rw[Gj];rfl
      have ho:DV (dw G 0 F)=true:=by unfold DV;rw[Gj];rfl
      rw[ho];clear ho;go_wp2_with fail;go_ret2;exact⟨kx (by rw[HV.out,HO.out]) (by rw[HV.out]),yQ.out⟩
     ·have HV:Hid (bJ G 0 F=([],2)):=by show _=_;unfold bJ;rw[zaa HM.out,zaa (by rw[HR.out];simp),zaa (show ¬((0:Int)=0∧qj G=true) from λh=>by rw[hcy]at h;exact absurd h.2 (by simp)),zab Gj]
      have ho:DV (dw G 0 F)=false:=by unfold DV;rw[Gj];rfl
      rw[ho];clear ho;go_wp2_with fail;go_ret2;exact⟨kx (a:=[]) (by rw[HV.out]) (by rw[HV.out]),yQ.out⟩
    ·rintro e w5 ⟨rfl,j8⟩;have rN:Hid (Θ w.heap.size w w5):=iT.out.trans ((hx.trans (j8.mono (by omega))).mono iT.out.size);have HV:Hid (bJ G 0 F=([],9)):=by show _=_;unfold bJ;rw[zaa (by omega),zaa (by rw[HR.out];simp),zab ⟨rfl,hcy⟩]
     clear fK hx h4 j8 hw4;go_wp2_with fail;go_ret2;exact⟨kx (a:=[]) (by rw[HV.out]) (by rw[HV.out]),rN.out⟩
   ·have abQ:mode=1∨mode=2:=by omega
    have HNC:Hid (¬(mode=0∧qj G=true)):=λh=>h0 h.1;have HN0:Hid (mode=0→qj G=false):=λh=>absurd h h0;have m0:(mode==0)=false:=by simp;omega
    have afz:Hid _:=abQ;clear KF;have afA:(mode != 0&&(mode != 1&&mode != 2))=false:=by
     rcases abQ with rfl|rfl<;>rfl
    have m0':(mode != 0)=true:=by simp;omega
    by_cases TC:mode=1
    ·subst TC;go_enter func19,ntmps19;go_wp2_with fail;refine(pP G b o cap _ HLM.out HG.out).mono ?_;rw[hr];rintro e w2 ⟨rfl,hb2⟩;have XB:Hid (bK w2 b o G):=bK.below HG.out hb2;have iB:Hid (Θ w.heap.size w w2):=hb2;clear hb2;go_wp2_with fail;refine(oZ G b o cap _ XB.out ql h1 HSS.out H20.out).mono ?_;rintro e w3 ⟨bm,bw,rfl,G6,G7,hb3⟩;have Zv:bm<w3.heap.size:=lH (G6 0 (by rw[DU.out.lm];omega)).1;have XC:bw<w3.heap.size:=lH (G7 0 (by rw[DU.out.lw];omega)).1;have iT:Hid (Θ w.heap.size w w3):=iB.out.trans (hb3.mono iB.out.size);have HT:Hid _:=y7 G b o cap 1 (by omega) F hF (w3.alloc (.cells #[.slice (some ⟨bm,0,none⟩) G.length G.length,.slice (some ⟨bw,0,none⟩) G.length G.length] 68)) bm bw HR.out (bK.below (bK.below XB.out hb3) aD) (HP.out.on (iT.out.trans (aD.mono iT.out.size))) (lx.below G6 aD Zv) (iA.below G7 aD XC) (λh=>by omega);have rN:Hid (Θ w.heap.size w (w3.alloc (.cells #[.slice (some ⟨bm,0,none⟩) G.length G.length,.slice (some ⟨bw,0,none⟩) G.length G.length] 68))):=iT.out.trans (aD.mono iT.out.size);clear G6 G7 hb3 Zv XC;go_wp2_with fail;refine zai HT.out ?_;rintro e w6 ⟨bL,rfl,nX,hwr⟩;have XD:Hid _:=hwr;have vS:Hid (Θ w.heap.size w w6):=rN.out.trans (nX.mono rN.out.size);clear nX hwr HT;go_wp2_with fail;refine zai XD.out ?_;rintro e w7 ⟨rfl,DT⟩;have yQ:Hid (Θ w.heap.size w w7):=vS.out.trans (DT.mono vS.out.size);clear DT XD;cases Gj:(dw G 1 F).long
     ·have HV:Hid (bJ G 1 F=((dw G 1 F).out,0)):=by show _=_;unfold bJ;rw[zaa HM.out,zaa (by rw[HR.out];simp),zaa HNC.out,zaa (by rw[Gj];simp)]
      have HO:Hid (vT (dw G 1 F)=(dw G 1 F).out):=by show _=_;unfold vT;rw[Gj];rfl
      have ho:DV (dw G 1 F)=true:=by unfold DV;rw[Gj];rfl
      rw[ho];clear ho;go_wp2_with fail;go_ret2;exact⟨kx (by rw[HV.out,HO.out]) (by rw[HV.out]),yQ.out⟩
     ·have HV:Hid (bJ G 1 F=([],2)):=by show _=_;unfold bJ;rw[zaa HM.out,zaa (by rw[HR.out];simp),zaa HNC.out,zab Gj]
      have ho:DV (dw G 1 F)=false:=by unfold DV;rw[Gj];rfl
      rw[ho];clear ho;go_wp2_with fail;go_ret2;exact⟨kx (a:=[]) (by rw[HV.out]) (by rw[HV.out]),yQ.out⟩
    ·obtain rfl:mode=2:=by omega
     go_enter func19,ntmps19;go_wp2_with fail;refine(pP G b o cap _ HLM.out HG.out).mono ?_;rw[hr];rintro e w2 ⟨rfl,hb2⟩;have XB:Hid (bK w2 b o G):=bK.below HG.out hb2;have iB:Hid (Θ w.heap.size w w2):=hb2;clear hb2;go_wp2_with fail;refine(oZ G b o cap _ XB.out ql h1 HSS.out H20.out).mono ?_;rintro e w3 ⟨bm,bw,rfl,G6,G7,hb3⟩;have Zv:bm<w3.heap.size:=lH (G6 0 (by rw[DU.out.lm];omega)).1;have XC:bw<w3.heap.size:=lH (G7 0 (by rw[DU.out.lw];omega)).1;have iT:Hid (Θ w.heap.size w w3):=iB.out.trans (hb3.mono iB.out.size);have HT:Hid _:=y7 G b o cap 2 (by omega) F hF (w3.alloc (.cells #[.slice (some ⟨bm,0,none⟩) G.length G.length,.slice (some ⟨bw,0,none⟩) G.length G.length] 68)) bm bw HR.out (bK.below (bK.below XB.out hb3) aD) (HP.out.on (iT.out.trans (aD.mono iT.out.size))) (lx.below G6 aD Zv) (iA.below G7 aD XC) (λh=>by omega);have rN:Hid (Θ w.heap.size w (w3.alloc (.cells #[.slice (some ⟨bm,0,none⟩) G.length G.length,.slice (some ⟨bw,0,none⟩) G.length G.length] 68))):=iT.out.trans (aD.mono iT.out.size);clear G6 G7 hb3 Zv XC;go_wp2_with fail;refine zai HT.out ?_;rintro e w6 ⟨bL,rfl,nX,hwr⟩;have XD:Hid _:=hwr;have vS:Hid (Θ w.heap.size w w6):=rN.out.trans (nX.mono rN.out.size);clear nX hwr HT;go_wp2_with fail;refine zai XD.out ?_;rintro e w7 ⟨rfl,DT⟩;have yQ:Hid (Θ w.heap.size w w7):=vS.out.trans (DT.mono vS.out.size);clear DT XD;cases Gj:(dw G 2 F).long
     ·have HV:Hid (bJ G 2 F=((dw G 2 F).out,0)):=by show _=_;unfold bJ;rw[zaa HM.out,zaa (by rw[HR.out];simp),zaa HNC.out,zaa (by rw[Gj];simp)]
      have HO:Hid (vT (dw G 2 F)=(dw G 2 F).out):=by show _=_;unfold vT;rw[Gj];rfl
      have ho:DV (dw G 2 F)=true:=by unfold DV;rw[Gj];rfl
      rw[ho];clear ho;go_wp2_with fail;go_ret2;exact⟨kx (by rw[HV.out,HO.out]) (by rw[HV.out]),yQ.out⟩
     ·have HV:Hid (bJ G 2 F=([],2)):=by show _=_;unfold bJ;rw[zaa HM.out,zaa (by rw[HR.out];simp),zaa HNC.out,zab Gj]
      have ho:DV (dw G 2 F)=false:=by unfold DV;rw[Gj];rfl
      rw[ho];clear ho;go_wp2_with fail;go_ret2;exact⟨kx (a:=[]) (by rw[HV.out]) (by rw[HV.out]),yQ.out⟩
def afT (c n:Int):Int:=if c<0 then(-(c+1)).tmod n else c.tmod n
theorem agA {c n:Int}:0≤afT c n:=by
 unfold afT;split
 ·exact Int.tmod_nonneg _ (by omega)
 ·exact Int.tmod_nonneg _ (by omega)
theorem agB {c n:Int}(h:0<n):afT c n<n:=by
 unfold afT;split
 ·exact Int.tmod_lt_of_pos _ h
 ·exact Int.tmod_lt_of_pos _ h
theorem agC (c n:Int)(w:Ξ)(h1: -9223372036854775808≤c)(h2:c≤9223372036854775807)(hn:0<n)(wJ:n≤9223372036854775807):ζ prog 17 #[Γ Δ c,Γ Δ n] w λe w'=>e=.returned (Γ Δ (afT c n))∧w'=w:=by
 have hz:¬n=0:=by omega
 by_cases hc:c<0
 ·have hp:afT c n=-((c+1).tmod n):=by unfold afT;rw[zab hc,Int.neg_tmod]
  go_enter func17,ntmps17
  go_wp2
  all_goals
   go_ret;exact⟨iO hp.symm,rfl⟩
 ·have hp:afT c n=c.tmod n:=by unfold afT;rw[zaa hc]
  go_enter func17,ntmps17
  go_wp2
  all_goals
   go_ret;exact⟨iO (by first|exact hp.symm|exact(Int.tmod_eq_emod_of_nonneg (by omega)).symm),rfl⟩
end Go.Proofs.YtlhimdjkkiflhaaGreatDoor
