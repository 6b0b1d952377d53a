import Derived.Laws.OwnMore
import Derived.Test.YtlhimdjkkiflhaaGreatDoorCut27
import Derived.Test.YtlhimdjkkiflhaaGreatDoorCut31
set_option maxHeartbeats 8000000
set_option maxRecDepth 100000
namespace Go.Proofs.YtlhimdjkkiflhaaGreatDoor
open Go.Proofs.Tryz
open Go.RowKit Go.Loop
theorem FN (k:Int)(w:World):Calls prog 64 #[.int .i64 k] w λe w'=>e=.returned (.bool (decide (1≤k∧k≤3)))∧w'=w:=by
 go_enter func64,ntmps64
 go_wp2
 all_goals
  go_ret;refine⟨aK ?_,rfl⟩;rw[zaz];simp;omega
def iC (G:List Nd)(mode:Int):Nat→List Bool
 |0=>List.replicate G.length false
 |k+1=>(iC G mode k).set k (mr G mode k)
theorem my (G:List Nd)(mode:Int):∀k,(iC G mode k).length=G.length
 |0=>by simp[iC]
 |k+1=>by simp[iC,my G mode k]
theorem tz (G:List Nd)(mode:Int):∀k,k≤G.length→∀i,(iC G mode k).getD i false=if i<k then mr G mode i else false
 |0,_,i=>by simp only[iC];rw[ft,if_neg (by omega)]
 |k+1,hk,i=>by
  simp only[iC];rw[dS _ _ _ _ _ (by rw[my];omega),tz G mode k (by omega) i];by_cases e:i=k
  ·subst e;rw[if_pos rfl,if_pos (by omega)]
  ·rw[if_neg e];by_cases h:i<k
   ·rw[if_pos h,if_pos (by omega)]
   ·rw[if_neg h,if_neg (by omega)]
theorem FO (G:List Nd)(mode:Int)(k:Nat)(hk:k<G.length)(h:mr G mode k=false):iC G mode (k+1)=iC G mode k:=by
 show(iC G mode k).set k (mr G mode k)=_;rw[h];have:=M3 (iC G mode k) k;rw[tz G mode k (by omega) k,if_neg (by omega)]at this;exact this
theorem JU (l:List Bool)(bw n:Nat)(hl:l.length=n)(hn:n≤150)(w:World)(hr:iD w bw l):Calls prog 77 #[.slice (some ⟨bw,0,none⟩) n n,.bool true] w λe w'=>(∃z:Int,e=.returned (.int .i64 z)∧(0≤z↔l.any id=true))∧w'=w:=by
 have HR:Hid _:=hr;clear hr;go_enter func77,ntmps77;go_wp2_with fail;go_loopw [8] (λi wr=>∃k:Nat,k≤n∧i=.int .i64 k∧wr=w∧Hid (∀j,j<k→l.getD j false=false)) (λi _=>n-(intOf i).toNat)
 case atStart=>exact⟨0,zaj _,rfl,rfl,λj hj=>by omega⟩
 case round=>
  obtain⟨k,hk,rfl,rfl,hz⟩:=hrel;by_cases hlt:k<n
  ·obtain⟨c,_⟩:=HR.out k (by omega);cases hv:l.getD k false
   ·rw[hv]at c;have HV:Hid _:=hv;clear hv;go_wp2_with fail;go_roundw
    case rel=>exact⟨k+1,by omega,by go_num,trivial,λj hj=>by
     rcases zag j k with h|h
     ·exact hz.out j h
     ·obtain rfl:j=k:=by omega
      exact HV.out⟩
    case measure=>simp[intOf];omega
   ·rw[hv]at c;have HV:Hid (l.any id=true):=by
     rw[List.any_eq_true];have N8:k<l.length:=by omega
     refine⟨l[k],zaN N8,?_⟩;simp only[List.getD,zai N8,zaD]at hv;exact hv
    clear hv;go_wp2_with fail;go_ret;exact⟨⟨_,rfl,⟨λ_=>HV.out,λ_=>by omega⟩⟩,rfl⟩
  ·have HV:Hid (l.any id=false):=by
    rw[List.any_eq_false];intro x hx;obtain⟨j,hj,rfl⟩:=List.mem_iff_getElem.1 hx;have:=hz.out j (by omega);simp only[List.getD,zai hj,zaD]at this;simp[this]
   go_wp2_with fail;go_ret;exact⟨⟨_,rfl,⟨λh=>by omega,λh=>by rw[HV.out]at h;exact absurd h (by simp)⟩⟩,rfl⟩
theorem JV (l:List Bool)(bw n:Nat)(hl:l.length=n)(hn:n≤150)(vm:Value)(hvm:∃a c d,vm=.slice a c d)(w:World)(hr:iD w bw l):Calls prog 28 #[.agg #[vm,.slice (some ⟨bw,0,none⟩) n n]] w λe w'=>e=.returned (.bool (l.any id))∧Below w.heap.size w w':=by
 obtain⟨a,c,d,rfl⟩:=hvm;have HR:Hid (iD (w.alloc (.cells #[.slice a c d,.slice (some ⟨bw,0,none⟩) n n] 68)) bw l):=λi hi=>by
  obtain⟨h1,h2⟩:=hr i hi;have hb:bw<w.heap.size:=lp h1;rw[aG.cell (p:=⟨bw,i,none⟩) hb,aG.frozen (p:=⟨bw,i,none⟩) hb];exact⟨h1,h2⟩
 clear hr;have hcon:Calls prog 46 #[.slice (some ⟨bw,0,none⟩) n n,.bool true] (w.alloc (.cells #[.slice a c d,.slice (some ⟨bw,0,none⟩) n n] 68)) λe w'=>e=.returned (.bool (l.any id))∧w'=(w.alloc (.cells #[.slice a c d,.slice (some ⟨bw,0,none⟩) n n] 68)):=by
  generalize w.alloc (.cells #[.slice a c d,.slice (some ⟨bw,0,none⟩) n n] 68)=w1 at *;go_enter func46,ntmps46;go_wp2_with fail;refine(JU l bw n hl hn _ HR.out).mono ?_;rintro e w2 ⟨⟨z,rfl,hz⟩,rfl⟩;have HZ:Hid _:=hz;clear hz;go_wp2_with fail;go_ret;refine⟨aK ?_,rfl⟩;rw[zaz];simp[←HZ.out]
 have HC:Hid _:=hcon;clear hcon HR;go_enter func28,ntmps28;go_wp2_with fail;refine Calls.mono HC.out ?_;rintro e w2 ⟨rfl,rfl⟩;go_wp2_with fail;go_ret;exact⟨rfl,aG⟩
theorem iD.below {w w':World}{b:Nat}{l:List Bool}{B:Nat}(h:iD w b l)(hb:Below B w w')(hB:b<B):iD w' b l:=λi hi=>by
 rw[hb.cell (p:=⟨b,i,none⟩) hB,hb.frozen (p:=⟨b,i,none⟩) hB];exact h i hi
theorem k9.below {w w':World}{b:Nat}{l:List Int}{B:Nat}(h:k9 w b l)(hb:Below B w w')(hB:b<B):k9 w' b l:=λi hi=>by
 rw[hb.cell (p:=⟨b,i,none⟩) hB,hb.frozen (p:=⟨b,i,none⟩) hB];exact h i hi
theorem Be (G:List Nd)(b o cap:Nat)(mode:Int)(hm:mode=0∨mode=1∨mode=2)(bm bw:Nat)(w:World)(hG:bM w b o G)(hn:G.length≤150)(cC:(fD (aD G) G.length).Ok G.length)
 (DY:k9 w bm (fD (aD G) G.length).met)(D7:iD w bw (fD (aD G) G.length).wi):
 Calls prog 40 #[.slice (some ⟨b,o,none⟩) G.length cap,.int .i64 mode,.agg #[.slice (some ⟨bm,0,none⟩) G.length G.length,.slice (some ⟨bw,0,none⟩) G.length G.length]] w
  λe w'=>∃bL,e=.returned (.slice (some ⟨bL,0,none⟩) G.length G.length)∧iD w' bL (iC G mode G.length)∧Below w.heap.size w w':=by
 have HG:Hid _:=hG;have HM:Hid _:=DY;have HW:Hid _:=D7;have HO:Hid _:=cC;have HMD:Hid _:=hm;clear hG DY D7 cC hm;have mkb:=run_make_row' (P:=prog) 66 4 (.bool false) 1 underlying66 Dn rfl .i64 .i64 G.length (by omega) (by omega);have qD:Hid (iD ((w.alloc (.cells #[.slice (some ⟨bm,0,none⟩) G.length G.length,.slice (some ⟨bw,0,none⟩) G.length G.length] 68)).alloc (.cells (madeCells #[.bool false] G.length) 4)) (w.heap.size+1) (iC G mode 0)):=by
  have:=heap_alloc_new (w.alloc (.cells #[.slice (some ⟨bm,0,none⟩) G.length G.length,.slice (some ⟨bw,0,none⟩) G.length G.length] 68)) (.cells (madeCells #[.bool false] G.length) 4);rw[World.size_alloc]at this;exact tu this
 have HB0:Hid (Below (w.heap.size+1) (w.alloc (.cells #[.slice (some ⟨bm,0,none⟩) G.length G.length,.slice (some ⟨bw,0,none⟩) G.length G.length] 68)) ((w.alloc (.cells #[.slice (some ⟨bm,0,none⟩) G.length G.length,.slice (some ⟨bw,0,none⟩) G.length G.length] 68)).alloc (.cells (madeCells #[.bool false] G.length) 4))):=
  (Below.refl _ _).alloc (by simp) _
 obtain⟨wa,NP⟩:∃wa,Hid (wa=w.alloc (.cells #[.slice (some ⟨bm,0,none⟩) G.length G.length,.slice (some ⟨bw,0,none⟩) G.length G.length] 68)):=⟨_,rfl⟩;go_enter func40,ntmps40;go_wp2_with fail;go_loopw [14] (λi wr=>∃k:Nat,k≤G.length∧i=.int .i64 k∧Hid (iD wr (w.heap.size+1) (iC G mode k))∧Hid (Below (w.heap.size+1) wa wr)) (λi _=>G.length-(intOf i).toNat)
 case atStart=>exact⟨0,zaj _,rfl,qD.out,by show Below _ _ _;rw[NP.out];exact HB0.out⟩
 case round=>
  obtain⟨k,hk,rfl,hr,hb⟩:=hrel;have Kk:Below w.heap.size w wr:=aG.trans ((NP.out▸hb.out).mono (by omega));by_cases hlt:k<G.length
  ·have q0:wr.cell? ⟨w.heap.size,0,none⟩=some (.slice (some ⟨bm,0,none⟩) G.length G.length):=by
    rw[hb.out.cell (p:=⟨w.heap.size,0,none⟩) (show w.heap.size<w.heap.size+1 by omega),NP.out,World.cell?_alloc_at _ _ _ _ rfl];rfl
   have q1:wr.cell? ⟨w.heap.size,1,none⟩=some (.slice (some ⟨bw,0,none⟩) G.length G.length):=by
    rw[hb.out.cell (p:=⟨w.heap.size,1,none⟩) (show w.heap.size<w.heap.size+1 by omega),NP.out,World.cell?_alloc_at _ _ _ _ rfl];rfl
   obtain⟨cm,_⟩:=HM.out k (by rw[HO.out.lm];exact hlt);obtain⟨cw,_⟩:=HW.out k (by rw[HO.out.lw];exact hlt);have cm':=cj Kk cm;have cw':=cj Kk cw;obtain⟨ch,cf⟩:=hr.out k (by rw[my];exact hlt);have n0:=((HG.out k hlt).below Kk).kind;have HKD:Hid _:=kW G k hlt;have HLB:Hid (mr G mode k=if mode=1 then(fD (aD G) G.length).wi.getD k false else if mode=2 then decide (1<(fD (aD G) G.length).met.getD k 0)&&decide (1≤bF G k∧bF G k≤3)else false):=rfl;rw[HKD.out]at HLB;have Na:∀v,Hid (iD (wr.setCell ⟨w.heap.size+1,k,none⟩ (.bool v)) (w.heap.size+1) ((iC G mode k).set k v)):=λv=>hr.out.set k (by rw[my];exact hlt) v;have ZR:∀v,Hid (Below (w.heap.size+1) wa (wr.setCell ⟨w.heap.size+1,k,none⟩ (.bool v))):=λv=>hb.out.setCell (p:=⟨w.heap.size+1,k,none⟩) (zaa _) _;have HSM:Hid (mr G mode k=false→iC G mode (k+1)=iC G mode k):=FO G mode k hlt;have HST:Hid (iC G mode (k+1)=(iC G mode k).set k (mr G mode k)):=rfl;clear cm cw HKD Kk mkb qD HB0;generalize (fD (aD G) G.length).wi.getD k false=wv at *;generalize (fD (aD G) G.length).met.getD k 0=mv at *;generalize G[k].kind=kd at *;generalize (iC G mode k).getD k false=hv at *;rcases HMD.out with h0|h0|h0
   ·have e1:(mode==1)=false:=by rw[h0];decide
    have e2:(mode==2)=false:=by rw[h0];decide
    have HL:Hid (mr G mode k=false):=by show _=_;rw[HLB.out,if_neg (by omega),if_neg (by omega)]
    have HE:Hid _:=HSM.out HL.out;clear h0 Na ZR;go_wp2_with fail;go_roundw
    case rel=>exact⟨k+1,by omega,by go_num,by show iD _ _ _;rw[HE.out];exact hr.out,hb⟩
    case measure=>simp[intOf];omega
   ·have e1:(mode==1)=true:=by rw[h0];decide
    have HL:Hid (mr G mode k=wv):=by show _=_;rw[HLB.out,if_pos h0]
    have Xn:=Na wv;have k8:=ZR wv;clear h0 Na ZR;go_wp2_with fail;go_roundw
    case rel=>exact⟨k+1,by omega,by go_num,by show iD _ _ _;rw[HST.out,HL.out];exact Xn.out,k8⟩
    case measure=>simp[intOf];omega
   ·have e1:(mode==1)=false:=by rw[h0];decide
    have e2:(mode==2)=true:=by rw[h0];decide
    have HL:Hid (mr G mode k=(decide (1<mv)&&decide (1≤kd∧kd≤3))):=by show _=_;rw[HLB.out,if_neg (by omega),if_pos h0]
    have Xn:=Na (decide (1<mv)&&decide (1≤kd∧kd≤3));have k8:=ZR (decide (1<mv)&&decide (1≤kd∧kd≤3));clear h0 Na ZR;by_cases hmv:1<mv
    ·rw[decide_eq_true hmv,zaW,Bool.decide_and]at Xn k8 HL;go_wp2_with (go_at_call 64;refine(FN _ _).mono ?_;rintro e w' ⟨rfl,rfl⟩);go_roundw
     case rel=>exact⟨k+1,by omega,by go_num,by show iD _ _ _;rw[HST.out,HL.out];exact Xn.out,k8⟩
     case measure=>simp[intOf];omega
    ·have acQ:mv≤1:=by omega
     rw[decide_eq_false hmv,Bool.false_and]at Xn k8 HL;clear hmv;go_wp2_with fail;go_roundw
     case rel=>exact⟨k+1,by omega,by go_num,by show iD _ _ _;rw[HST.out,HL.out];exact Xn.out,k8⟩
     case measure=>simp[intOf];omega
  ·obtain rfl:k=G.length:=by omega
   have HF:Hid (Below w.heap.size w wr):=Kk;go_wp2_with fail;go_ret;exact⟨_,rfl,hr.out,HF.out⟩
theorem P4 (G:List Nd)(h:(fD (aD G) G.length).Ok G.length):(fD (aD G) G.length).wi.any id=qu G:=by
 have hl:=h.lw;unfold qu;rw[zaz,List.any_eq_true,List.any_eq_true];constructor
 ·rintro ⟨x,hx,hv⟩;obtain⟨j,hj,rfl⟩:=List.mem_iff_getElem.1 hx;refine⟨j,List.mem_range.2 (by omega),?_⟩;simp only[List.getD,zai hj,zaD];exact hv
 ·rintro ⟨j,hj,hv⟩;have hj2:j<(fD (aD G) G.length).wi.length:=by rw[hl];exact List.mem_range.1 hj
  refine⟨_,zaN hj2,?_⟩;simp only[List.getD,zai hj2,zaD]at hv;exact hv
theorem Pow.on' {w w':World}(h:Pow w)(hb:Below w.heap.size w w'):Pow w':=h.on hb
theorem xz (G:List Nd)(b o cap:Nat)(mode:Int)(hm:mode=0∨mode=1∨mode=2)(F:Nat)(hF:403≤F)(w:World)(bm bw:Nat)(hr:eQ G=true)(hG:bM w b o G)(hp:Pow w)
 (DY:k9 w bm (fD (aD G) G.length).met)(D7:iD w bw (fD (aD G) G.length).wi)(hc:mode=0→qu G=false):
 Calls prog 40 #[.slice (some ⟨b,o,none⟩) G.length cap,.int .i64 mode,.agg #[.slice (some ⟨bm,0,none⟩) G.length G.length,.slice (some ⟨bw,0,none⟩) G.length G.length]] w
  λe w1=>∃bL,e=.returned (.slice (some ⟨bL,0,none⟩) G.length G.length)∧Below w.heap.size w w1∧
   Calls prog 39 #[.slice (some ⟨b,o,none⟩) G.length cap,.slice (some ⟨bL,0,none⟩) G.length G.length] w1 λe w'=>e=.returned (.tuple #[.string ⟨⟨uH (dQ G mode F)⟩⟩,.bool (Br (dQ G mode F))])∧Below w1.heap.size w1 w':=by
 obtain⟨h1,yB,hk,hs,PW⟩:=lr G hr;have cC:(fD (aD G) G.length).Ok G.length:=Ok.meet (kU G hs) _ _ _ (mn _) (by omega);refine(Be G b o cap mode hm bm bw w hG yB cC DY D7).mono ?_;rintro e w1 ⟨bL,rfl,hrl,hb⟩;obtain⟨Rc,rk,r0,r1,r2⟩:=zE G hr mode hm hc;refine⟨bL,rfl,hb,?_⟩;refine uI G b o cap w1 bL (mr G mode) Rc rk (λp bl vP Pj hp3=>⟨hG.below hb,hk,hs,yB,vP,Pj,hp3,λi hi=>?_,hp.on hb,r1,r2⟩) r0 (by omega) yB F hF (Dr G hr (mr G mode) F (by omega));have:=(hrl i (by rw[my];exact hi)).1;rw[tz G mode _ (zaa _) i,if_pos hi]at this;exact this
theorem Bf (G:List Nd)(b o cap:Nat)(mode:Int)(F:Nat)(hF:403≤F)(w:World)(hlen:G.length≤maxLen)(hG:bM w b o G)(hp:Pow w):Calls prog 19 #[(.slice (some ⟨b,o,none⟩) G.length cap),.int .i64 mode] w λe w'=>e=.returned (.tuple #[.string ⟨⟨(dA G mode F).1⟩⟩,.int .i64 (dA G mode F).2])∧Below w.heap.size w w':=by
 have HG:Hid (bM w b o G):=hG;have HP:Hid (Pow w):=hp;have HLM:Hid (G.length≤maxLen):=hlen;clear hG hp hlen;by_cases hm:mode<0∨2<mode
 ·have HV:Hid (dA G mode F=([],1)):=by show _=_;unfold dA;rw[if_pos hm]
  have m0:(mode != 0)=true:=by simp;omega
  have m1:(mode != 1)=true:=by simp;omega
  have m2:(mode != 2)=true:=by simp;omega
  go_enter func19,ntmps19;go_wp2_with fail;go_ret2;exact⟨kr (a:=[]) (by rw[HV.out]) (by rw[HV.out]),Below.refl _ _⟩
 ·have Hl:mode=0∨mode=1∨mode=2:=by omega
  have HM:Hid (¬(mode<0∨2<mode)):=hm;have HMD:Hid _:=Hl;clear hm;cases hr:eQ G
  ·have HV:Hid (dA G mode F=([],8)):=by show _=_;unfold dA;rw[if_neg HM.out,if_pos hr]
   rcases Hl with rfl|rfl|rfl
   all_goals
    go_enter func19,ntmps19;go_wp2_with fail;refine(pk G b o cap _ HLM.out HG.out).mono ?_;rw[hr];rintro e w2 ⟨rfl,hb2⟩;go_wp2_with fail;go_ret2;exact⟨kr (a:=[]) (by rw[HV.out]) (by rw[HV.out]),hb2⟩
  ·obtain⟨h1,yB,hk,hs,PW⟩:=lr G hr;have HKK:Hid (∀x (hx:x<G.length),bp G[x]=true):=hk;have ZI:Hid (∀x (hx:x<G.length),fq G[x].subs G.length=true):=hs;have H20:Hid (∀x,(aD G x).length≤20):=PW;have Bq:Hid ((fD (aD G) G.length).Ok G.length):=Ok.meet (kU G hs) _ _ _ (mn _) (by omega);have HR:Hid (eQ G=true):=hr;have HRK:Hid ((mode=0→qu G=false)→∃(Rc:Nat→Prop) (rk:Nat→Nat),Rc 0∧(∀x,Rc x→∀y∈aD G x,Rc y)∧(∀x,Rc x→∀y∈aD G x,bF G y=1→mr G mode y=false→rk y<rk x)):=zE G hr mode Hl;have HOT:Hid _:=Dr G hr (mr G mode) F (by omega);clear hk hs PW;by_cases h0:mode=0
   ·subst h0;go_enter func19,ntmps19;go_wp2_with fail;refine(pk G b o cap _ HLM.out HG.out).mono ?_;rw[hr];rintro e w2 ⟨rfl,hb2⟩;have S8:Hid (bM w2 b o G):=bM.below HG.out hb2;have ij:Hid (Below w.heap.size w w2):=hb2;clear hb2;go_wp2_with fail;refine(oD G b o cap _ S8.out yB h1 ZI.out H20.out).mono ?_;rintro e w3 ⟨bm,bw,rfl,DY,D7,hb3⟩;have HRM:Hid _:=DY;have HRW:Hid _:=D7;have HG3:Hid (bM w3 b o G):=bM.below S8.out hb3;have iz:Hid (Below w.heap.size w w3):=ij.out.trans (hb3.mono ij.out.size);have Vh:bm<w3.heap.size:=lp (DY 0 (by rw[Bq.out.lm];omega)).1;have S9:bw<w3.heap.size:=lp (D7 0 (by rw[Bq.out.lw];omega)).1;clear DY D7 hb3;go_wp2_with fail;obtain⟨w4,hw4⟩:∃w4,w4=w3.alloc (.cells #[.slice (some ⟨bm,0,none⟩) G.length G.length,.slice (some ⟨bw,0,none⟩) G.length G.length] 68):=⟨_,rfl⟩;rw[←hw4];have hx:Below w3.heap.size w3 w4:=by rw[hw4];exact aG
    have eG:∀j,w4.cell? ⟨w3.heap.size,j,none⟩=(#[.slice (some ⟨bm,0,none⟩) G.length G.length,.slice (some ⟨bw,0,none⟩) G.length G.length]:Array Value)[j]?:=λj=>by rw[hw4,World.cell?_alloc_at _ _ _ _ rfl]
    have h4:w3.heap.size<w4.heap.size:=by rw[hw4];simp
    refine(JV _ bw G.length Bq.out.lw yB _ ⟨_,_,_,rfl⟩ _ (iD.below HRW.out hx S9)).mono ?_;rw[P4 G Bq.out];cases hcy:qu G
    ·rintro e w5 ⟨rfl,lC⟩;have d0:w5.cell? ⟨w3.heap.size,0,none⟩=some (.slice (some ⟨bm,0,none⟩) G.length G.length):=by rw[lC.cell (p:=⟨w3.heap.size,0,none⟩) h4,eG];rfl
     have d1:w5.cell? ⟨w3.heap.size,1,none⟩=some (.slice (some ⟨bw,0,none⟩) G.length G.length):=by rw[lC.cell (p:=⟨w3.heap.size,1,none⟩) h4,eG];rfl
     have uJ:Below w3.heap.size w3 w5:=hx.trans (lC.mono (by omega));have HT:Hid _:=xz G b o cap 0 (by omega) F hF w5 bm bw HR.out (bM.below HG3.out uJ) (HP.out.on' (iz.out.trans (uJ.mono iz.out.size))) (k9.below HRM.out uJ Vh) (iD.below HRW.out uJ S9) (λ_=>hcy);have A6:Hid (Below w.heap.size w w5):=iz.out.trans (uJ.mono iz.out.size);have HM:Hid (¬((0:Int)<0∨(2:Int)<0)):=by show ¬_;omega
     clear eG hx h4 lC uJ hw4;go_wp2_with fail;refine Calls.mono HT.out ?_;rintro e w6 ⟨bL,rfl,mL,hwr⟩;have Ta:Hid _:=hwr;have zy:Hid (Below w.heap.size w w6):=A6.out.trans (mL.mono A6.out.size);clear mL hwr HT;go_wp2_with fail;refine Calls.mono Ta.out ?_;rintro e w7 ⟨rfl,Bp⟩;have Fx:Hid (Below w.heap.size w w7):=zy.out.trans (Bp.mono zy.out.size);clear Bp Ta;cases Dw:(dQ G 0 F).long
     ·have HV:Hid (dA G 0 F=((dQ G 0 F).out,0)):=by show _=_;unfold dA;rw[if_neg HM.out,if_neg (by rw[HR.out];simp),if_neg (show ¬((0:Int)=0∧qu G=true) from λh=>by rw[hcy]at h;exact absurd h.2 (by simp)),if_neg (by rw[Dw];simp)]
      have HO:Hid (uH (dQ G 0 F)=(dQ G 0 F).out):=by show _=_;unfold uH;rw[Dw];rfl
      have ho:Br (dQ G 0 F)=true:=by unfold Br;rw[Dw];rfl
      rw[ho];clear ho;go_wp2_with fail;go_ret2;exact⟨kr (by rw[HV.out,HO.out]) (by rw[HV.out]),Fx.out⟩
     ·have HV:Hid (dA G 0 F=([],2)):=by show _=_;unfold dA;rw[if_neg HM.out,if_neg (by rw[HR.out];simp),if_neg (show ¬((0:Int)=0∧qu G=true) from λh=>by rw[hcy]at h;exact absurd h.2 (by simp)),if_pos Dw]
      have ho:Br (dQ G 0 F)=false:=by unfold Br;rw[Dw];rfl
      rw[ho];clear ho;go_wp2_with fail;go_ret2;exact⟨kr (a:=[]) (by rw[HV.out]) (by rw[HV.out]),Fx.out⟩
    ·rintro e w5 ⟨rfl,lC⟩;have A6:Hid (Below w.heap.size w w5):=iz.out.trans ((hx.trans (lC.mono (by omega))).mono iz.out.size);have HV:Hid (dA G 0 F=([],9)):=by show _=_;unfold dA;rw[if_neg (by omega),if_neg (by rw[HR.out];simp),if_pos ⟨rfl,hcy⟩]
     clear eG hx h4 lC hw4;go_wp2_with fail;go_ret2;exact⟨kr (a:=[]) (by rw[HV.out]) (by rw[HV.out]),A6.out⟩
   ·have ZT:mode=1∨mode=2:=by omega
    have HNC:Hid (¬(mode=0∧qu G=true)):=λh=>h0 h.1;have HN0:Hid (mode=0→qu G=false):=λh=>absurd h h0;have m0:(mode==0)=false:=by simp;omega
    have acR:Hid _:=ZT;clear Hl;have acS:(mode != 0&&(mode != 1&&mode != 2))=false:=by
     rcases ZT with rfl|rfl<;>rfl
    have m0':(mode != 0)=true:=by simp;omega
    by_cases OG:mode=1
    ·subst OG;go_enter func19,ntmps19;go_wp2_with fail;refine(pk G b o cap _ HLM.out HG.out).mono ?_;rw[hr];rintro e w2 ⟨rfl,hb2⟩;have S8:Hid (bM w2 b o G):=bM.below HG.out hb2;have ij:Hid (Below w.heap.size w w2):=hb2;clear hb2;go_wp2_with fail;refine(oD G b o cap _ S8.out yB h1 ZI.out H20.out).mono ?_;rintro e w3 ⟨bm,bw,rfl,DY,D7,hb3⟩;have Vh:bm<w3.heap.size:=lp (DY 0 (by rw[Bq.out.lm];omega)).1;have S9:bw<w3.heap.size:=lp (D7 0 (by rw[Bq.out.lw];omega)).1;have iz:Hid (Below w.heap.size w w3):=ij.out.trans (hb3.mono ij.out.size);have HT:Hid _:=xz G b o cap 1 (by omega) F hF (w3.alloc (.cells #[.slice (some ⟨bm,0,none⟩) G.length G.length,.slice (some ⟨bw,0,none⟩) G.length G.length] 68)) bm bw HR.out (bM.below (bM.below S8.out hb3) aG) (HP.out.on (iz.out.trans (aG.mono iz.out.size))) (k9.below DY aG Vh) (iD.below D7 aG S9) (λh=>by omega);have A6:Hid (Below w.heap.size w (w3.alloc (.cells #[.slice (some ⟨bm,0,none⟩) G.length G.length,.slice (some ⟨bw,0,none⟩) G.length G.length] 68))):=iz.out.trans (aG.mono iz.out.size);clear DY D7 hb3 Vh S9;go_wp2_with fail;refine Calls.mono HT.out ?_;rintro e w6 ⟨bL,rfl,mL,hwr⟩;have Ta:Hid _:=hwr;have zy:Hid (Below w.heap.size w w6):=A6.out.trans (mL.mono A6.out.size);clear mL hwr HT;go_wp2_with fail;refine Calls.mono Ta.out ?_;rintro e w7 ⟨rfl,Bp⟩;have Fx:Hid (Below w.heap.size w w7):=zy.out.trans (Bp.mono zy.out.size);clear Bp Ta;cases Dw:(dQ G 1 F).long
     ·have HV:Hid (dA G 1 F=((dQ G 1 F).out,0)):=by show _=_;unfold dA;rw[if_neg HM.out,if_neg (by rw[HR.out];simp),if_neg HNC.out,if_neg (by rw[Dw];simp)]
      have HO:Hid (uH (dQ G 1 F)=(dQ G 1 F).out):=by show _=_;unfold uH;rw[Dw];rfl
      have ho:Br (dQ G 1 F)=true:=by unfold Br;rw[Dw];rfl
      rw[ho];clear ho;go_wp2_with fail;go_ret2;exact⟨kr (by rw[HV.out,HO.out]) (by rw[HV.out]),Fx.out⟩
     ·have HV:Hid (dA G 1 F=([],2)):=by show _=_;unfold dA;rw[if_neg HM.out,if_neg (by rw[HR.out];simp),if_neg HNC.out,if_pos Dw]
      have ho:Br (dQ G 1 F)=false:=by unfold Br;rw[Dw];rfl
      rw[ho];clear ho;go_wp2_with fail;go_ret2;exact⟨kr (a:=[]) (by rw[HV.out]) (by rw[HV.out]),Fx.out⟩
    ·obtain rfl:mode=2:=by omega
     go_enter func19,ntmps19;go_wp2_with fail;refine(pk G b o cap _ HLM.out HG.out).mono ?_;rw[hr];rintro e w2 ⟨rfl,hb2⟩;have S8:Hid (bM w2 b o G):=bM.below HG.out hb2;have ij:Hid (Below w.heap.size w w2):=hb2;clear hb2;go_wp2_with fail;refine(oD G b o cap _ S8.out yB h1 ZI.out H20.out).mono ?_;rintro e w3 ⟨bm,bw,rfl,DY,D7,hb3⟩;have Vh:bm<w3.heap.size:=lp (DY 0 (by rw[Bq.out.lm];omega)).1;have S9:bw<w3.heap.size:=lp (D7 0 (by rw[Bq.out.lw];omega)).1;have iz:Hid (Below w.heap.size w w3):=ij.out.trans (hb3.mono ij.out.size);have HT:Hid _:=xz G b o cap 2 (by omega) F hF (w3.alloc (.cells #[.slice (some ⟨bm,0,none⟩) G.length G.length,.slice (some ⟨bw,0,none⟩) G.length G.length] 68)) bm bw HR.out (bM.below (bM.below S8.out hb3) aG) (HP.out.on (iz.out.trans (aG.mono iz.out.size))) (k9.below DY aG Vh) (iD.below D7 aG S9) (λh=>by omega);have A6:Hid (Below w.heap.size w (w3.alloc (.cells #[.slice (some ⟨bm,0,none⟩) G.length G.length,.slice (some ⟨bw,0,none⟩) G.length G.length] 68))):=iz.out.trans (aG.mono iz.out.size);clear DY D7 hb3 Vh S9;go_wp2_with fail;refine Calls.mono HT.out ?_;rintro e w6 ⟨bL,rfl,mL,hwr⟩;have Ta:Hid _:=hwr;have zy:Hid (Below w.heap.size w w6):=A6.out.trans (mL.mono A6.out.size);clear mL hwr HT;go_wp2_with fail;refine Calls.mono Ta.out ?_;rintro e w7 ⟨rfl,Bp⟩;have Fx:Hid (Below w.heap.size w w7):=zy.out.trans (Bp.mono zy.out.size);clear Bp Ta;cases Dw:(dQ G 2 F).long
     ·have HV:Hid (dA G 2 F=((dQ G 2 F).out,0)):=by show _=_;unfold dA;rw[if_neg HM.out,if_neg (by rw[HR.out];simp),if_neg HNC.out,if_neg (by rw[Dw];simp)]
      have HO:Hid (uH (dQ G 2 F)=(dQ G 2 F).out):=by show _=_;unfold uH;rw[Dw];rfl
      have ho:Br (dQ G 2 F)=true:=by unfold Br;rw[Dw];rfl
      rw[ho];clear ho;go_wp2_with fail;go_ret2;exact⟨kr (by rw[HV.out,HO.out]) (by rw[HV.out]),Fx.out⟩
     ·have HV:Hid (dA G 2 F=([],2)):=by show _=_;unfold dA;rw[if_neg HM.out,if_neg (by rw[HR.out];simp),if_neg HNC.out,if_pos Dw]
      have ho:Br (dQ G 2 F)=false:=by unfold Br;rw[Dw];rfl
      rw[ho];clear ho;go_wp2_with fail;go_ret2;exact⟨kr (a:=[]) (by rw[HV.out]) (by rw[HV.out]),Fx.out⟩
end Go.Proofs.YtlhimdjkkiflhaaGreatDoor
namespace Go.Proofs.YtlhimdjkkiflhaaGreatDoor
open Go.RowKit Go.Loop
def xA (x:pj):Value→Nd
 |.slice a _ c=>⟨x.kind,x.text,x.n,x.d,x.subs.map λk:Nat=>(k:Int),a,c⟩
 |_=>⟨x.kind,x.text,x.n,x.d,x.subs.map λk:Nat=>(k:Int),none,0⟩
def lK (x:pj):Nd:=⟨x.kind,x.text,x.n,x.d,x.subs.map λk:Nat=>(k:Int),none,0⟩
def gD:List pj→List Value→List Nd
 |x::l,sv::bS=>xA x sv::gD l bS
 |_,_=>[]
theorem rZ:∀(l:List pj) (bS:List Value),bS.length=l.length→(gD l bS).length=l.length
 |[],_,_=>by simp[gD]
 |x::l,[],h=>by simp at h
 |x::l,sv::bS,h=>by
  have:=rZ l bS (by simpa using h);simp[gD,this]
theorem JW (x:pj)(sv:Value):ja (xA x sv)=lK x:=by
 cases sv<;>rfl
theorem xB:∀(l:List pj) (bS:List Value),bS.length=l.length→(gD l bS).map ja=l.map lK
 |[],_,_=>by simp[gD]
 |x::l,[],h=>by simp at h
 |x::l,sv::bS,h=>by
  have:=xB l bS (by simpa using h);simp[gD,this,JW]
theorem zF:∀(l:List pj) (bS:List Value) (i:Nat),bS.length=l.length→i<l.length→∃x sv,l[i]?=some x∧bS[i]?=some sv∧(gD l bS)[i]?=some (xA x sv)∧∀j,j<5→(uG l bS)[i*5+j]?=(qE x sv)[j]?
 |[],_,i,_,h=>by simp at h
 |x::l,[],_,h,_=>by simp at h
 |x::l,sv::bS,0,h,_=>by
  refine⟨x,sv,rfl,rfl,rfl,λj hj=>?_⟩;simp only[uG,Nat.zero_mul,Nat.zero_add];rw[zaF (by simp[qE];omega)]
 |x::l,sv::bS,i+1,h,hi=>by
  obtain⟨y,sy,h1,h2,h3,h4⟩:=zF l bS i (by simpa using h) (by simpa using hi);refine⟨y,sy,by simpa using h1,by simpa using h2,by simpa[gD]using h3,λj hj=>?_⟩;rw[←h4 j hj];simp only[uG];rw[zaK (by simp[qE];omega)]
  congr 1
  simp[qE];omega
theorem FP {w:World}{lo:Nat}{nv:Value}{bS:List Value}{nodes:List pj}(h:cA w lo nv bS nodes)(hne:nodes≠[])(hlen:∀x∈nodes,x.text.length≤maxLen∧x.subs.length≤maxLen):∃b cap,nv=.slice (some ⟨b,0,none⟩) (gD nodes bS).length cap∧(gD nodes bS).length=nodes.length∧bM w b 0 (gD nodes bS)∧(gD nodes bS).map ja=nodes.map lK:=by
 obtain⟨hrow,hl,kj⟩:=h;have hL:=rZ nodes bS hl;rcases hrow.2 with⟨_,h0⟩|⟨g,cap,cur,rfl,h1,h2,h3,h4,h5,h6⟩
 ·exact absurd (List.length_eq_zero_iff.1 h0) hne
 ·refine⟨g,cap,by rw[hL],hL,λi hi=>?_,xB nodes bS hl⟩;rw[hL]at hi;obtain⟨x,sv,k1,k2,k3,k4⟩:=zF nodes bS i hl hi;have hx:(gD nodes bS)[i]=xA x sv:=by
   have:=zai (by rw[hL];exact hi:i<(gD nodes bS).length);rw[this]at k3;exact Option.some.inj k3
  rw[hx];have hc:∀j,j<5→w.cell? ⟨g,0+i*5+j,none⟩=(qE x sv)[j]?:=λj hj=>by
   rw[←k4 j hj,Nat.zero_add];exact World.ownsRow.cellAt hrow _ (by omega)
  have hb:=hlen x (zbD k1);have hs:=kj i x sv k1 k2;have c0:=hc 0 (by omega);have c1:=hc 1 (by omega);have c2:=hc 2 (by omega);have c3:=hc 3 (by omega);have c4:=hc 4 (by omega);simp only[qE,List.getElem?_cons_zero,List.getElem?_cons_succ,Nat.add_zero]at c0 c1 c2 c3 c4;rcases hs with⟨rfl,he⟩|⟨b,rfl,_,hblk⟩
  ·refine⟨c0,c1,c2,c3,?_,.inl ?_,hb.1,?_⟩
   ·simpa[xA,he]using c4
   ·simp[xA,he]
   ·simpa[xA]using hb.2
  ·refine⟨c0,c1,c2,c3,?_,.inr ⟨b,0,rfl,λj hj=>?_⟩,hb.1,?_⟩
   ·simpa[xA]using c4
   ·simp only[xA,zbn]at hj;simp only[World.cell?,hblk,xA];simp[hj]
   ·simpa[xA]using hb.2
end Go.Proofs.YtlhimdjkkiflhaaGreatDoor
namespace Go.Ren
open Go Go.Conc Go.ConcX Go.RowKit Go.Proofs Go.Loop Go.Proofs.YtlhimdjkkiflhaaGreatDoor
theorem Pow.Tb {w w':World}(h:Pow w)(hb:aI w w'):Pow w':=by
 have hb':Below w.heap.size w { w with heap:=w'.heap }:=⟨rfl,rfl,rfl,hb.1,hb.2⟩;have:=Pow.on h hb';unfold YtlhimdjkkiflhaaGreatDoor.Pow Lib.TabIs World.var? at this ⊢;exact this
theorem _root_.Go.Proofs.YtlhimdjkkiflhaaGreatDoor.bM.Tc {w w':World}{b o:Nat}{G:List Nd}(h:bM w b o G)(e:w'.heap=w.heap):bM w' b o G:=λi hi=>by
 have hc:∀a,w'.cell? a=w.cell? a:=λa=>by unfold World.cell?;rw[e]
 have hn:=h i hi;refine⟨by rw[hc];exact hn.kind,by rw[hc];exact hn.text,by rw[hc];exact hn.n,by rw[hc];exact hn.d,by rw[hc];exact hn.subs,?_,hn.Zu,hn.Zv⟩;rcases hn.ints with h0|⟨b1,o1,e1,h1⟩
 ·exact .inl h0
 ·exact .inr ⟨b1,o1,e1,λj hj=>by rw[hc];exact h1 j hj⟩
end Go.Ren
namespace Go.Loop
def Nb (T:List Tok)(dp:Nat):Bool:=
 match aM T dp 2000 ⟨0,false,[]⟩ ⟨0,0,[]⟩with
 |.ok d _=>b8 d d&&(match kZ d 100000 d ⟨[],[]⟩with
  |some g=>decide (g.2.nodes.length≤999999)
  |none=>false)
 |_=>true
theorem FQ {T:List Tok}{dp:Nat}(h:Nb T dp=true)(d:Dt)(s':eX)(hr:aM T dp 2000 ⟨0,false,[]⟩ ⟨0,0,[]⟩=.ok d s'):b8 d d=true∧∃k g,kZ d 100000 d ⟨[],[]⟩=some (k,g)∧g.nodes.length≤999999:=by
 unfold Nb at h;rw[hr]at h;simp only[zac]at h;refine⟨h.1,?_⟩;have h2:=h.2;cases hn:kZ d 100000 d ⟨[],[]⟩with
 |none=>rw[hn]at h2;cases h2
 |some g=>
  rw[hn]at h2;exact⟨g.1,g.2,rfl,of_decide_eq_true h2⟩
set_option maxRecDepth 1000000
def tA:List UInt8:=[35,55,61,40,97,32,46,32,35,55,35,41,32,98]
def gF:List pj:=[⟨1,[],0,0,[1,0]⟩,⟨4,[97],0,0,[]⟩]
theorem FR:Nb (aQ (tA.length+1) tA 0) 5=true:=by decide +kernel
theorem FT:bJ tA 5=some (gF,12,0):=by decide +kernel
end Go.Loop
namespace Go.Proofs.YtlhimdjkkiflhaaGreatDoor
open Go.RowKit Go.Loop
def xC:List UInt8:=[35,48,61,40,97,32,46,32,35,48,35,41]
theorem Dx:dA (gF.map lK) 2 403=(xC,0):=by decide +kernel
theorem JX {w:World}{nv:Value}{bS:List Value}(h:cA w 0 nv bS gF):∃b cap sb so sc G,nv=.slice (some ⟨b,0,none⟩) 2 cap∧w.cell? ⟨b,0,none⟩=some (.int .i64 1)∧w.cell? ⟨b,4,none⟩=some (.slice (some ⟨sb,so,none⟩) 2 sc)∧w.cell? ⟨b,5,none⟩=some (.int .i64 4)∧w.cell? ⟨sb,so,none⟩=some (.int .i64 1)∧w.cell? ⟨sb,so+1,none⟩=some (.int .i64 0)∧bM w b 0 G∧G.length=2∧dA G 2 403=(xC,0):=by
 have hm:(1:Nat)≤maxLen∧(2:Nat)≤maxLen:=by unfold maxLen;omega
 obtain⟨b,cap,rfl,hl,hG,Nc⟩:=FP h (by simp[gF]) (λx hx=>by
  simp only[gF,zas,zbc,or_false]at hx;rcases hx with rfl|rfl
  ·exact⟨zaj _,hm.2⟩
  ·exact⟨hm.1,zaj _⟩)
 have hl2:(gD gF bS).length=2:=hl;have hwp:=(Dv _ _ (Nc.trans (by simp[gF,lK,ja]:gF.map lK=(gF.map lK).map ja)) 2 403).trans Dx;have h0:=hG 0 (by omega);have h1:=hG 1 (by omega);have e0:ja (gD gF bS)[0]=lK ⟨1,[],0,0,[1,0]⟩:=by
  have:=congrArg (λl=>l[0]?) Nc;simp only[zbt]at this;rw[zai (by omega:0<(gD gF bS).length)]at this;exact Option.some.inj this
 have e1:ja (gD gF bS)[1]=lK ⟨4,[97],0,0,[]⟩:=by
  have:=congrArg (λl=>l[1]?) Nc;simp only[zbt]at this;rw[zai (by omega:1<(gD gF bS).length)]at this;exact Option.some.inj this
 generalize (gD gF bS)[0]=x0 at h0 e0;generalize (gD gF bS)[1]=x1 at h1 e1;obtain⟨k0,t0,n0,d0,s0,a0,c0⟩:=x0;obtain⟨k1,t1,n1,d1,s1,a1,c1⟩:=x1;simp only[ja,lK,zao,zaG,Nd.mk.injEq,and_true]at e0 e1;obtain⟨rfl,rfl,rfl,rfl,rfl⟩:=e0;obtain⟨rfl,rfl,rfl,rfl,rfl⟩:=e1;rcases h0.ints with hx|⟨sb,so,rfl,hc⟩
 ·cases hx
 ·have q0:=hc 0 (by simp);have q1:=hc 1 (by simp);exact⟨b,cap,sb,so,c0,gD gF bS,by rw[hl2],by simpa using h0.kind,by simpa using h0.subs,by simpa using h1.kind,by simpa using q0,by simpa using q1,hG,hl2,hwp⟩
end Go.Proofs.YtlhimdjkkiflhaaGreatDoor
namespace Go.Ren
open Go.Proofs.Tryz
open Go Go.Conc Go.ConcX Go.RowKit Go.Proofs Go.Loop Go.Proofs.YtlhimdjkkiflhaaGreatDoor
def c20 (f:Func):Code:=f.body.getD .skip
def P5 (f:Func):Code:=Ren.cJ (c20 f)
def Oa (f:Func):Array Oper:=Ren.gB (Ren.cJ (Ren.cd (c20 f)))
def JY (f:Func):Code:=Ren.cd (Ren.cd (c20 f))
theorem Nf:prog.funcs[20]?=some f20:=by kernel_rfl
theorem Vi:f20.body=some (.seq (P5 f20) (.seq (.region 1 (Oa f20) false) (JY f20))):=by kernel_rfl
theorem abP:f20.ntmps=73:=by kernel_rfl
theorem t73:(#[]++Array.replicate (73-(#[]:Array Value).size) undef:Array Value)=#[undef,undef,undef,undef,undef,undef,undef,undef,undef,undef,undef,undef,undef,undef,undef,undef,undef,undef,undef,undef,undef,undef,undef,undef,undef,undef,undef,undef,undef,undef,undef,undef,undef,undef,undef,undef,undef,undef,undef,undef,undef,undef,undef,undef,undef,undef,undef,undef,undef,undef,undef,undef,undef,undef,undef,undef,undef,undef,undef,undef,undef,undef,undef,undef,undef,undef,undef,undef,undef,undef,undef,undef,undef]:=by
 generalize undef=u;simp[Array.replicate,List.replicate]
theorem P6:Frame.enter prog 20 #[] .normal=(base 20).at ⟨#[undef,undef,undef,undef,undef,undef,undef,undef,undef,undef,undef,undef,undef,undef,undef,undef,undef,undef,undef,undef,undef,undef,undef,undef,undef,undef,undef,undef,undef,undef,undef,undef,undef,undef,undef,undef,undef,undef,undef,undef,undef,undef,undef,undef,undef,undef,undef,undef,undef,undef,undef,undef,undef,undef,undef,undef,undef,undef,undef,undef,undef,undef,undef,undef,undef,undef,undef,undef,undef,undef,undef,undef,undef],[]⟩ [.code (.seq (P5 f20) (.seq (.region 1 (Oa f20) false) (JY f20)))]:=by
 rw[enter_at _ Nf Vi,abP,t73]
theorem ZU:bh prog Fz Sz (P5 f20)=true:=by kernel_rfl
theorem ZV:bh prog Fz Sz (JY f20)=true:=by kernel_rfl
theorem Td:(Oa f20).size=8:=by kernel_rfl
def Vj (f:Func)(i:Nat):Oper:=(Oa f)[i]!
theorem Vk:(Oa f20)[0]?=some (Vj f20 0):=by kernel_rfl
theorem Vl:(Vj f20 0).op=.call { callee:= .value (.func 18),args:=#[.const (.string ⟨⟨[35,55,61,40,97,32,46,32,35,55,35,41,32,98]⟩⟩),.const (.int .i64 5)],argTypes:=#[9,3] }:=by kernel_rfl
theorem Vm:(Vj f20 0).guard=none:=by kernel_rfl
theorem Vn:((Oa f20)[0]?).bind (·.dst)=some 7:=by kernel_rfl
theorem ZW:([1,2,3,4,5,6,7].all λi=>((Oa f20)[i]?).all λo=>eN prog Fz Sz o.op)=true:=by kernel_rfl
theorem abQ:(prog.funcs[18]?).any (λfn=>fn.body.isSome)=true:=by kernel_rfl
theorem abR:(prog.funcs[18]?).any (λfn=>fn.name != "runtime.NumGoroutine")=true:=by kernel_rfl
theorem ZX:f20.results=#[.tmp 0]:=by kernel_rfl
theorem af.abS {Ψ:bq}{cs:List Frame}{w:World}{b:Frame}{a:Act}{ops:Array Oper}{i:Nat}{rest:List Nat}{kk:List Item}{s:List UInt8}{dep:Int}(cQ:∀dp:Nat,dep=dp→dp≤30→mm s dp){d:Tmp}(hd:(ops[i]?).bind (·.dst)=some d){a':Value→Act}(ha:∀v,a.put (some d) v=a' v)(h:∀v w',vd s dep w v w'→af prog Sz Ψ (b.at (a' v) (.inRegion ops rest::kk)) cs w'):af prog Sz Ψ (Frame.enter prog 18 #[.string ⟨⟨s⟩⟩,.int .i64 dep] .normal) (b.at a (.inRegion ops (i::rest)::kk)::cs) w:=
 af.top cQ λv w' h1=>by rw[hd,ha];exact h v w' h1
section
variable {Ψ:bq}{cs:List Frame}{w:World}{b:Frame}{a:Act}{ops:Array Oper}{i:Nat}{rest:List Nat}{kk:List Item}
theorem af.Vo (hp:Pow w)(h:∀w',aI w w'→pR prog Sz Ψ cs (.bool true) w'):af prog Sz Ψ (Frame.enter prog 20 #[] .normal) cs w:=by
 have mixed:prog.follows Departure.mixedOrders=true:=by kernel_rfl
 have HH:Hid _:=h;have HP:Hid (Pow w):=hp;clear h hp;rw[P6];refine af.seq ?_;refine af.code dV ZU rfl ⟨_,Nf⟩ rfl λτ d=>?_;have k8:Hid (aI w (w.re τ d)):=⟨zaa _,λ_ _=>rfl⟩;generalize w.re τ d=w1 at *;generalize gU:([.code (.seq (.region 1 (Oa f20) false) (JY f20))]:List Item)=kq;dsimp only[P5,c20,Ren.cJ,f20,Option.getD];go_wp2_with fail;subst gU;show af _ _ _ _ _ _;refine af.seq ?_;refine af.region ?_;rw[Td,show List.range 8=[0,1,2,3,4,5,6,7] from rfl];refine af.Fv (f:=18) (xs:=#[.const (.string ⟨⟨[35,55,61,40,97,32,46,32,35,55,35,41,32,98]⟩⟩),.const (.int .i64 5)]) (ats:=#[9,3]) (args:=#[.string ⟨⟨tA⟩⟩,.int .i64 5]) Vk Vm (by decide) Vl abQ abR (by simp[gL,jc]) (by simp[Act.eval,tA]) ?_;refine af.abS (λdp hd yc=>by
  obtain rfl:dp=5:=by omega
  exact λd s' hr=>FQ FR d s' hr) Vn (a':=λv=>⟨#[.bool false,undef,undef,undef,undef,undef,undef,v,undef,undef,undef,undef,undef,undef,undef,undef,undef,undef,undef,undef,undef,undef,undef,undef,undef,undef,undef,undef,undef,undef,undef,undef,undef,undef,undef,undef,undef,undef,undef,undef,undef,undef,undef,undef,undef,undef,undef,undef,undef,undef,undef,undef,undef,undef,undef,undef,undef,undef,undef,undef,undef,undef,undef,undef,undef,undef,undef,undef,undef,undef,undef,undef,undef],[]⟩) (λv=>by simp[Act.put]) λv w2 kQ=>?_
 obtain⟨hb2,nodes,at_,e,nv,bS,hr,rfl,hn⟩:=kQ;rw[show bJ tA 5=some (gF,12,0) from FT]at hr;simp only[zap,zab]at hr;obtain⟨rfl,rfl,rfl⟩:=hr;obtain⟨bb,cap,sb,so,sc,G,rfl,m0,m4,m5,s0,s1,hG,hGl,hwr⟩:=JX hn;clear hn;have ij:Hid (aI w w2):=k8.out.trans hb2;clear k8 hb2;refine af.ops dV rfl ⟨_,Nf⟩ rfl ZW 1 ((Oa f20).toList.drop 1) (by rw[zah,zbh,Td];rfl) (λj=>by rw[zaQ,zaR]) λnA d'=>?_;have iz:Hid (aI w (w2.re nA d')):=aI.heap ij.out rfl;have HG3:Hid (bM (w2.re nA d') bb 0 G):=bM.Tc hG rfl;have HM3:Hid ((w2.re nA d').cell? ⟨bb,0,none⟩=some (.int .i64 1)∧(w2.re nA d').cell? ⟨bb,4,none⟩=some (.slice (some ⟨sb,so,none⟩) 2 sc)∧(w2.re nA d').cell? ⟨bb,5,none⟩=some (.int .i64 4)∧(w2.re nA d').cell? ⟨sb,so,none⟩=some (.int .i64 1)∧(w2.re nA d').cell? ⟨sb,so+1,none⟩=some (.int .i64 0)):=⟨m0,m4,m5,s0,s1⟩;clear m0 m4 m5 s0 s1 hG ij;generalize w2.re nA d'=w3 at *;generalize gU:([.code (JY f20)]:List Item)=kq;dsimp only[Oa,c20,Ren.gB,Ren.cJ,Ren.cd,f20,Option.getD];simp only[zaX,zaJ];go_wp2_with fail;subst gU;show af _ _ _ _ _ _;refine af.code dV ZV rfl ⟨_,Nf⟩ rfl λτ d=>?_;have sk:Hid (aI w (w3.re τ d)):=aI.heap iz.out rfl;have HG4:Hid (bM (w3.re τ d) bb 0 G):=bM.Tc HG3.out rfl;have HM4:Hid ((w3.re τ d).cell? ⟨bb,0,none⟩=some (.int .i64 1)∧(w3.re τ d).cell? ⟨bb,4,none⟩=some (.slice (some ⟨sb,so,none⟩) 2 sc)∧(w3.re τ d).cell? ⟨bb,5,none⟩=some (.int .i64 4)∧(w3.re τ d).cell? ⟨sb,so,none⟩=some (.int .i64 1)∧(w3.re τ d).cell? ⟨sb,so+1,none⟩=some (.int .i64 0)):=HM3.out;clear iz HG3 HM3;generalize w3.re τ d=w4 at *;obtain⟨m0,m4,m5,s0,s1⟩:=HM4.out;have HW:Hid _:=Bf G bb 0 cap 2 403 (zaa _) w4 (by rw[hGl];unfold maxLen;omega) HG4.out (Pow.Tb HP.out sk.out);rw[hGl,hwr]at HW;clear HG4 hGl hwr;dsimp only[JY,c20,Ren.cJ,Ren.cd,f20,Option.getD];go_wp2_with fail;refine Calls.mono HW.out ?_;rintro e w5 ⟨rfl,lC⟩;have A6:Hid (aI w w5):=sk.out.trans (aI.of lC);have n4:=cj lC m4;have r0:=cj lC s0;have r1:=cj lC s1;clear lC m0 m4 m5 s0 s1 HM4 HW sk;unfold xC;go_wp2_with fail;show ∀todo,af _ _ _ _ _ _;intro todo;refine af.A5 rfl rfl Nf (results_tmp ZX _ _ _) ?_;exact HH.out _ (aI.heap A6.out rfl)
end
end Go.Ren
namespace Go.Ren
open Go Go.Conc
section
variable {P:Program}{F:FuncId→Bool}{S:Sd}{Ψ:bq}{σ:List (Nat×Value)}{b:Frame}{a:Act}{w:World}{ops:Array Oper}{i:Nat}{rest:List Nat}{kk:List Item}
theorem pR.ofJ (hC:jB P F S){n:Nat}{r0:Rn}{v:Value}(eG:pI P S n a){d:Tmp}(TM:(ops[i]?).bind (·.dst)=some d)(xP:eR σ (.tmp d)=true)(tP:∀x,r0.f x=x)(ha1:Ψ.an≤n)(ha2:∀r,r<Ψ.an→r0 r=Ψ.ar r)
 (h:bg P S Ψ b σ (a.put (some d) v) (.inRegion ops rest::kk) w):pR P S (Ψ.under (b.at (ew σ (a.rn r0)) (.inRegion ops (i::rest)::kk)) n r0) [] v w:=
 λ_ _ _ _ hn hd hf hr=>af.TL hC hn hd hf hr eG TM xP tP ha1 ha2 h
end
end Go.Ren
namespace Go.Proofs.YtlhimdjkkiflhaaGreatDoor
open Go.Proofs.Tryz
open Go.RowKit Go.Loop
def j8 (c n:Int):Int:=if c<0 then(-(c+1)).tmod n else c.tmod n
theorem oF {c n:Int}:0≤j8 c n:=by
 unfold j8;split
 ·exact Int.tmod_nonneg _ (by omega)
 ·exact Int.tmod_nonneg _ (by omega)
theorem xD {c n:Int}(h:0<n):j8 c n<n:=by
 unfold j8;split
 ·exact Int.tmod_lt_of_pos _ h
 ·exact Int.tmod_lt_of_pos _ h
theorem Dy (c n:Int)(w:World)(h1: -9223372036854775808≤c)(h2:c≤9223372036854775807)(hn:0<n)(Pe:n≤1000000):Calls prog 17 #[.int .i64 c,.int .i64 n] w λe w'=>e=.returned (.int .i64 (j8 c n))∧w'=w:=by
 have hz:¬n=0:=by omega
 by_cases hc:c<0
 ·have hp:j8 c n=-((c+1).tmod n):=by unfold j8;rw[if_pos hc,Int.neg_tmod]
  go_enter func17,ntmps17
  go_wp2
  all_goals
   go_ret;exact⟨gI hp.symm,rfl⟩
 ·have hp:j8 c n=c.tmod n:=by unfold j8;rw[if_neg hc]
  go_enter func17,ntmps17
  go_wp2
  all_goals
   go_ret;exact⟨gI (by first|exact hp.symm|exact(Int.tmod_eq_emod_of_nonneg (by omega)).symm),rfl⟩
end Go.Proofs.YtlhimdjkkiflhaaGreatDoor
