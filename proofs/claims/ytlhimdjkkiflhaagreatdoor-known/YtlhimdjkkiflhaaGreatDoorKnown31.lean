import Derived.Laws.OwnMore
import Derived.StillTailTactics
import Derived.Test.YtlhimdjkkiflhaaGreatDoorKnown26
import Derived.Test.YtlhimdjkkiflhaaGreatDoorKnown30
set_option maxHeartbeats 8000000
set_option maxRecDepth 100000
namespace Go.Proofs.YtlhimdjkkiflhaaGreatDoor
open Go.Proofs.Tryz
open Go.RowKit Go.Loop
theorem Gv (k:Int)(w:World):Calls prog 64 #[.int .i64 k] w λe w'=>e=.returned (.bool (decide (1≤k∧k≤3)))∧w'=w:=by
 go_enter func64,ntmps64
 go_wp2
 all_goals
  go_ret;refine⟨az ?_,rfl⟩;rw[zar];simp;omega
def gR (G:List Nd)(mode:Int):Nat→List Bool
 |0=>List.replicate G.length false
 |k+1=>(gR G mode k).set k (lZ G mode k)
theorem l4 (G:List Nd)(mode:Int):∀k,(gR G mode k).length=G.length
 |0=>by simp[gR]
 |k+1=>by simp[gR,l4 G mode k]
theorem tH (G:List Nd)(mode:Int):∀k,k≤G.length→∀i,(gR G mode k).getD i false=if i<k then lZ G mode i else false
 |0,_,i=>by simp only[gR];rw[eG,if_neg (by omega)]
 |k+1,hk,i=>by
  simp only[gR];rw[dn _ _ _ _ _ (by rw[l4];omega),tH G mode k (by omega) i];by_cases e:i=k
  ·subst e;rw[if_pos rfl,if_pos (by omega)]
  ·rw[if_neg e];by_cases h:i<k
   ·rw[if_pos h,if_pos (by omega)]
   ·rw[if_neg h,if_neg (by omega)]
theorem Gw (G:List Nd)(mode:Int)(k:Nat)(hk:k<G.length)(h:lZ G mode k=false):gR G mode (k+1)=gR G mode k:=by
 show(gR G mode k).set k (lZ G mode k)=_;rw[h];have:=OD (gR G mode k) k;rw[tH G mode k (by omega) k,if_neg (by omega)]at this;exact this
theorem KU (l:List Bool)(bw n:Nat)(hl:l.length=n)(hn:n≤150)(w:World)(hr:gV w bw l):Calls prog 77 #[.slice (some ⟨bw,0,none⟩) n n,.bool true] w λe w'=>(∃z:Int,e=.returned (.int .i64 z)∧(0≤z↔l.any id=true))∧w'=w:=by
 have HR:Hid _:=hr;clear hr;go_enter func77,ntmps77;go_wp2_with fail;go_loopw [8] (λi wr=>∃k:Nat,k≤n∧i=.int .i64 k∧wr=w∧Hid (∀j,j<k→l.getD j false=false)) (λi _=>n-(intOf i).toNat)
 case atStart=>exact⟨0,zah _,rfl,rfl,λj hj=>by omega⟩
 case round=>
  obtain⟨k,hk,rfl,rfl,hz⟩:=hrel;by_cases hlt:k<n
  ·obtain⟨c,_⟩:=HR.out k (by omega);cases hv:l.getD k false
   ·rw[hv]at c;have HV:Hid _:=hv;clear hv;go_wp2_with fail;go_roundw
    case rel=>exact⟨k+1,by omega,by go_num,trivial,λj hj=>by
     rcases zag j k with h|h
     ·exact hz.out j h
     ·obtain rfl:j=k:=by omega
      exact HV.out⟩
    case measure=>simp[intOf];omega
   ·rw[hv]at c;have HV:Hid (l.any id=true):=by
     rw[zbp];have P3:k<l.length:=by omega
     refine⟨l[k],zaC P3,?_⟩;simp only[List.getD,zaf P3,zaF]at hv;exact hv
    clear hv;go_wp2_with fail;go_ret;exact⟨⟨_,rfl,⟨λ_=>HV.out,λ_=>by omega⟩⟩,rfl⟩
  ·have HV:Hid (l.any id=false):=by
    rw[List.any_eq_false];intro x hx;obtain⟨j,hj,rfl⟩:=List.mem_iff_getElem.1 hx;have:=hz.out j (by omega);simp only[List.getD,zaf hj,zaF]at this;simp[this]
   go_wp2_with fail;go_ret;exact⟨⟨_,rfl,⟨λh=>by omega,λh=>by rw[HV.out]at h;exact absurd h (by simp)⟩⟩,rfl⟩
theorem zJ (l:List Bool)(bw n:Nat)(hl:l.length=n)(hn:n≤150)(vm:Value)(hvm:∃a c d,vm=.slice a c d)(w:World)(hr:gV w bw l):Calls prog 28 #[.agg #[vm,.slice (some ⟨bw,0,none⟩) n n]] w λe w'=>e=.returned (.bool (l.any id))∧Below w.heap.size w w':=by
 obtain⟨a,c,d,rfl⟩:=hvm;have HR:Hid (gV (w.alloc (.cells #[.slice a c d,.slice (some ⟨bw,0,none⟩) n n] 68)) bw l):=λi hi=>by
  obtain⟨h1,h2⟩:=hr i hi;have hb:bw<w.heap.size:=jJ h1;rw[aA.cell (p:=⟨bw,i,none⟩) hb,aA.frozen (p:=⟨bw,i,none⟩) hb];exact⟨h1,h2⟩
 clear hr;have hcon:Calls prog 46 #[.slice (some ⟨bw,0,none⟩) n n,.bool true] (w.alloc (.cells #[.slice a c d,.slice (some ⟨bw,0,none⟩) n n] 68)) λe w'=>e=.returned (.bool (l.any id))∧w'=(w.alloc (.cells #[.slice a c d,.slice (some ⟨bw,0,none⟩) n n] 68)):=by
  generalize w.alloc (.cells #[.slice a c d,.slice (some ⟨bw,0,none⟩) n n] 68)=w1 at *;go_enter func46,ntmps46;go_wp2_with fail;refine(KU l bw n hl hn _ HR.out).mono ?_;rintro e w2 ⟨⟨z,rfl,hz⟩,rfl⟩;have HZ:Hid _:=hz;clear hz;go_wp2_with fail;go_ret;refine⟨az ?_,rfl⟩;rw[zar];simp[←HZ.out]
 have HC:Hid _:=hcon;clear hcon HR;go_enter func28,ntmps28;go_wp2_with fail;refine Calls.mono HC.out ?_;rintro e w2 ⟨rfl,rfl⟩;go_wp2_with fail;go_ret;exact⟨rfl,aA⟩
theorem gV.below {w w':World}{b:Nat}{l:List Bool}{B:Nat}(h:gV w b l)(hb:Below B w w')(hB:b<B):gV w' b l:=λi hi=>by
 rw[hb.cell (p:=⟨b,i,none⟩) hB,hb.frozen (p:=⟨b,i,none⟩) hB];exact h i hi
theorem kL.below {w w':World}{b:Nat}{l:List Int}{B:Nat}(h:kL w b l)(hb:Below B w w')(hB:b<B):kL w' b l:=λi hi=>by
 rw[hb.cell (p:=⟨b,i,none⟩) hB,hb.frozen (p:=⟨b,i,none⟩) hB];exact h i hi
theorem Bl (G:List Nd)(b o cap:Nat)(mode:Int)(hm:mode=0∨mode=1∨mode=2)(bm bw:Nat)(w:World)(hG:aR w b o G)(hn:G.length≤150)(bX:(eH (ax G) G.length).Ok G.length)
 (ER:kL w bm (eH (ax G) G.length).met)(Bn:gV w bw (eH (ax G) G.length).wi):
 Calls prog 40 #[.slice (some ⟨b,o,none⟩) G.length cap,.int .i64 mode,.agg #[.slice (some ⟨bm,0,none⟩) G.length G.length,.slice (some ⟨bw,0,none⟩) G.length G.length]] w
  λe w'=>∃bL,e=.returned (.slice (some ⟨bL,0,none⟩) G.length G.length)∧gV w' bL (gR G mode G.length)∧Below w.heap.size w w':=by
 have HG:Hid _:=hG;have HM:Hid _:=ER;have HW:Hid _:=Bn;have HO:Hid _:=bX;have HMD:Hid _:=hm;clear hG ER Bn bX hm;have mkb:=run_make_row' (P:=prog) 66 4 (.bool false) 1 underlying66 DL rfl .i64 .i64 G.length (by omega) (by omega);have qu:Hid (gV ((w.alloc (.cells #[.slice (some ⟨bm,0,none⟩) G.length G.length,.slice (some ⟨bw,0,none⟩) G.length G.length] 68)).alloc (.cells (madeCells #[.bool false] G.length) 4)) (w.heap.size+1) (gR G mode 0)):=by
  have:=heap_alloc_new (w.alloc (.cells #[.slice (some ⟨bm,0,none⟩) G.length G.length,.slice (some ⟨bw,0,none⟩) G.length G.length] 68)) (.cells (madeCells #[.bool false] G.length) 4);rw[World.size_alloc]at this;exact tF this
 have XA:Hid (Below (w.heap.size+1) (w.alloc (.cells #[.slice (some ⟨bm,0,none⟩) G.length G.length,.slice (some ⟨bw,0,none⟩) G.length G.length] 68)) ((w.alloc (.cells #[.slice (some ⟨bm,0,none⟩) G.length G.length,.slice (some ⟨bw,0,none⟩) G.length G.length] 68)).alloc (.cells (madeCells #[.bool false] G.length) 4))):=
  (Below.refl _ _).alloc (by simp) _
 obtain⟨wa,PD⟩:∃wa,Hid (wa=w.alloc (.cells #[.slice (some ⟨bm,0,none⟩) G.length G.length,.slice (some ⟨bw,0,none⟩) G.length G.length] 68)):=⟨_,rfl⟩;go_enter func40,ntmps40;go_wp2_with fail;go_loopw [14] (λi wr=>∃k:Nat,k≤G.length∧i=.int .i64 k∧Hid (gV wr (w.heap.size+1) (gR G mode k))∧Hid (Below (w.heap.size+1) wa wr)) (λi _=>G.length-(intOf i).toNat)
 case atStart=>exact⟨0,zah _,rfl,qu.out,by show Below _ _ _;rw[PD.out];exact XA.out⟩
 case round=>
  obtain⟨k,hk,rfl,hr,hb⟩:=hrel;have LM:Below w.heap.size w wr:=aA.trans ((PD.out▸hb.out).mono (by omega));by_cases hlt:k<G.length
  ·have q0:wr.cell? ⟨w.heap.size,0,none⟩=some (.slice (some ⟨bm,0,none⟩) G.length G.length):=by
    rw[hb.out.cell (p:=⟨w.heap.size,0,none⟩) (show w.heap.size<w.heap.size+1 by omega),PD.out,World.cell?_alloc_at _ _ _ _ rfl];rfl
   have q1:wr.cell? ⟨w.heap.size,1,none⟩=some (.slice (some ⟨bw,0,none⟩) G.length G.length):=by
    rw[hb.out.cell (p:=⟨w.heap.size,1,none⟩) (show w.heap.size<w.heap.size+1 by omega),PD.out,World.cell?_alloc_at _ _ _ _ rfl];rfl
   obtain⟨cm,_⟩:=HM.out k (by rw[HO.out.lm];exact hlt);obtain⟨cw,_⟩:=HW.out k (by rw[HO.out.lw];exact hlt);have cm':=bP LM cm;have cw':=bP LM cw;obtain⟨ch,cf⟩:=hr.out k (by rw[l4];exact hlt);have n0:=((HG.out k hlt).below LM).kind;have HKD:Hid _:=kx G k hlt;have HLB:Hid (lZ G mode k=if mode=1 then(eH (ax G) G.length).wi.getD k false else if mode=2 then decide (1<(eH (ax G) G.length).met.getD k 0)&&decide (1≤bp G k∧bp G k≤3)else false):=rfl;rw[HKD.out]at HLB;have OP:∀v,Hid (gV (wr.setCell ⟨w.heap.size+1,k,none⟩ (.bool v)) (w.heap.size+1) ((gR G mode k).set k v)):=λv=>hr.out.set k (by rw[l4];exact hlt) v;have Rg:∀v,Hid (Below (w.heap.size+1) wa (wr.setCell ⟨w.heap.size+1,k,none⟩ (.bool v))):=λv=>hb.out.setCell (p:=⟨w.heap.size+1,k,none⟩) (zaa _) _;have HSM:Hid (lZ G mode k=false→gR G mode (k+1)=gR G mode k):=Gw G mode k hlt;have HST:Hid (gR G mode (k+1)=(gR G mode k).set k (lZ G mode k)):=rfl;clear cm cw HKD LM mkb qu XA;generalize (eH (ax G) G.length).wi.getD k false=wv at *;generalize (eH (ax G) G.length).met.getD k 0=mv at *;generalize G[k].kind=kd at *;generalize (gR G mode k).getD k false=hv at *;rcases HMD.out with h0|h0|h0
   ·have e1:(mode==1)=false:=by rw[h0];decide
    have e2:(mode==2)=false:=by rw[h0];decide
    have HL:Hid (lZ G mode k=false):=by show _=_;rw[HLB.out,if_neg (by omega),if_neg (by omega)]
    have HE:Hid _:=HSM.out HL.out;clear h0 OP Rg;go_wp2_with fail;go_roundw
    case rel=>exact⟨k+1,by omega,by go_num,by show gV _ _ _;rw[HE.out];exact hr.out,hb⟩
    case measure=>simp[intOf];omega
   ·have e1:(mode==1)=true:=by rw[h0];decide
    have HL:Hid (lZ G mode k=wv):=by show _=_;rw[HLB.out,if_pos h0]
    have OQ:=OP wv;have gP:=Rg wv;clear h0 OP Rg;go_wp2_with fail;go_roundw
    case rel=>exact⟨k+1,by omega,by go_num,by show gV _ _ _;rw[HST.out,HL.out];exact OQ.out,gP⟩
    case measure=>simp[intOf];omega
   ·have e1:(mode==1)=false:=by rw[h0];decide
    have e2:(mode==2)=true:=by rw[h0];decide
    have HL:Hid (lZ G mode k=(decide (1<mv)&&decide (1≤kd∧kd≤3))):=by show _=_;rw[HLB.out,if_neg (by omega),if_pos h0]
    have OQ:=OP (decide (1<mv)&&decide (1≤kd∧kd≤3));have gP:=Rg (decide (1<mv)&&decide (1≤kd∧kd≤3));clear h0 OP Rg;by_cases hmv:1<mv
    ·rw[decide_eq_true hmv,zbo,Bool.decide_and]at OQ gP HL;go_wp2_with (go_at_call 64;refine(Gv _ _).mono ?_;rintro e w' ⟨rfl,rfl⟩);go_roundw
     case rel=>exact⟨k+1,by omega,by go_num,by show gV _ _ _;rw[HST.out,HL.out];exact OQ.out,gP⟩
     case measure=>simp[intOf];omega
    ·have agk:mv≤1:=by omega
     rw[decide_eq_false hmv,Bool.false_and]at OQ gP HL;clear hmv;go_wp2_with fail;go_roundw
     case rel=>exact⟨k+1,by omega,by go_num,by show gV _ _ _;rw[HST.out,HL.out];exact OQ.out,gP⟩
     case measure=>simp[intOf];omega
  ·obtain rfl:k=G.length:=by omega
   have HF:Hid (Below w.heap.size w wr):=LM;go_wp2_with fail;go_ret;exact⟨_,rfl,hr.out,HF.out⟩
theorem IU (G:List Nd)(h:(eH (ax G) G.length).Ok G.length):(eH (ax G) G.length).wi.any id=mH G:=by
 have hl:=h.lw;unfold mH;rw[zar,zbp,zbp];constructor
 ·rintro ⟨x,hx,hv⟩;obtain⟨j,hj,rfl⟩:=List.mem_iff_getElem.1 hx;refine⟨j,zaR.2 (by omega),?_⟩;simp only[List.getD,zaf hj,zaF];exact hv
 ·rintro ⟨j,hj,hv⟩;have P5:j<(eH (ax G) G.length).wi.length:=by rw[hl];exact zaR.1 hj
  refine⟨_,zaC P5,?_⟩;simp only[List.getD,zaf P5,zaF]at hv;exact hv
theorem Pow.on' {w w':World}(h:Pow w)(hb:Below w.heap.size w w'):Pow w':=h.on hb
theorem xz (G:List Nd)(b o cap:Nat)(mode:Int)(hm:mode=0∨mode=1∨mode=2)(F:Nat)(hF:403≤F)(w:World)(bm bw:Nat)(hr:di G=true)(hG:aR w b o G)(hp:Pow w)
 (ER:kL w bm (eH (ax G) G.length).met)(Bn:gV w bw (eH (ax G) G.length).wi)(hc:mode=0→mH G=false):
 Calls prog 40 #[.slice (some ⟨b,o,none⟩) G.length cap,.int .i64 mode,.agg #[.slice (some ⟨bm,0,none⟩) G.length G.length,.slice (some ⟨bw,0,none⟩) G.length G.length]] w
  λe w1=>∃bL,e=.returned (.slice (some ⟨bL,0,none⟩) G.length G.length)∧Below w.heap.size w w1∧
   Calls prog 39 #[.slice (some ⟨b,o,none⟩) G.length cap,.slice (some ⟨bL,0,none⟩) G.length G.length] w1 λe w'=>e=.returned (.tuple #[.string ⟨⟨uN (dm G mode F)⟩⟩,.bool (BQ (dm G mode F))])∧Below w1.heap.size w1 w':=by
 obtain⟨h1,tG,hk,hs,OG⟩:=jo G hr;have bX:(eH (ax G) G.length).Ok G.length:=Ok.meet (jl G hs) _ _ _ (kr _) (by omega);refine(Bl G b o cap mode hm bm bw w hG tG bX ER Bn).mono ?_;rintro e w1 ⟨bL,rfl,hrl,hb⟩;obtain⟨Rc,rk,r0,r1,r2⟩:=zH G hr mode hm hc;refine⟨bL,rfl,hb,?_⟩;refine uO G b o cap w1 bL (lZ G mode) Rc rk (λp bl yj Rm hp3=>⟨hG.below hb,hk,hs,tG,yj,Rm,hp3,λi hi=>?_,hp.on hb,r1,r2⟩) r0 (by omega) tG F hF (DO G hr (lZ G mode) F (by omega));have:=(hrl i (by rw[l4];exact hi)).1;rw[tH G mode _ (zaa _) i,if_pos hi]at this;exact this
theorem jM (G:List Nd)(b o cap:Nat)(mode:Int)(F:Nat)(hF:403≤F)(w:World)(hlen:G.length≤maxLen)(hG:aR w b o G)(hp:Pow w):Calls prog 19 #[(.slice (some ⟨b,o,none⟩) G.length cap),.int .i64 mode] w λe w'=>e=.returned (.tuple #[.string ⟨⟨(cz G mode F).1⟩⟩,.int .i64 (cz G mode F).2])∧Below w.heap.size w w':=by
 have HG:Hid (aR w b o G):=hG;have HP:Hid (Pow w):=hp;have HLM:Hid (G.length≤maxLen):=hlen;clear hG hp hlen;by_cases hm:mode<0∨2<mode
 ·have HV:Hid (cz G mode F=([],1)):=by show _=_;unfold cz;rw[if_pos hm]
  have m0:(mode != 0)=true:=by simp;omega
  have m1:(mode != 1)=true:=by simp;omega
  have m2:(mode != 2)=true:=by simp;omega
  go_enter func19,ntmps19;go_wp2_with fail;go_ret2;exact⟨jL (a:=[]) (by rw[HV.out]) (by rw[HV.out]),Below.refl _ _⟩
 ·have IV:mode=0∨mode=1∨mode=2:=by omega
  have HM:Hid (¬(mode<0∨2<mode)):=hm;have HMD:Hid _:=IV;clear hm;cases hr:di G
  ·have HV:Hid (cz G mode F=([],8)):=by show _=_;unfold cz;rw[if_neg HM.out,if_pos hr]
   rcases IV with rfl|rfl|rfl
   all_goals
    go_enter func19,ntmps19;go_wp2_with fail;refine(oU G b o cap _ HLM.out HG.out).mono ?_;rw[hr];rintro e w2 ⟨rfl,hb2⟩;go_wp2_with fail;go_ret2;exact⟨jL (a:=[]) (by rw[HV.out]) (by rw[HV.out]),hb2⟩
  ·obtain⟨h1,tG,hk,hs,OG⟩:=jo G hr;have HKK:Hid (∀x (hx:x<G.length),aY G[x]=true):=hk;have TK:Hid (∀x (hx:x<G.length),ei G[x].subs G.length=true):=hs;have XB:Hid (∀x,(ax G x).length≤20):=OG;have yH:Hid ((eH (ax G) G.length).Ok G.length):=Ok.meet (jl G hs) _ _ _ (kr _) (by omega);have HR:Hid (di G=true):=hr;have R1:Hid ((mode=0→mH G=false)→∃(Rc:Nat→Prop) (rk:Nat→Nat),Rc 0∧(∀x,Rc x→∀y∈ax G x,Rc y)∧(∀x,Rc x→∀y∈ax G x,bp G y=1→lZ G mode y=false→rk y<rk x)):=zH G hr mode IV;have HOT:Hid _:=DO G hr (lZ G mode) F (by omega);clear hk hs OG;by_cases h0:mode=0
   ·subst h0;go_enter func19,ntmps19;go_wp2_with fail;refine(oU G b o cap _ HLM.out HG.out).mono ?_;rw[hr];rintro e w2 ⟨rfl,hb2⟩;have TM:Hid (aR w2 b o G):=aR.below HG.out hb2;have gN:Hid (Below w.heap.size w w2):=hb2;clear hb2;go_wp2_with fail;refine(kV G b o cap _ TM.out tG h1 TK.out XB.out).mono ?_;rintro e w3 ⟨bm,bw,rfl,ER,Bn,hb3⟩;have HRM:Hid _:=ER;have ES:Hid _:=Bn;have HG3:Hid (aR w3 b o G):=aR.below TM.out hb3;have gQ:Hid (Below w.heap.size w w3):=gN.out.trans (hb3.mono gN.out.size);have VR:bm<w3.heap.size:=jJ (ER 0 (by rw[yH.out.lm];omega)).1;have zK:bw<w3.heap.size:=jJ (Bn 0 (by rw[yH.out.lw];omega)).1;clear ER Bn hb3;go_wp2_with fail;obtain⟨w4,hw4⟩:∃w4,w4=w3.alloc (.cells #[.slice (some ⟨bm,0,none⟩) G.length G.length,.slice (some ⟨bw,0,none⟩) G.length G.length] 68):=⟨_,rfl⟩;rw[←hw4];have hx:Below w3.heap.size w3 w4:=by rw[hw4];exact aA
    have fe:∀j,w4.cell? ⟨w3.heap.size,j,none⟩=(#[.slice (some ⟨bm,0,none⟩) G.length G.length,.slice (some ⟨bw,0,none⟩) G.length G.length]:Array Value)[j]?:=λj=>by rw[hw4,World.cell?_alloc_at _ _ _ _ rfl]
    have h4:w3.heap.size<w4.heap.size:=by rw[hw4];simp
    refine(zJ _ bw G.length yH.out.lw tG _ ⟨_,_,_,rfl⟩ _ (gV.below ES.out hx zK)).mono ?_;rw[IU G yH.out];cases Sa:mH G
    ·rintro e w5 ⟨rfl,nP⟩;have d0:w5.cell? ⟨w3.heap.size,0,none⟩=some (.slice (some ⟨bm,0,none⟩) G.length G.length):=by rw[nP.cell (p:=⟨w3.heap.size,0,none⟩) h4,fe];rfl
     have d1:w5.cell? ⟨w3.heap.size,1,none⟩=some (.slice (some ⟨bw,0,none⟩) G.length G.length):=by rw[nP.cell (p:=⟨w3.heap.size,1,none⟩) h4,fe];rfl
     have KV:Below w3.heap.size w3 w5:=hx.trans (nP.mono (by omega));have HT:Hid _:=xz G b o cap 0 (by omega) F hF w5 bm bw HR.out (aR.below HG3.out KV) (HP.out.on' (gQ.out.trans (KV.mono gQ.out.size))) (kL.below HRM.out KV VR) (gV.below ES.out KV zK) (λ_=>Sa);have n7:Hid (Below w.heap.size w w5):=gQ.out.trans (KV.mono gQ.out.size);have HM:Hid (¬((0:Int)<0∨(2:Int)<0)):=by show ¬_;omega
     clear fe hx h4 nP KV hw4;go_wp2_with fail;refine Calls.mono HT.out ?_;rintro e w6 ⟨bL,rfl,mZ,hwr⟩;have TN:Hid _:=hwr;have lp:Hid (Below w.heap.size w w6):=n7.out.trans (mZ.mono n7.out.size);clear mZ hwr HT;go_wp2_with fail;refine Calls.mono TN.out ?_;rintro e w7 ⟨rfl,BP⟩;have pK:Hid (Below w.heap.size w w7):=lp.out.trans (BP.mono lp.out.size);clear BP TN;cases DT:(dm G 0 F).long
     ·have HV:Hid (cz G 0 F=((dm G 0 F).out,0)):=by show _=_;unfold cz;rw[if_neg HM.out,if_neg (by rw[HR.out];simp),if_neg (show ¬((0:Int)=0∧mH G=true) from λh=>by rw[Sa]at h;exact absurd h.2 (by simp)),if_neg (by rw[DT];simp)]
      have HO:Hid (uN (dm G 0 F)=(dm G 0 F).out):=by show _=_;unfold uN;rw[DT];rfl
      have ho:BQ (dm G 0 F)=true:=by unfold BQ;rw[DT];rfl
      rw[ho];clear ho;go_wp2_with fail;go_ret2;exact⟨jL (by rw[HV.out,HO.out]) (by rw[HV.out]),pK.out⟩
     ·have HV:Hid (cz G 0 F=([],2)):=by show _=_;unfold cz;rw[if_neg HM.out,if_neg (by rw[HR.out];simp),if_neg (show ¬((0:Int)=0∧mH G=true) from λh=>by rw[Sa]at h;exact absurd h.2 (by simp)),if_pos DT]
      have ho:BQ (dm G 0 F)=false:=by unfold BQ;rw[DT];rfl
      rw[ho];clear ho;go_wp2_with fail;go_ret2;exact⟨jL (a:=[]) (by rw[HV.out]) (by rw[HV.out]),pK.out⟩
    ·rintro e w5 ⟨rfl,nP⟩;have n7:Hid (Below w.heap.size w w5):=gQ.out.trans ((hx.trans (nP.mono (by omega))).mono gQ.out.size);have HV:Hid (cz G 0 F=([],9)):=by show _=_;unfold cz;rw[if_neg (by omega),if_neg (by rw[HR.out];simp),if_pos ⟨rfl,Sa⟩]
     clear fe hx h4 nP hw4;go_wp2_with fail;go_ret2;exact⟨jL (a:=[]) (by rw[HV.out]) (by rw[HV.out]),n7.out⟩
   ·have aag:mode=1∨mode=2:=by omega
    have HNC:Hid (¬(mode=0∧mH G=true)):=λh=>h0 h.1;have HN0:Hid (mode=0→mH G=false):=λh=>absurd h h0;have m0:(mode==0)=false:=by simp;omega
    have agl:Hid _:=aag;clear IV;have agm:(mode != 0&&(mode != 1&&mode != 2))=false:=by
     rcases aag with rfl|rfl<;>rfl
    have m0':(mode != 0)=true:=by simp;omega
    by_cases QE:mode=1
    ·subst QE;go_enter func19,ntmps19;go_wp2_with fail;refine(oU G b o cap _ HLM.out HG.out).mono ?_;rw[hr];rintro e w2 ⟨rfl,hb2⟩;have TM:Hid (aR w2 b o G):=aR.below HG.out hb2;have gN:Hid (Below w.heap.size w w2):=hb2;clear hb2;go_wp2_with fail;refine(kV G b o cap _ TM.out tG h1 TK.out XB.out).mono ?_;rintro e w3 ⟨bm,bw,rfl,ER,Bn,hb3⟩;have VR:bm<w3.heap.size:=jJ (ER 0 (by rw[yH.out.lm];omega)).1;have zK:bw<w3.heap.size:=jJ (Bn 0 (by rw[yH.out.lw];omega)).1;have gQ:Hid (Below w.heap.size w w3):=gN.out.trans (hb3.mono gN.out.size);have HT:Hid _:=xz G b o cap 1 (by omega) F hF (w3.alloc (.cells #[.slice (some ⟨bm,0,none⟩) G.length G.length,.slice (some ⟨bw,0,none⟩) G.length G.length] 68)) bm bw HR.out (aR.below (aR.below TM.out hb3) aA) (HP.out.on (gQ.out.trans (aA.mono gQ.out.size))) (kL.below ER aA VR) (gV.below Bn aA zK) (λh=>by omega);have n7:Hid (Below w.heap.size w (w3.alloc (.cells #[.slice (some ⟨bm,0,none⟩) G.length G.length,.slice (some ⟨bw,0,none⟩) G.length G.length] 68))):=gQ.out.trans (aA.mono gQ.out.size);clear ER Bn hb3 VR zK;go_wp2_with fail;refine Calls.mono HT.out ?_;rintro e w6 ⟨bL,rfl,mZ,hwr⟩;have TN:Hid _:=hwr;have lp:Hid (Below w.heap.size w w6):=n7.out.trans (mZ.mono n7.out.size);clear mZ hwr HT;go_wp2_with fail;refine Calls.mono TN.out ?_;rintro e w7 ⟨rfl,BP⟩;have pK:Hid (Below w.heap.size w w7):=lp.out.trans (BP.mono lp.out.size);clear BP TN;cases DT:(dm G 1 F).long
     ·have HV:Hid (cz G 1 F=((dm G 1 F).out,0)):=by show _=_;unfold cz;rw[if_neg HM.out,if_neg (by rw[HR.out];simp),if_neg HNC.out,if_neg (by rw[DT];simp)]
      have HO:Hid (uN (dm G 1 F)=(dm G 1 F).out):=by show _=_;unfold uN;rw[DT];rfl
      have ho:BQ (dm G 1 F)=true:=by unfold BQ;rw[DT];rfl
      rw[ho];clear ho;go_wp2_with fail;go_ret2;exact⟨jL (by rw[HV.out,HO.out]) (by rw[HV.out]),pK.out⟩
     ·have HV:Hid (cz G 1 F=([],2)):=by show _=_;unfold cz;rw[if_neg HM.out,if_neg (by rw[HR.out];simp),if_neg HNC.out,if_pos DT]
      have ho:BQ (dm G 1 F)=false:=by unfold BQ;rw[DT];rfl
      rw[ho];clear ho;go_wp2_with fail;go_ret2;exact⟨jL (a:=[]) (by rw[HV.out]) (by rw[HV.out]),pK.out⟩
    ·obtain rfl:mode=2:=by omega
     go_enter func19,ntmps19;go_wp2_with fail;refine(oU G b o cap _ HLM.out HG.out).mono ?_;rw[hr];rintro e w2 ⟨rfl,hb2⟩;have TM:Hid (aR w2 b o G):=aR.below HG.out hb2;have gN:Hid (Below w.heap.size w w2):=hb2;clear hb2;go_wp2_with fail;refine(kV G b o cap _ TM.out tG h1 TK.out XB.out).mono ?_;rintro e w3 ⟨bm,bw,rfl,ER,Bn,hb3⟩;have VR:bm<w3.heap.size:=jJ (ER 0 (by rw[yH.out.lm];omega)).1;have zK:bw<w3.heap.size:=jJ (Bn 0 (by rw[yH.out.lw];omega)).1;have gQ:Hid (Below w.heap.size w w3):=gN.out.trans (hb3.mono gN.out.size);have HT:Hid _:=xz G b o cap 2 (by omega) F hF (w3.alloc (.cells #[.slice (some ⟨bm,0,none⟩) G.length G.length,.slice (some ⟨bw,0,none⟩) G.length G.length] 68)) bm bw HR.out (aR.below (aR.below TM.out hb3) aA) (HP.out.on (gQ.out.trans (aA.mono gQ.out.size))) (kL.below ER aA VR) (gV.below Bn aA zK) (λh=>by omega);have n7:Hid (Below w.heap.size w (w3.alloc (.cells #[.slice (some ⟨bm,0,none⟩) G.length G.length,.slice (some ⟨bw,0,none⟩) G.length G.length] 68))):=gQ.out.trans (aA.mono gQ.out.size);clear ER Bn hb3 VR zK;go_wp2_with fail;refine Calls.mono HT.out ?_;rintro e w6 ⟨bL,rfl,mZ,hwr⟩;have TN:Hid _:=hwr;have lp:Hid (Below w.heap.size w w6):=n7.out.trans (mZ.mono n7.out.size);clear mZ hwr HT;go_wp2_with fail;refine Calls.mono TN.out ?_;rintro e w7 ⟨rfl,BP⟩;have pK:Hid (Below w.heap.size w w7):=lp.out.trans (BP.mono lp.out.size);clear BP TN;cases DT:(dm G 2 F).long
     ·have HV:Hid (cz G 2 F=((dm G 2 F).out,0)):=by show _=_;unfold cz;rw[if_neg HM.out,if_neg (by rw[HR.out];simp),if_neg HNC.out,if_neg (by rw[DT];simp)]
      have HO:Hid (uN (dm G 2 F)=(dm G 2 F).out):=by show _=_;unfold uN;rw[DT];rfl
      have ho:BQ (dm G 2 F)=true:=by unfold BQ;rw[DT];rfl
      rw[ho];clear ho;go_wp2_with fail;go_ret2;exact⟨jL (by rw[HV.out,HO.out]) (by rw[HV.out]),pK.out⟩
     ·have HV:Hid (cz G 2 F=([],2)):=by show _=_;unfold cz;rw[if_neg HM.out,if_neg (by rw[HR.out];simp),if_neg HNC.out,if_pos DT]
      have ho:BQ (dm G 2 F)=false:=by unfold BQ;rw[DT];rfl
      rw[ho];clear ho;go_wp2_with fail;go_ret2;exact⟨jL (a:=[]) (by rw[HV.out]) (by rw[HV.out]),pK.out⟩
end Go.Proofs.YtlhimdjkkiflhaaGreatDoor
namespace Go.Proofs.YtlhimdjkkiflhaaGreatDoor
open Go.RowKit Go.Loop
def xA (x:ng):Value→Nd
 |.slice a _ c=>⟨x.kind,x.text,x.n,x.d,x.subs.map λk:Nat=>(k:Int),a,c⟩
 |_=>⟨x.kind,x.text,x.n,x.d,x.subs.map λk:Nat=>(k:Int),none,0⟩
def iX (x:ng):Nd:=⟨x.kind,x.text,x.n,x.d,x.subs.map λk:Nat=>(k:Int),none,0⟩
def dJ:List ng→List Value→List Nd
 |x::l,sv::bu=>xA x sv::dJ l bu
 |_,_=>[]
theorem rR:∀(l:List ng) (bu:List Value),bu.length=l.length→(dJ l bu).length=l.length
 |[],_,_=>by simp[dJ]
 |x::l,[],h=>by simp at h
 |x::l,sv::bu,h=>by
  have:=rR l bu (by simpa using h);simp[dJ,this]
theorem KW (x:ng)(sv:Value):iD (xA x sv)=iX x:=by
 cases sv<;>rfl
theorem xB:∀(l:List ng) (bu:List Value),bu.length=l.length→(dJ l bu).map iD=l.map iX
 |[],_,_=>by simp[dJ]
 |x::l,[],h=>by simp at h
 |x::l,sv::bu,h=>by
  have:=xB l bu (by simpa using h);simp[dJ,this,KW]
theorem zL:∀(l:List ng) (bu:List Value) (i:Nat),bu.length=l.length→i<l.length→∃x sv,l[i]?=some x∧bu[i]?=some sv∧(dJ l bu)[i]?=some (xA x sv)∧∀j,j<5→(uM l bu)[i*5+j]?=(qw x sv)[j]?
 |[],_,i,_,h=>by simp at h
 |x::l,[],_,h,_=>by simp at h
 |x::l,sv::bu,0,h,_=>by
  refine⟨x,sv,rfl,rfl,rfl,λj hj=>?_⟩;simp only[uM,Nat.zero_mul,Nat.zero_add];rw[zaI (by simp[qw];omega)]
 |x::l,sv::bu,i+1,h,hi=>by
  obtain⟨y,sy,h1,h2,h3,h4⟩:=zL l bu i (by simpa using h) (by simpa using hi);refine⟨y,sy,by simpa using h1,by simpa using h2,by simpa[dJ]using h3,λj hj=>?_⟩;rw[←h4 j hj];simp only[uM];rw[zaK (by simp[qw];omega)]
  congr 1
  simp[qw];omega
theorem qg {w:World}{lo:Nat}{nv:Value}{bu:List Value}{nodes:List ng}(h:bC w lo nv bu nodes)(hne:nodes≠[])(hlen:∀x∈nodes,x.text.length≤maxLen∧x.subs.length≤maxLen):∃b cap,nv=.slice (some ⟨b,0,none⟩) (dJ nodes bu).length cap∧(dJ nodes bu).length=nodes.length∧aR w b 0 (dJ nodes bu)∧(dJ nodes bu).map iD=nodes.map iX:=by
 obtain⟨hrow,hl,gU⟩:=h;have hL:=rR nodes bu hl;rcases hrow.2 with⟨_,h0⟩|⟨g,cap,cur,rfl,h1,h2,h3,h4,h5,h6⟩
 ·exact absurd (List.length_eq_zero_iff.1 h0) hne
 ·refine⟨g,cap,by rw[hL],hL,λi hi=>?_,xB nodes bu hl⟩;rw[hL]at hi;obtain⟨x,sv,k1,k2,k3,k4⟩:=zL nodes bu i hl hi;have hx:(dJ nodes bu)[i]=xA x sv:=by
   have:=zaf (by rw[hL];exact hi:i<(dJ nodes bu).length);rw[this]at k3;exact Option.some.inj k3
  rw[hx];have hc:∀j,j<5→w.cell? ⟨g,0+i*5+j,none⟩=(qw x sv)[j]?:=λj hj=>by
   rw[←k4 j hj,Nat.zero_add];exact World.ownsRow.cellAt hrow _ (by omega)
  have hb:=hlen x (List.mem_of_getElem? k1);have hs:=gU i x sv k1 k2;have c0:=hc 0 (by omega);have c1:=hc 1 (by omega);have c2:=hc 2 (by omega);have c3:=hc 3 (by omega);have c4:=hc 4 (by omega);simp only[qw,List.getElem?_cons_zero,List.getElem?_cons_succ,Nat.add_zero]at c0 c1 c2 c3 c4;rcases hs with⟨rfl,he⟩|⟨b,rfl,_,hblk⟩
  ·refine⟨c0,c1,c2,c3,?_,.inl ?_,hb.1,?_⟩
   ·simpa[xA,he]using c4
   ·simp[xA,he]
   ·simpa[xA]using hb.2
  ·refine⟨c0,c1,c2,c3,?_,.inr ⟨b,0,rfl,λj hj=>?_⟩,hb.1,?_⟩
   ·simpa[xA]using c4
   ·simp only[xA,zbk]at hj;simp only[World.cell?,hblk,xA];simp[hj]
   ·simpa[xA]using hb.2
end Go.Proofs.YtlhimdjkkiflhaaGreatDoor
namespace Go.Ren
open Go Go.Conc Go.ConcX Go.RowKit Go.Proofs Go.Loop Go.Proofs.YtlhimdjkkiflhaaGreatDoor
theorem Pow.DU {w w':World}(h:Pow w)(hb:aj w w'):Pow w':=by
 have hb':Below w.heap.size w { w with heap:=w'.heap }:=⟨rfl,rfl,rfl,hb.1,hb.2⟩;have:=Pow.on h hb';unfold YtlhimdjkkiflhaaGreatDoor.Pow Lib.TabIs World.var? at this ⊢;exact this
theorem _root_.Go.Proofs.YtlhimdjkkiflhaaGreatDoor.aR.IW {w w':World}{b o:Nat}{G:List Nd}(h:aR w b o G)(e:w'.heap=w.heap):aR w' b o G:=λi hi=>by
 have hc:∀a,w'.cell? a=w.cell? a:=λa=>by unfold World.cell?;rw[e]
 have hn:=h i hi;refine⟨by rw[hc];exact hn.kind,by rw[hc];exact hn.text,by rw[hc];exact hn.n,by rw[hc];exact hn.d,by rw[hc];exact hn.subs,?_,hn.Z6,hn.Z7⟩;rcases hn.ints with h0|⟨b1,o1,e1,h1⟩
 ·exact .inl h0
 ·exact .inr ⟨b1,o1,e1,λj hj=>by rw[hc];exact h1 j hj⟩
end Go.Ren
namespace Go.Loop
open Go.Proofs.Tryz
def tI (n d:Int):Option (Int×Int):=
 if n.tdiv (Int.gcd n d)< -1000000∨1000000<n.tdiv (Int.gcd n d)∨1000000<d/(Int.gcd n d)then none else some (n.tdiv (Int.gcd n d),d/(Int.gcd n d))
def xC (a b:Int×Int):Option (Int×Int):=tI (a.1*b.2+b.1*a.2) (a.2*b.2)
def xD (a b:Int×Int):Option (Int×Int):=xC a (-b.1,b.2)
def xE (a b:Int×Int):Option (Int×Int):=tI (a.1*b.1) (a.2*b.2)
def VS (a b:Int×Int):Option (Int×Int):=if a.2*b.1<0 then tI (-(a.1*b.2)) (-(a.2*b.1))else tI (a.1*b.2) (a.2*b.1)
def mI (a b:Int×Int):Bool:=decide (a.1*b.2<b.1*a.2)
def qB (a:Int×Int):Prop:=-1000000≤a.1∧a.1≤1000000∧1≤a.2∧a.2≤1000000
theorem VT {a b A B:Int}(h1: -A≤a)(h2:a≤A)(h3: -B≤b)(h4:b≤B): -(A*B)≤a*b∧a*b≤A*B:=by
 have hA:0≤A:=by omega
 have hB:0≤B:=by omega
 have e:(a*b).natAbs=a.natAbs*b.natAbs:=Int.natAbs_mul a b;have h:a.natAbs*b.natAbs≤A.natAbs*B.natAbs:=Nat.mul_le_mul (by omega) (by omega);have e2:(A*B).natAbs=A.natAbs*B.natAbs:=Int.natAbs_mul A B;have Xc:0≤A*B:=Int.mul_nonneg hA hB;omega
theorem oh {a b:Int}(h1: -1000000≤a)(h2:a≤1000000)(h3: -1000000≤b)(h4:b≤1000000): -1000000000000≤a*b∧a*b≤1000000000000:=by
 have:=VT (A:=1000000) (B:=1000000) h1 h2 h3 h4;omega
theorem rT {n d:Int}(hd:1≤d){r:Int×Int}(h:tI n d=some r):qB r:=by
 unfold tI at h;split at h
 ·cases h
 ·rename_i hn;cases h;have hg:(0:Int)<(Int.gcd n d:Int):=by
   have:0<Int.gcd n d:=zbw _ (by omega);omega
  have adH:((Int.gcd n d:Nat):Int)∣d:=Int.gcd_dvd_right ..;obtain⟨q,hq⟩:=adH;have iP:1≤d/(Int.gcd n d:Int):=by
   rw[Int.le_ediv_iff_mul_le hg];have:=Int.le_of_dvd (by omega) (Int.gcd_dvd_right (a:=n) (b:=d));omega
  refine⟨by omega,by omega,iP,by omega⟩
end Go.Loop
namespace Go.Proofs.YtlhimdjkkiflhaaGreatDoor
open Go.Proofs.Tryz
open Go.RowKit Go.Loop
def qV (a:Int×Int):Value:= .agg #[.int .i64 a.1,.int .i64 a.2]
def mJ:Option (Int×Int)→Value
 |some r=> .tuple #[qV r,.bool true]
 |none=> .tuple #[.agg #[.int .i64 0,.int .i64 0],.bool false]
theorem iE (a b:Int)(w:World)(h1: -1000000≤a)(h2:a≤1000000)(h3: -1000000≤b)(h4:b≤1000000):Calls prog 228 #[.int .i64 a,.int .i64 b] w λe w'=>e=.returned (.int .i64 (a*b))∧w'=w:=by
 have hm:=oh h1 h2 h3 h4;go_enter func228,ntmps228
 go_wp2
 go_ret;refine⟨fC ?_,rfl⟩;first|rfl|(unfold wrap64;omega)|simp
theorem vo (n d:Int)(w:World)(h1: -4000000000000≤n)(h2:n≤4000000000000)(h3:1≤d)(h4:d≤4000000000000):Calls prog 244 #[.int .i64 n,.int .i64 d] w λe w'=>e=.returned (mJ (tI n d))∧Below w.heap.size w w':=by
 have hg:1≤((Int.gcd n d:Nat):Int):=by
  have:0<Int.gcd n d:=zbw _ (by omega);omega
 obtain⟨a1,a2⟩:=Ij n _ (by omega) (by omega) hg;obtain⟨b1,b2⟩:=NH d _ h3 (by omega) hg;have HL:Hid _:=λw=>wN n d w (by omega) (by omega) h3 (by omega);have HF:Hid (tI n d=if n.tdiv (Int.gcd n d)< -1000000∨1000000<n.tdiv (Int.gcd n d)∨1000000<d/(Int.gcd n d)then none else some (n.tdiv (Int.gcd n d),d/(Int.gcd n d))):=rfl;generalize n.tdiv (Int.gcd n d)=x at *;generalize d/((Int.gcd n d:Nat):Int)=y at *;generalize tI n d=r at *;clear hg;by_cases c1:x< -1000000
 ·have e:r=none:=by rw[HF.out,if_pos (.inl c1)]
  subst e;go_enter func244,ntmps244;go_wp2_with (go_at_call 188;refine(HL.out _).mono ?_;rintro e w' ⟨rfl,m,rfl⟩);refine bodyPost_ret (by simp[results,results244,go_sem];rfl) rfl ?_;exact⟨rfl,by(repeat (first|with_reducible refine Below.setCell ?_ (by simp) _|with_reducible refine below_drewN ?_ _|with_reducible refine Below.alloc ?_ (by simp) _));with_reducible exact Below.refl _ _⟩
 ·by_cases c2:1000000<x
  ·have e:r=none:=by rw[HF.out,if_pos (.inr (.inl c2))]
   subst e;go_enter func244,ntmps244;go_wp2_with (go_at_call 188;refine(HL.out _).mono ?_;rintro e w' ⟨rfl,m,rfl⟩);refine bodyPost_ret (by simp[results,results244,go_sem];rfl) rfl ?_;exact⟨rfl,by(repeat (first|with_reducible refine Below.setCell ?_ (by simp) _|with_reducible refine below_drewN ?_ _|with_reducible refine Below.alloc ?_ (by simp) _));with_reducible exact Below.refl _ _⟩
  ·by_cases c3:1000000<y
   ·have e:r=none:=by rw[HF.out,if_pos (.inr (.inr c3))]
    subst e;go_enter func244,ntmps244;go_wp2_with (go_at_call 188;refine(HL.out _).mono ?_;rintro e w' ⟨rfl,m,rfl⟩);refine bodyPost_ret (by simp[results,results244,go_sem];rfl) rfl ?_;exact⟨rfl,by(repeat (first|with_reducible refine Below.setCell ?_ (by simp) _|with_reducible refine below_drewN ?_ _|with_reducible refine Below.alloc ?_ (by simp) _));with_reducible exact Below.refl _ _⟩
   ·have e:r=some (x,y):=by rw[HF.out,if_neg (by omega)]
    subst e;go_enter func244,ntmps244;go_wp2_with (go_at_call 188;refine(HL.out _).mono ?_;rintro e w' ⟨rfl,m,rfl⟩);refine bodyPost_ret (by simp[results,results244,go_sem];rfl) rfl ?_;exact⟨rfl,by(repeat (first|with_reducible refine Below.setCell ?_ (by simp) _|with_reducible refine below_drewN ?_ _|with_reducible refine Below.alloc ?_ (by simp) _));with_reducible exact Below.refl _ _⟩
end Go.Proofs.YtlhimdjkkiflhaaGreatDoor
namespace Go.Loop
open Go
section
variable {P:Program}{md:Region.Mode}{ops:Array Oper}{w:World}
def zM (md:Region.Mode)(ops:Array Oper)(n:Nat):Bool:=(List.range ops.size).all λt=>decide (t≤n)||(List.range t).any λj=>decide (n≤j)&&Region.waitsFor md ops t j
theorem Gx {n:Nat}{listed:Array Bool}(hs:Region.sinkB md ops n=true)(inv:HeadInv md ops n listed)(hn:n<ops.size):∀(d i:Nat),n=i+1+d→listed.getD i true=false→∃on,ops[n]?=some on∧∃e∈on.after,Region.binds md e=true∧listed.getD e.on false=false:=by
 intro d
 induction d using Nat.strongRecOn with
 |ind d ih=>
  intro i hd TP;obtain⟨j,hj,P5⟩:=zbp.1 (zav.1 hs i (zaR.2 (by omega)));simp only[zae,decide_eq_true_eq]at P5;have hjn:=zaR.1 hj;obtain⟨oj,XC,e,he,hb,WH⟩:=Region.waitsFor_spec P5.2;have hu:listed.getD e.on false=false:=by rw[WH];exact getD_both TP
  by_cases hjt:j=n
  ·subst hjt;exact⟨oj,XC,e,he,hb,hu⟩
  ·have hjf:listed.getD j false=false:=by
    cases hl:listed.getD j false with
    |false=>rfl
    |true=>
     have:=inv.closed j oj XC hl e he hb;rw[hu]at this;cases this
   exact ih (n-j-1) (by omega) j (by omega) (getD_in (by rw[inv.size];omega) hjf)
theorem tJ {n i:Nat}{listed:Array Bool}(hs:Region.sinkB md ops n=true)(hc:zM md ops n=true)(hn:n<ops.size)(inv:HeadInv md ops n listed)(hi:i<n)(TP:listed.getD i true=false)(t:Nat)(ht:t∈Region.ready md ops listed):t<n:=by
 rcases zag t n with h|h
 ·exact h
 ·exfalso;obtain⟨_,ot,hot,hall⟩:=mem_ready.1 ht;have htl:t<ops.size:=(zac.1 hot).1;by_cases e:t=n
  ·subst e;obtain⟨on,h1,x,h2,h3,h4⟩:=Gx hs inv hn (t-i-1) i (by omega) TP;obtain rfl:=Option.some.inj (h1.symm.trans hot);have:=hall x h2 h3;rw[h4]at this;cases this
  ·have h1:=zav.1 hc t (zaR.2 htl);simp only[Bool.or_eq_true,decide_eq_true_eq]at h1;rcases h1 with h1|h1
   ·omega
   ·obtain⟨j,hj,P5⟩:=zbp.1 h1;simp only[zae,decide_eq_true_eq]at P5;obtain⟨o',Hs,x,hx,hb,WH⟩:=Region.waitsFor_spec P5.2;obtain rfl:=Option.some.inj (Hs.symm.trans hot);have:=hall x hx hb;have hjt:=zaR.1 hj;rw[WH,getD_both (inv.tail j P5.1 (by omega))]at this;cases this
theorem xF {n i:Nat}{oi:Oper}{v:Value}{L:Array Bool→Act→Prop}(hi:ops[i]?=some oi)(DV:∀(j:Nat) (o:Oper) cs b,ops[j]?=some o→o.op≠.select cs b)(hs:Region.sinkB md ops n=true)(hc:zM md ops n=true)(hn:n<ops.size)(PV:i<n)
 (hdone:∀listed a,L listed a→∀j∈Region.ready md ops listed,n≤j):∀(f:Nat) (listed:Array Bool) (a:Act),HeadInv md ops n listed→
   (∀j oj,ops[j]?=some oj→j≠i→listed.getD j true=false→(∀e∈oj.after,Region.binds md e=true→e.on≠i)→oi.apart ops oj=true)→
   i∈Region.ready md ops listed→YieldsAt P ops w oi v a→wpAnyL P md ops w n L f (listed.setIfInBounds i true) (a.put oi.dst v)→wpAnyL P md ops w n L (f+1) listed a
 |f,listed,a,inv,TQ,hr,hy,H=>by
  have TP:=(mem_ready.1 hr).1;refine⟨λh=>(by rw[h]at hr;cases hr),λj hj=>⟨tJ hs hc hn inv PV TP j hj,?_⟩⟩;by_cases uz:j=i
  ·subst uz;exact hy.stOp hi H
  ·have hjr:=ready_mono hj uz;cases f with
   |zero=>
    have h1:=hdone _ _ H j hjr;have h2:=tJ hs hc hn inv PV TP j hj;omega
   |succ f=>
    have h1:=(H.2 j hjr).2;obtain⟨aah,oj,XC,hall⟩:=mem_ready.1 hj;have adI:∀e∈oj.after,Region.binds md e=true→e.on≠i:=λe he hb heq=>by
     have:=hall e he hb;rw[heq,getD_both TP]at this;cases this
    have h2:=stOp_put XC (TQ j oj XC uz aah adI) (λcs b=>DV i oi cs b hi) (λcs b=>DV j oj cs b XC) hy h1;refine stOp_mono (λa' h3=>xF hi DV hs hc hn PV hdone f (listed.setIfInBounds j true) a' (inv.set hj (tJ hs hc hn inv PV TP j hj)) (λk ok hk hki XD hno=>TQ k ok hk hki ?_ hno) (ready_mono hr (Ne.symm uz)) h3.1 ?_) h2
    ·by_cases hjk:j=k
     ·subst hjk;exact aah
     ·rw[getD_set_ne true hjk]at XD;exact XD
    ·rw[Array.setIfInBounds_comm _ _ uz];exact h3.2
def lexB (md:Region.Mode)(ops:Array Oper)(n:Nat):Nat→Nat→Array Bool→Bool
 |0,_,listed=>(Region.ready md ops listed).all λj=>decide (n≤j)
 |f+1,k,listed=>(Region.ready md ops listed).contains k&&Region.free md ops listed k&&lexB md ops n f (k+1) (listed.setIfInBounds k true)
def rU:Nat→Nat→Array Bool→Array Bool
 |0,_,listed=>listed
 |f+1,k,listed=>rU f (k+1) (listed.setIfInBounds k true)
theorem DW {n:Nat}{Lq:Act→Prop}(DV:Region.noSelect ops=true)(hs:Region.sinkB md ops n=true)(hc:zM md ops n=true)(hn:n<ops.size):∀(l:List Oper) (k:Nat) (listed:Array Bool) (a:Act),(∀j,j<l.length→l[j]?=ops[k+j]?)→k+l.length=n→HeadInv md ops n listed→lexB md ops n l.length k listed=true→wpStill P ops w Lq l a→wpAnyL P md ops w n (λlisted' a'=>(listed'=rU l.length k listed∧∀j∈Region.ready md ops listed',n≤j)∧Lq a') l.length listed a
 |[],k,listed,a,_,_,_,hB,h=>by
  refine⟨⟨rfl,λj hj=>?_⟩,h⟩;simpa using zav.1 hB j hj
 |o::l,k,listed,a,hl,hk,inv,hB,h=>by
  have h0:ops[k]?=some o:=by simpa using(hl 0 (by simp)).symm
  simp only[zat,lexB,zae]at hB;obtain⟨⟨hr,hf⟩,MV⟩:=hB;simp only[zat]at hk;have nE:k∈Region.ready md ops listed:=by simpa using hr
  have hst:stOp P ops w k (wpStill P ops w Lq l) a:=by unfold stOp;simp only[h0];exact h
  obtain⟨v,hy,hK⟩:=yieldsAt_of_stOp h0 hst;exact xF h0 (Region.noSelect_spec DV) hs hc hn (by omega) (λlisted' a' hL=>hL.1.2) l.length listed a inv (Region.free_spec h0 hf) nE hy
   (DW DV hs hc hn l (k+1) _ _ (λj hj=>by have:=hl (j+1) (by simp;omega);simpa[Nat.add_assoc,Nat.add_comm 1 j]using this) (by omega) (inv.set nE (by omega)) MV hK)
theorem DX {Q:Exit→Act→World→Prop}{n k g:Nat}{l:List Oper}{listed:Array Bool}{a:Act}{Lq:Act→Prop}(DV:Region.noSelect ops=true)(hs:Region.sinkB md ops n=true)(hc:zM md ops n=true)(hn:n<ops.size)(hl:∀j,j<l.length→l[j]?=ops[k+j]?)(hk:k+l.length=n)(inv:HeadInv md ops n listed)(hB:lexB md ops n l.length k listed=true)
 (h:wpStill P ops w Lq l a)(hL:∀a',Lq a'→wpAny P md ops Q g (rU l.length k listed) a' w):wpAny P md ops Q (l.length+g) listed a w:=
 wpAny_of_head (λlisted' a' h'=>by rw[h'.1.1];exact hL a' h'.2) _ _ _ (DW DV hs hc hn l k listed a hl hk inv hB h)
def Sb (md:Region.Mode)(ops:Array Oper)(n:Nat)(listed:Array Bool):Bool:=
 decide (listed.size=ops.size)&&((List.range ops.size).all λj=>!(listed.getD j false)||(match ops[j]? with|some oj=>oj.after.all λe=>!(Region.binds md e)||listed.getD e.on false|none=>true))&&((List.range ops.size).all λt=>decide (t<n)||!(listed.getD t true))
theorem inv_of {n:Nat}{listed:Array Bool}(h:Sb md ops n listed=true):HeadInv md ops n listed:=by
 simp only[Sb,zae,decide_eq_true_eq]at h;obtain⟨⟨h1,h2⟩,h3⟩:=h;refine⟨h1,λj oj hj hl e he hb=>?_,λt ht YP=>?_⟩
 ·have:=zav.1 h2 j (zaR.2 (zac.1 hj).1);rw[hl,hj]at this;simp only[Bool.not_true,Bool.false_or]at this;have:=Array.all_eq_true'.1 this e he;rw[hb]at this;simpa using this
 ·have:=zav.1 h3 t (zaR.2 YP);simp only[Bool.or_eq_true,decide_eq_true_eq]at this;rcases this with h|h
  ·omega
  ·simpa using h
def TR (ops:Array Oper)(n m:Nat):Bool:=
 Region.noSelect ops&&(Region.sinkB .any ops n&&(zM .any ops n&&(decide (n<m)&&(decide (m<ops.size)&&(Sb .any ops n (Array.replicate ops.size false)&&(lexB .any ops n n 0 (Array.replicate ops.size false)&&(decide (Region.ready .any ops (rU n 0 (Array.replicate ops.size false))=[n])&&
 (Region.sinkB .any ops m&&(zM .any ops m&&(Sb .any ops m ((rU n 0 (Array.replicate ops.size false)).setIfInBounds n true)&&(lexB .any ops m (m-n-1) (n+1) ((rU n 0 (Array.replicate ops.size false)).setIfInBounds n true)&&
 Region.seqB .any ops (ops.size-m) m (rU (m-n-1) (n+1) ((rU n 0 (Array.replicate ops.size false)).setIfInBounds n true)))))))))))))
theorem jq {id:Nat}{Q:Exit→Act→World→Prop}{a:Act}{l:List Oper}(n m:Nat)(hm:P.follows .mixedOrders=true)(hB:TR l.toArray n m=true)
 (h:wpStill P l.toArray w.drew (λa1=>wpOp P l.toArray Q n (λa2 w2=>wpStill P l.toArray w2 (λa3=>wpList P l.toArray Q (l.drop m) a3 w2) ((l.drop (n+1)).take (m-n-1)) a2) a1 w.drew) (l.take n) a):(Code.region id l.toArray true).wp P Q a w:=by
 simp only[TR,zae,decide_eq_true_eq]at hB;obtain⟨b0,b1,b2,b3,b4,b5,b6,b7,b8,b9,b10,b11,b12⟩:=hB;have hsz:l.toArray.size=l.length:=by simp
 have l1:(l.take n).length=n:=by simp;omega
 have l2:((l.drop (n+1)).take (m-n-1)).length=m-n-1:=by simp;omega
 have l3:(l.drop m).length=l.toArray.size-m:=by simp
 refine wp_region_any hm ?_;have h2:∀a2 w2,wpStill P l.toArray w2 (λa3=>wpList P l.toArray Q (l.drop m) a3 w2) ((l.drop (n+1)).take (m-n-1)) a2→wpAny P .any l.toArray Q ((m-n-1)+(l.toArray.size-m)) ((rU n 0 (Array.replicate l.toArray.size false)).setIfInBounds n true) a2 w2:=λa2 w2 hw=>by
  have:=DX (md:= .any) (Q:=Q) (g:=l.toArray.size-m) (k:=n+1) (n:=m) b0 b8 b9 b4 (l:=(l.drop (n+1)).take (m-n-1)) (λj hj=>by
   rw[l2]at hj;simp[hj,List.getElem?_drop]) (by rw[l2];omega) (inv_of b10) (by rw[l2];exact b11) hw (λa' ha=>by
   rw[l2,←l3];exact wpAny_of_seq (md:= .any) (Q':=Q) (l.drop m) m _ a' w2 (λj=>by simp[List.getElem?_drop]) (by rw[l3];exact b12) ha)
  rwa[l2]at this
 have h1:=DX (md:= .any) (Q:=Q) (g:=1+((m-n-1)+(l.toArray.size-m))) (k:=0) (n:=n) (w:=w.drew) b0 b1 b2 (by omega) (l:=l.take n) (λj hj=>by
  rw[l1]at hj;simp[hj]) (by rw[l1];omega) (inv_of b5) (by rw[l1];exact b6) h (λa' ha=>by
  rw[l1,Nat.add_comm 1];refine⟨λh0=>(by rw[b7]at h0;cases h0),λi hi=>?_⟩;rw[b7]at hi;obtain rfl:i=n:=by simpa using hi
  exact wpOp_mono (λa2 w2 hw=>h2 a2 w2 hw) ha)
 rw[l1,show n+(1+((m-n-1)+(l.toArray.size-m)))=l.toArray.size by omega]at h1;exact h1
end
end Go.Loop
namespace Go.Proofs.YtlhimdjkkiflhaaGreatDoor
open Go.Proofs.Tryz
open Go.RowKit Go.Loop
theorem ky (w:World)(a b c:Obj):(((w.alloc a).alloc b).alloc c).drew.heap[w.heap.size+1+1]?=some c:=by
 show(((w.heap.push a).push b).push c)[w.heap.size+1+1]?=some c;have e:w.heap.size+1+1=((w.heap.push a).push b).size:=by simp
 rw[e,zbD]
theorem oo (w:World)(a b c:Obj):Below w.heap.size w (((w.alloc a).alloc b).alloc c).drew:=((((Below.refl _ w).alloc (zaa _) a).alloc (by simp) b).alloc (by simp;omega) c).drew
theorem dK (w:World)(a b c:Obj):(((w.alloc a).alloc b).alloc c).drew.heap.size=w.heap.size+1+1+1:=by
 show(((w.heap.push a).push b).push c).size=_;simp
theorem eI (n:Nat):n≤n+1+1:=by omega
theorem bt {w w0:World}{b:Nat}{t:TypeId}(h:w.heap[b]?=w0.heap[b]?)(h0:w0.heap[b]?=some (.cells #[.int .i64 0,.int .i64 0] t)):w.cell? ⟨b,0,none⟩=some (.int .i64 0)∧w.cell? ⟨b,1,none⟩=some (.int .i64 0)∧w.frozen? ⟨b,0,none⟩=false∧w.frozen? ⟨b,1,none⟩=false:=by
 rw[h0]at h;simp[World.cell?,World.frozen?,h]
theorem DY (a b:Int×Int)(w:World)(ha:qB a)(hb:qB b):Calls prog 229 #[qV a,qV b] w λe w'=>e=.returned (mJ (xC a b))∧Below w.heap.size w w':=by
 obtain⟨a1,a2⟩:=a;obtain⟨b1,b2⟩:=b;obtain⟨p1,p2,p3,p4⟩:=ha;obtain⟨q1,q2,q3,q4⟩:=hb;simp only at p1 p2 p3 p4 q1 q2 q3 q4;have m1:=oh p1 p2 (show -1000000≤b2 by omega) q4;have m2:=oh q1 q2 (show -1000000≤a2 by omega) p4;have m3:=oh (show -1000000≤a2 by omega) p4 (show -1000000≤b2 by omega) q4;have m4:1≤a2*b2:=by
  have:=Int.mul_le_mul p3 q3 (by omega) (by omega);omega
 have W1:Hid _:=λw=>iE a1 b2 w p1 p2 (by omega) q4;have W2:Hid _:=λw=>iE b1 a2 w q1 q2 (by omega) p4;have W3:Hid _:=λw=>iE a2 b2 w (by omega) p4 (by omega) q4;have HF:Hid _:=λw=>vo (a1*b2+b1*a2) (a2*b2) w (by omega) (by omega) m4 (by omega);unfold xC qV;dsimp only;generalize a1*b2=x at *;generalize b1*a2=y at *;generalize a2*b2=z at *;have hw:IntKind.i64.wrap (x+y)=x+y:=Go.IntWalk.i64_in _ ⟨by omega,by omega⟩;have mixed:prog.follows Departure.mixedOrders=true:=by kernel_rfl
 generalize tI (x+y) z=r at *;cases r with
 |none=>
  simp only[mJ]at HF ⊢;go_enter func229,ntmps229;go_wp2_with fail;refine jq 16 19 mixed (by kernel_rfl) ?_;simp only[zbx,List.take_zero,zaG,zaA];repeat first
   |still_step
   |still_call (W1.out _)
   |still_call (W2.out _)
   |still_call (W3.out _)
  refine wpStill_nil ?_;unfold wpOp;go_simp;refine .inl ?_;refine(HF.out _).mono ?_;rintro e w' ⟨rfl,hb⟩;obtain⟨c0,c1,f0,f1⟩:=bt (w:=w') (b:=w.heap.size+1+1) (hb.block (w.heap.size+1+1) (by rw[dK];omega)) (ky _ _ _ _);have HB:Hid (Below w.heap.size w w'):=(oo w _ _ _).trans (hb.mono (by rw[dK];omega));have hsz:Hid (w.heap.size+1+1<w'.heap.size):=by have:=hb.size;rw[dK]at this;show w.heap.size+1+1<w'.heap.size;omega
  clear hb;show wpStill _ _ _ _ _ _;repeat still_step
  refine wpStill_nil ?_;go_wp2_with fail;refine bodyPost_ret (by simp[results,results229,go_sem,c0,c1];rfl) rfl ?_;exact⟨rfl,(HB.out.setCell (eI _) _).setCell (eI _) _⟩
 |some r=>
  obtain⟨rn,rd⟩:=r;simp only[mJ,qV]at HF ⊢;go_enter func229,ntmps229;go_wp2_with fail;refine jq 16 19 mixed (by kernel_rfl) ?_;simp only[zbx,List.take_zero,zaG,zaA];repeat first
   |still_step
   |still_call (W1.out _)
   |still_call (W2.out _)
   |still_call (W3.out _)
  refine wpStill_nil ?_;unfold wpOp;go_simp;refine .inl ?_;refine(HF.out _).mono ?_;rintro e w' ⟨rfl,hb⟩;obtain⟨c0,c1,f0,f1⟩:=bt (w:=w') (b:=w.heap.size+1+1) (hb.block (w.heap.size+1+1) (by rw[dK];omega)) (ky _ _ _ _);have HB:Hid (Below w.heap.size w w'):=(oo w _ _ _).trans (hb.mono (by rw[dK];omega));have hsz:Hid (w.heap.size+1+1<w'.heap.size):=by have:=hb.size;rw[dK]at this;show w.heap.size+1+1<w'.heap.size;omega
  clear hb;show wpStill _ _ _ _ _ _;repeat still_step
  refine wpStill_nil ?_;go_wp2_with fail;refine bodyPost_ret (by simp[results,results229,go_sem,c0,c1];rfl) rfl ?_;exact⟨rfl,(HB.out.setCell (eI _) _).setCell (eI _) _⟩
end Go.Proofs.YtlhimdjkkiflhaaGreatDoor
