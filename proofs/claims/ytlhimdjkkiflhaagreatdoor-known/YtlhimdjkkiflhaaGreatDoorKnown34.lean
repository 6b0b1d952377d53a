import Derived.Test.YtlhimdjkkiflhaaGreatDoorKnown33
set_option maxHeartbeats 8000000
set_option maxRecDepth 100000
namespace Go.Proofs.YtlhimdjkkiflhaaGreatDoor
open Go.Proofs.Tryz
open Go.RowKit Go.Loop
theorem GM:(prog.info? 255).map (λi=>(i.zero,i.size,i.bytes))=some (some (.agg #[.int .i64 0,.int .i64 0]),2,16):=by kernel_rfl
theorem Lh (n:Nat)(hn:n≤1000)(w:World):(Instr.makeSlice 162 (.int .i64 (n:Int)) (.int .i64 (n:Int))).run prog w=.ok (.slice (some ⟨w.heap.size,0,none⟩) n n) (w.alloc (.cells (madeCells #[.nilIface] n) 58)):=
 run_make_row' (P:=prog) 162 58 .nilIface 16 underlying162 lT rfl .i64 .i64 n (by omega) (by omega) w
theorem Em (n:Nat)(hn:n≤1000)(w:World):(Instr.makeSlice 251 (.int .i64 (n:Int)) (.int .i64 (n:Int))).run prog w=.ok (.slice (some ⟨w.heap.size,0,none⟩) n n) (w.alloc (.cells (madeCells #[.int .i64 0,.int .i64 0] (n*2)) 255)):=by
 obtain⟨i,hi,hzz⟩:=zai.1 GM;simp only[zab]at hzz;obtain⟨hz,hs,hb⟩:=hzz;have h:=run_make (P:=prog) w 251 255 i _ underlying251 hi hz .i64 .i64 (n:Int) (n:Int) (by omega) (Int.le_refl _) (by rw[hb];omega) (by omega);rw[h,hs];rfl
theorem Li (n:Nat):madeCells #[.nilIface] n=(List.replicate n Value.nilIface).toArray:=by
 rw[←toList_madeCells_one]
theorem En (n:Nat):madeCells #[.int .i64 0,.int .i64 0] (n*2)=(List.replicate (n*2) (Value.int .i64 0)).toArray:=by
 apply Array.ext';apply List.ext_getElem?
 intro j;by_cases hj:j<n*2
 ·have:j%2=0∨j%2=1:=by omega
  rcases this with h|h<;>simp[madeCells,hj,h]
 ·simp[madeCells,hj]
theorem oy {w:World}{base n c:Nat}{e:TypeId}{a:Option Addr}{xs:List Value}(h:w.ownsRow base e 1 (.slice a n c) n xs)(k:Nat)(hk:k<xs.length):∃g cs t,a=some ⟨g,0,none⟩∧w.cell? ⟨g,k,none⟩=some xs[k]∧base≤g∧w.heap[g]?=some (.cells cs t (0,0)):=by
 have hl:xs.length=n*1:=h.1;rcases h.2 with⟨h1,h2⟩|⟨g,cap,cur,h1,h2,h3,h4⟩
 ·omega
 ·cases h1;refine⟨g,cur,_,rfl,?_,h2,h3⟩;have:=h.cells (g:=g) rfl k xs[k] (zaf hk);cases k with
  |zero=>exact this
  |succ k=>simpa[Addr.add]using this
theorem mN {w:World}{b:Nat}{us zs:List Value}{z v:Value}{t:TypeId}(h:w.heap[b]?=some (.cells (us++z::zs).toArray t (0,0))):(w.setCell ⟨b,us.length,none⟩ v).heap[b]?=some (.cells (us++[v]++zs).toArray t (0,0))∧w.cell? ⟨b,us.length,none⟩=some z∧w.frozen? ⟨b,us.length,none⟩=false:=by
 refine⟨?_,by simp[World.cell?,h],by simp[World.frozen?,h]⟩;simp[World.setCell,Array.getElem?_modify,h]
theorem Kp.put {R M:Nat}{w w1:World}(h:Kp R M w w1){a:Addr}(ha:w.heap.size≤a.block)(v:Value):Kp R M w (w1.setCell a v):=⟨h.os,h.tape,h.output,by simpa using h.size,λb hb h1 h2=>(Below.heap_setCell _ _ _ b (by omega)).trans (h.block b hb h1 h2)⟩
theorem Kp.grow {R M:Nat}{w w1:World}(h:Kp R M w w1)(o:Obj):Kp R M w (w1.alloc o):=h.trans (Kp.ay ((Below.refl _ w1).alloc (zaa _) o))
theorem xM:∀q:List (Int×Int),(eK q).length=q.length*2
 |[]=>rfl
 |p::q=>by
  have:=xM q;simp only[eK,List.flatMap_cons,zaL,zat,List.length_nil]at this ⊢;omega
theorem Eo (q:List (Int×Int))(a b:Int):eK (q++[(a,b)])=eK q++[.int .i64 a]++[.int .i64 b]:=by
 simp[eK]
theorem Ep {w:World}{C k:Nat}{q:List (Int×Int)}{zs:List Value}{z z':Value}{t:TypeId}(a b:Int)(hk:q.length=k)(h:w.heap[C]?=some (.cells (eK q++z::z'::zs).toArray t (0,0))):((w.setCell ⟨C,k*2,none⟩ (.int .i64 a)).setCell ⟨C,k*2+1,none⟩ (.int .i64 b)).heap[C]?=some (.cells (eK (q++[(a,b)])++zs).toArray t (0,0))∧w.cell? ⟨C,k*2,none⟩=some z∧w.cell? ⟨C,k*2+1,none⟩=some z'∧w.frozen? ⟨C,k*2,none⟩=false∧w.frozen? ⟨C,k*2+1,none⟩=false:=by
 obtain⟨s1,s2,s3⟩:=mN (v:= .int .i64 a) h;have h':=h;rw[show eK q++z::z'::zs=(eK q++[z])++z'::zs by simp]at h';obtain⟨-,s4,s5⟩:=mN (v:= .int .i64 b) h';obtain⟨s6,-,-⟩:=mN (v:= .int .i64 b) s1;simp only[zaL,zat,List.length_nil,xM,hk]at s1 s2 s3 s4 s5 s6;rw[Eo];exact⟨s6,s2,s4,s3,s5⟩
def Er:Int ⊕ List (Int×Int)→Ending→World→Prop
 |.inl er,e,_=>e=.returned (.tuple #[.slice none 0 0,.int .i64 er])
 |.inr q,e,w'=>∃b,e=.returned (.tuple #[.slice (some ⟨b,0,none⟩) q.length q.length,.int .i64 0])∧w'.heap[b]?=some (.cells (eK q).toArray 255)
section
variable {lo K:Nat}{L:List Int}{w0:World}{E:Env}{root:Dt}{R M:Nat}
theorem Bw {f:Dt→Option (Int ⊕ Dt)}(ih:OW w0 lo K L E root R M f)(rV:∀d e,f d=some (.inl e)→e≠0)(w:World)(kn:List (Nat×Value))(hA:fA w0 lo K L E root R M w kn)(held:List Dt)(vs:List Value)(base:Nat)(a:Option Addr)(c:Nat)(hrow:w.ownsRow base 58 1 (.slice a vs.length c) vs.length vs)(V0:tM lo K L w0 E held vs)(hlen:held.length<900)(gU:∀x∈held,x∈aI root)(r:Int ⊕ List (Int×Int))(hr:dZ f held=some r):Calls prog 178 #[au R,.slice a vs.length c] w λe w'=>Er r e w'∧Kp M M w w'∧∃tN,fA w0 lo K L E root R M w' tN:=by
 have K7:=V0.1;have PX:=Lh vs.length (by omega) w;rw[Li]at PX;have HI:Hid _:=ih;have P8:Hid _:=rV;have ES:Hid _:=hrow;have vg:Hid _:=V0;have Xw:Hid _:=gU;have HR:Hid _:=hr;have rG:Hid (Kp M M w (w.alloc (.cells (List.replicate vs.length Value.nilIface).toArray 58))):=Kp.ay ((Below.refl _ w).alloc (zaa _) _);have F9:Hid _:=hA.below ((Below.refl _ w).alloc (zaa _) (.cells (List.replicate vs.length Value.nilIface).toArray 58));have HH0:Hid _:=heap_alloc_new w (.cells (List.replicate vs.length Value.nilIface).toArray 58);have hRM:R<w.heap.size∧M<w.heap.size∧w0.heap.size≤w.heap.size:=⟨hA.lt.1,hA.lt.2,hA.low.size⟩;obtain⟨hR,hM,hW0⟩:=hRM;have VG:Hid (∃es ck,w.heap[M]?=some (.map es ck)):=by obtain⟨es,ck,h1,-⟩:=hA.mp;exact⟨es,ck,h1⟩
 clear ih rV hrow V0 gU hr hA;unfold au;go_enter func178,ntmps178;go_wp2_with fail;clear PX;go_loopw [21] (λi wr=>∃(k:Nat) (rs:List Dt) (us:List Value) (XE:List (Nat×Value)),k≤vs.length∧i=.int .i64 k∧rs.length=k∧Hid (nh f rs (held.drop k)=nh f [] held)∧Hid (tM lo K L w0 E rs us∧∀x∈rs,x.hd=true)∧Hid (wr.heap[w.heap.size]?=some (.cells (us++List.replicate (vs.length-k) Value.nilIface).toArray 58))∧Hid (Kp M M w wr)∧Hid (fA w0 lo K L E root R M wr XE)) (λi _=>vs.length-(intOf i).toNat)
 case atStart=>exact⟨0,[],[],kn,zah _,rfl,rfl,rfl,⟨⟨rfl,λj d x h1 h2=>by simp at h1⟩,λx h=>by cases h⟩,HH0.out,rG.out,F9.out⟩
 case round=>
  obtain⟨k,rs,us,XE,hk,rfl,R9,HF,HU,HB,HK,HA⟩:=hrel;have huk:us.length=k:=by rw[←HU.out.1.1,R9]
  by_cases hlt:k<vs.length
  ·obtain⟨g,cs,tg,rfl,hcell,-,hgb⟩:=oy ES.out k hlt;have hgM:g≠M:=by
    rintro rfl;obtain⟨es,ck,h1⟩:=VG.out;rw[hgb]at h1;cases h1
   have E9:g<w.heap.size:=(zac.1 hgb).1;have hc:wr.cell? ⟨g,k,none⟩=some vs[k]:=by
    rw[←hcell];unfold World.cell?
    rw[HK.out.block g E9 hgM hgM]
   obtain⟨x,hx⟩:∃x,x=held[k]'(by omega):=⟨_,rfl⟩;have Ed:ba lo K L w0 E x vs[k]:=vg.out.2 k x vs[k] (by rw[hx];exact zaf (by omega)) (zaf hlt);have hsx:x∈aI root:=by rw[hx];exact Xw.out _ (zaC _)
   have uo:held.drop k=x::held.drop (k+1):=by rw[hx];exact zba (by omega)
   have OM:Hid _:=HF.out;rw[uo,nh]at OM;have ago:g<wr.heap.size:=by have:=HK.out.size;omega
   obtain⟨vk,XF⟩:∃vk,vk=vs[k]:=⟨_,rfl⟩;rw[←XF]at hc Ed;obtain⟨tx,yx,rfl⟩:=bF Ed;cases S3:f x with
   |none=>
    rw[S3]at OM;have:=HR.out;unfold dZ at this;rw[←OM.out]at this;cases this
   |some s=>
    rw[S3]at OM;have HC:Hid _:=HI.out x _ wr XE s Ed hsx HA.out S3;clear Ed hsx uo hx XF hcell hgb;unfold au at HC;cases s with
    |inl er=>
     have hne:(er != 0)=true:=by simpa using P8.out _ _ S3
     have oZ:r=.inl er:=by
      have:=HR.out;unfold dZ at this;rw[←OM.out]at this;cases this;rfl
     subst oZ;clear S3;go_wp2_with fail;refine Calls.mono HC.out ?_;rintro e w1 ⟨rfl,uG,OZ,pW⟩;have HZ:Hid (Kp M M w w1∧∃tN,fA w0 lo K L E root R M w1 tN):=⟨Kp.trans HK.out uG,OZ,pW⟩;clear uG pW HC;go_wp2_with fail;go_ret2;exact⟨rfl,HZ.out⟩
    |inr y=>
     clear S3;go_wp2_with fail;refine Calls.mono HC.out ?_;rintro e w1 ⟨⟨vy,rfl,hvy,hyh⟩,uG,OZ,pW⟩;obtain⟨ty,yy,rfl⟩:=bF hvy;have HVY:Hid _:=hvy;have xW:Hid _:=Kp.trans HK.out uG;have HA2:Hid _:=pW;have zK:w.heap.size<wr.heap.size:=(zac.1 HB.out).1;have hb1:=(uG.block w.heap.size zK (by omega) (by omega)).trans HB.out;rw[show vs.length-k=(vs.length-(k+1))+1 by omega,zbz]at hb1;obtain⟨s1,s2,s3⟩:=mN (v:= .iface ty yy) hb1;rw[huk]at s1 s2 s3;have OQ:Hid _:=s1;have S1:w.heap.size<w1.heap.size:=(zac.1 hb1).1;clear hvy uG pW HC s1 hb1;go_wp2_with fail;go_roundw
     case rel=>
      refine⟨k+1,rs++[y],us++[Value.iface ty yy],OZ,by omega,by go_num,by simp[R9],OM.out,⟨HU.out.1.snoc HVY.out,λx hx=>(zaM.1 hx).elim (HU.out.2 x) λh=>by rw[zbC]at h;subst h;exact hyh⟩,OQ,?_,HA2.out.set _ hW0 (by show w.heap.size≠R;omega) (by show w.heap.size≠M;omega)⟩;exact xW.out.put (zaa _) _
     case measure=>simp[intOf];omega
  ·have Mf:k=vs.length:=by omega
   subst Mf;obtain⟨wq,hwq⟩:∃x,x=wr:=⟨wr,rfl⟩;subst hwq;have HRs:Hid (nh f [] held=some (.inr rs)):=by
    have:=HF.out;rw[zaQ (by omega)]at this;exact this.symm
   have aan:=Em vs.length (by omega) wq;rw[En]at aan;have zK:w.heap.size<wq.heap.size:=(zac.1 HB.out).1;have gN:Hid (wq.heap[w.heap.size]?=some (.cells us.toArray 58)):=by
    have:=HB.out;rw[Nat.sub_self,List.replicate_zero,List.append_nil]at this;exact this
   have HRR:Hid (some r=some (match tL [] rs with|none=> .inl 10|some q=> .inr q)):=by
    have:=HR.out;unfold dZ at this;rw[HRs.out]at this;exact this.symm
   clear HB HF HI P8 HR vg Xw HH0 F9 rG;go_wp2_with fail;clear aan;go_loopw [45] (λi wr=>∃(k:Nat) (qs:List (Int×Int)),k≤vs.length∧i=.int .i64 k∧qs.length=k∧Hid (tL qs (rs.drop k)=tL [] rs)∧Hid (wr.heap[wq.heap.size]?=some (.cells (eK qs++List.replicate ((vs.length-k)*2) (Value.int .i64 0)).toArray 255))∧Hid (wr.heap[w.heap.size]?=some (.cells us.toArray 58))∧Hid (Kp M M w wr)∧Hid (fA w0 lo K L E root R M wr XE)) (λi _=>vs.length-(intOf i).toNat)
   case atStart=>
    refine⟨0,[],zah _,rfl,rfl,rfl,heap_alloc_new wq _,?_,HK.out.grow _,HA.out.below ((Below.refl _ wq).alloc (zaa _) _)⟩;exact(Lib.alloc_old _ _ _ zK).trans gN.out
   case round=>
    obtain⟨k,qs,hk,rfl,hqk,HN,HC,gQ,lS,KH⟩:=hrel;by_cases Zd:k<vs.length
    ·have XD:k<us.length:=by omega
     have hkr:k<rs.length:=by omega
     obtain⟨x,hx⟩:∃x,x=rs[k]'hkr:=⟨_,rfl⟩;obtain⟨vk,XF⟩:∃vk,vk=us[k]'XD:=⟨_,rfl⟩;have Ed:ba lo K L w0 E x vk:=HU.out.1.2 k x vk (by rw[hx];exact zaf hkr) (by rw[XF];exact zaf XD);have hhx:x.hd=true:=by rw[hx];exact HU.out.2 _ (zaC _)
     have hc:wr.cell? ⟨w.heap.size,k,none⟩=some vk:=by
      have:=gQ.out;rw[XF];simp[World.cell?,this,XD]
     have hcs:wq.heap.size<wr.heap.size:=(zac.1 HC.out).1;have hN:=HN.out;rw[show rs.drop k=x::rs.drop (k+1) by rw[hx];exact zba hkr]at hN;clear hx XF;by_cases cr:∃a b,x=.num a b
     ·obtain⟨a1,b1,rfl⟩:=cr;have Zw:Hid (tL (qs++[(a1,b1)]) (rs.drop (k+1))=tL [] rs):=hN;unfold ba at Ed;subst Ed;have BO:(Instr.typeAssert (.iface 153 (.agg #[.int .i64 a1,.int .i64 b1])) 58 153 true).run prog wr=_:=bz wr r9;have hC:=HC.out;rw[show(vs.length-k)*2=(vs.length-(k+1))*2+1+1 by omega,zbz,zbz]at hC;obtain⟨OQ,z0,z1,z2,z3⟩:=Ep a1 b1 hqk hC;have HS:Hid _:=OQ;have hne:¬wq.heap.size=wr.heap.size:=by omega
      clear hN hC OQ;go_wp2_with fail;go_roundw
      case rel=>
       have hK4:=(lS.out.put (a:=⟨wq.heap.size,k*2,none⟩) (Nat.le_of_lt zK) (.int .i64 a1)).put (a:=⟨wq.heap.size,k*2+1,none⟩) (Nat.le_of_lt zK) (.int .i64 b1);have YG:=(KH.out.set (a:=⟨wq.heap.size,k*2,none⟩) (.int .i64 a1) (by show w0.heap.size≤wq.heap.size;omega) (by show wq.heap.size≠R;omega) (by show wq.heap.size≠M;omega)).set (a:=⟨wq.heap.size,k*2+1,none⟩) (.int .i64 b1) (by show w0.heap.size≤wq.heap.size;omega) (by show wq.heap.size≠R;omega) (by show wq.heap.size≠M;omega);refine⟨k+1,qs++[(a1,b1)],by omega,by go_num,by simp[hqk],Zw.out,(Lib.alloc_old _ _ _ (by simp;omega)).trans HS.out,?_,hK4.grow _,YG.below ((Below.refl _ _).alloc (zaa _) _)⟩;exact(Lib.alloc_old _ _ _ (by simp;omega)).trans ((Below.heap_setCell _ _ _ _ (by show w.heap.size≠wq.heap.size;omega)).trans ((Below.heap_setCell _ _ _ _ (by show w.heap.size≠wq.heap.size;omega)).trans gQ.out))
      case measure=>simp[intOf];omega
     ·have oZ:r=.inl 10:=by
       have h2:tL qs (x::rs.drop (k+1))=none:=by cases x<;>first|exact absurd ⟨_,_,rfl⟩ cr|rfl
       have h3:=HRR.out;rw[←hN,h2]at h3;cases h3;rfl
      subst oZ;have mn:qi x≠153:=by cases x<;>first|exact absurd ⟨_,_,rfl⟩ cr|simp[qi]
      obtain⟨yv,rfl⟩:=iG hhx Ed;have BO:(Instr.typeAssert (.iface (qi x) yv) 58 153 true).run prog wr=_:=ak wr r9 Bv mn;clear hN Ed hhx cr mn HRR;go_wp2_with fail;go_ret2;exact⟨rfl,lS.out.grow _,XE,KH.out.below ((Below.refl _ wr).alloc (zaa _) _)⟩
    ·have Mf:k=vs.length:=by omega
     have oZ:r=.inr qs:=by
      have h2:=HN.out;rw[zaQ (by omega)]at h2;have h3:=HRR.out;rw[←h2]at h3;cases h3;rfl
     subst oZ;have Sq:Hid (wr.heap[wq.heap.size]?=some (.cells (eK qs).toArray 255)):=by
      have:=HC.out;rw[Mf,Nat.sub_self,Nat.zero_mul,List.replicate_zero,List.append_nil]at this;exact this
     have HQL:Hid (vs.length=qs.length):=by show _=_;omega
     clear HN HRR HC Mf;go_wp2_with fail;go_ret2;exact⟨⟨wq.heap.size,by rw[HQL.out];rfl,Sq.out⟩,lS.out,XE,KH.out⟩
end
theorem GN:prog.underlying 155=some (.struct (prog.fieldsOf 155)):=by kernel_rfl
theorem Lj:prog.stoodInHeld 155=false:=by kernel_rfl
theorem zV:(prog.info? 155).map (λi=>i.comparable)=some true:=by kernel_rfl
theorem O0 (w:World){t:TypeId}(y:Value)(ht:t≠155):(binOp .eql 58 (.iface t y) (.iface 155 (.agg #[.int .i64 0]))).run prog w=.ok (.bool false) w:=by
 have h:∀d:Nat,(Op.equalIn (d+1) 58 (.iface t y) (.iface 155 (.agg #[.int .i64 0]))).run prog w=.ok false w:=λd=>by
  obtain⟨ms,OS⟩:=iV;simp[Op.equalIn,run_underlying OS,ht]
 simp only[binOp];simp[Op.equal,Op.maxDepth,h 9999]
theorem O1 (w:World)(a:Int):(binOp .eql 58 (.iface 155 (.agg #[.int .i64 a])) (.iface 155 (.agg #[.int .i64 0]))).run prog w=.ok (.bool (a==0)) w:=by
 cases hi:prog.info? 155 with
 |none=>have:=zV;rw[hi]at this;cases this
 |some i=>
  have hcc:i.comparable=true:=by have:=zV;rw[hi]at this;simpa using this
  have hs:∀d:Nat,(Op.equalIn (d+2) 155 (.agg #[.int .i64 a]) (.agg #[.int .i64 0])).run prog w=.ok (a==0) w:=λd=>by
   rw[run_equalIn_struct w (d+1) _ _ _ GN Lj];go_simp;by_cases h:a=0<;>simp[h]
  have h:∀d:Nat,(Op.equalIn (d+3) 58 (.iface 155 (.agg #[.int .i64 a])) (.iface 155 (.agg #[.int .i64 0]))).run prog w=.ok (a==0) w:=λd=>by
   obtain⟨ms,OS⟩:=iV;rw[Op.equalIn];simp[run_underlying OS,typeInfo,hi,hcc,hs d]
  simp only[binOp];simp[Op.equal,Op.maxDepth,h 9997]
section
variable {lo K:Nat}{L:List Int}{w0:World}{E:Env}{root:Dt}{R M:Nat}
theorem Sr (w:World){z:Dt}{v:Value}(hz:ba lo K L w0 E z v)(hh:z.hd=true):(binOp .eql 58 v (.iface 155 (.agg #[.int .i64 0]))).run prog w=.ok (.bool (decide (z=.cQ 0))) w:=by
 cases z with
 |cQ a=>
  unfold ba at hz;subst hz;rw[O1];by_cases h:a=0
  ·subst h;simp
  ·simp[h]
 |_=>
  obtain⟨y,rfl⟩:=iG hh hz;first
   |(rw[O0 w y (by simp[qi])];simp;done)
   |(simp[Dt.hd]at hh;done)
theorem Es {f:Dt→Option (Int ⊕ Dt)}(ih:OW w0 lo K L E root R M f)(rV:∀d e,f d=some (.inl e)→e≠0)(w:World)(kn:List (Nat×Value))(hA:fA w0 lo K L E root R M w kn)(c x y:Dt)(vc vx vy:Value)(hc:ba lo K L w0 E c vc)(hx:ba lo K L w0 E x vx)(hy:ba lo K L w0 E y vy)(sc:c∈aI root)(sx:x∈aI root)(sy:y∈aI root)(r:Int ⊕ Dt)(hr:kW f c x y=some r):Calls prog 177 #[au R,vc,vx,vy] w λe w'=>tO w0 lo K L E root R M w r e w':=by
 obtain⟨t1,y1,rfl⟩:=bF hc;obtain⟨t2,y2,rfl⟩:=bF hx;obtain⟨t3,y3,rfl⟩:=bF hy;unfold kW at hr;cases S0:f c with
 |none=>rw[S0]at hr;cases hr
 |some s=>
  rw[S0]at hr;have HC:Hid _:=ih c _ w kn s hc sc hA S0;unfold au at HC;cases s with
  |inl er=>
   have hne:(er != 0)=true:=by simpa using rV _ _ S0
   cases hr;clear ih rV hA hc hx hy S0 sc sx sy;unfold au;go_enter func177,ntmps177;go_wp2_with fail;refine Calls.mono HC.out ?_;rintro e w1 ⟨rfl,uG,OZ,pW⟩;have HZ:Hid (Kp M M w w1∧∃tN,fA w0 lo K L E root R M w1 tN):=⟨uG,OZ,pW⟩;clear uG pW HC;go_wp2_with fail;go_ret2;exact⟨rfl,HZ.out⟩
  |inr z=>
   have HI:Hid _:=ih;have HX:Hid (ba lo K L w0 E x (.iface t2 y2)∧x∈aI root∧ba lo K L w0 E y (.iface t3 y3)∧y∈aI root):=⟨hx,sx,hy,sy⟩;have HR:Hid ((if z=.cQ 0 then f y else f x)=some r):=hr;clear ih rV hA hc hx hy S0 sc sx sy hr;unfold au;go_enter func177,ntmps177;go_wp2_with fail;refine Calls.mono HC.out ?_;rintro e w1 ⟨⟨vz,rfl,hvz,hzh⟩,uG,OZ,pW⟩;have heq:=Sr w1 hvz hzh;obtain⟨t4,y4,rfl⟩:=bF hvz;have HK:Hid _:=uG;have HA:Hid _:=pW;clear uG pW HC hvz hzh;by_cases hz:z=.cQ 0
   ·have oZ:=HR.out;rw[if_pos hz]at oZ;have Sq:Hid _:=HI.out y _ w1 OZ r HX.out.2.2.1 HX.out.2.2.2 HA.out oZ;unfold au at Sq;rw[decide_eq_true hz]at heq;clear oZ hz;go_wp2_with fail;refine Calls.mono Sq.out ?_;rintro e w2 ⟨ho,hk2,GK,uZ⟩;have HZ:Hid (Kp M M w w2∧∃tN,fA w0 lo K L E root R M w2 tN):=⟨HK.out.trans hk2,GK,uZ⟩;clear Sq hk2 uZ heq;cases r with
    |inl er=>
     have Hs:=ho;unfold r7 at Hs;subst Hs;go_wp2_with fail;go_ret2;exact⟨rfl,HZ.out⟩
    |inr q=>
     obtain⟨v,rfl,hv,hh⟩:=ho;have HV:Hid _:=hv;obtain⟨t5,y5,rfl⟩:=bF hv;clear hv;go_wp2_with fail;go_ret2;exact⟨⟨_,rfl,HV.out,hh⟩,HZ.out⟩
   ·have oZ:=HR.out;rw[if_neg hz]at oZ;have Sq:Hid _:=HI.out x _ w1 OZ r HX.out.1 HX.out.2.1 HA.out oZ;unfold au at Sq;rw[decide_eq_false hz]at heq;clear oZ hz;go_wp2_with fail;refine Calls.mono Sq.out ?_;rintro e w2 ⟨ho,hk2,GK,uZ⟩;have HZ:Hid (Kp M M w w2∧∃tN,fA w0 lo K L E root R M w2 tN):=⟨HK.out.trans hk2,GK,uZ⟩;clear Sq hk2 uZ heq;cases r with
    |inl er=>
     have Hs:=ho;unfold r7 at Hs;subst Hs;go_wp2_with fail;go_ret2;exact⟨rfl,HZ.out⟩
    |inr q=>
     obtain⟨v,rfl,hv,hh⟩:=ho;have HV:Hid _:=hv;obtain⟨t5,y5,rfl⟩:=bF hv;clear hv;go_wp2_with fail;go_ret2;exact⟨⟨_,rfl,HV.out,hh⟩,HZ.out⟩
end
theorem GQ (q:List (Int×Int)):∀(i:Nat) (hi:i<q.length),(eK q)[i*2]?=some (.int .i64 q[i].1)∧(eK q)[i*2+1]?=some (.int .i64 q[i].2):=by
 induction q with
 |nil=>intro i hi;simp at hi
 |cons p q ih=>
  intro i hi;cases i with
  |zero=>simp[eK]
  |succ i=>
   have h:=ih i (by simpa using hi);have e1:(i+1)*2=i*2+1+1:=by omega
   rw[e1];simpa[eK]using h
theorem Et {w:World}{g o:Nat}{v:Value}(h:w.cell? ⟨g,o,none⟩=some v):g<w.heap.size:=by
 unfold World.cell? at h;cases hq:w.heap[g]? with
 |none=>simp[hq]at h
 |some x=>exact(zac.1 hq).1
section
variable {lo K:Nat}{L:List Int}{w0:World}{E:Env}{root:Dt}{R M:Nat}
theorem tM.at {ds:List Dt}{vs:List Value}(h:tM lo K L w0 E ds vs)(k:Nat)(hk:k<vs.length):ba lo K L w0 E (ds.getD k .nil) vs[k]:=by
 have hl:=h.1;refine h.2 k _ _ ?_ (zaf hk);rw[List.getD_eq_getElem?_getD,zaf (by omega)];rfl
theorem GU (hG:Sl w0 lo K L E root){f:Dt→Option (Int ⊕ Dt)}(ih:OW w0 lo K L E root R M f)(rV:∀d e,f d=some (.inl e)→e≠0)(cr:∀d,d∈aI root→∀x,f d=some (.inr x)→P6 root x)(w:World)(kn:List (Nat×Value))(hA:fA w0 lo K L E root R M w kn)(i:Nat)(a b:Dt)(hs: .pair i a b∈aI root)(v:Value)(hd:ba lo K L w0 E (.pair i a b) v)(r:Int ⊕ Dt)(hr:l6 root f a b=some r):Calls prog 129 #[au R,au (E.α i)] w λe w'=>tO w0 lo K L E root R M w r e w':=by
 have mixed:prog.follows Departure.mixedOrders=true:=by kernel_rfl
 unfold ba at hd;obtain⟨hK,Ih,rfl,va,vb,hblk,KD,PY⟩:=hd;unfold l6 at hr;cases hp:qh root a b with
 |none=>rw[hp]at hr;cases hr
 |some s=>
  rw[hp]at hr;have HP:Hid _:=K6 hG w hA.low i a b hs va vb hblk KD PY s hp;have HA:Hid _:=hA;cases s with
  |none=>
   cases hr;clear hG ih rV cr hA hs Ih hblk KD PY hp mixed;unfold au at *;go_enter func129,ntmps129;go_wp2_with fail;refine Calls.mono HP.out ?_;rintro e w1 ⟨rfl,hb⟩;have HB:Hid _:=hb;clear HP hb;go_wp2_with fail;go_ret2;exact⟨rfl,Kp.ay HB.out,kn,HA.out.below HB.out⟩
  |some p=>
   obtain⟨h,held⟩:=p;simp only at hr;obtain⟨hlen,gU⟩:=zQ hG.good (cX (by simp[aI,sub_self]) hs) hp;have P9:Hid (∀x∈held,x∈aI root):=gU;have HCn:Hid _:=λw=>Sg h held.length w (by omega);have HG:Hid _:=hG;have HI:Hid _:=ih;have P8:Hid _:=rV;have Ty:Hid _:=cr;have HR:Hid _:=hr;clear hG ih rV cr hA hs Ih hblk KD PY hp gU hr;unfold au at *;go_enter func129,ntmps129;go_wp2_with fail;refine Calls.mono HP.out ?_;rintro e w1 ⟨⟨sl,vs,rfl,hrow,V0⟩,hb⟩;obtain⟨sa,sc,rfl⟩:=bh hrow;have K7:held.length=vs.length:=V0.1;have ES:Hid _:=hrow;have vg:Hid _:=V0;have HB:Hid _:=hb;have N1:Hid _:=HA.out.below hb;rw[K7]at HCn HR;clear HP hb hrow V0 HA;go_wp2_with fail;refine Calls.mono (HCn.out _) ?_;rintro e w2 ⟨rfl,rfl⟩;clear HCn;by_cases Ll:fy h vs.length=false
   ·rw[Ll];have oZ:r=.inl 10:=by have:=HR.out;rw[if_pos Ll]at this;cases this;rfl
    subst oZ;clear Ll HR;go_wp2_with fail;go_ret2;exact⟨rfl,Kp.ay HB.out,kn,N1.out⟩
   ·have se:fy h vs.length=true:=by simpa using Ll
    rw[se];have kK:Hid _:=HR.out;rw[if_neg Ll]at kK;clear HR Ll;by_cases hq:h=bS
    ·subst hq;have Ie:=zR se;obtain⟨v0,rfl⟩:∃v0,vs=[v0]:=List.length_eq_one_iff.1 Ie;obtain⟨g,cs,tg,rfl,hcell,-,-⟩:=oy ES.out 0 (by simp);have MX:=tM.at vg.out 0 (by simp);simp only[List.getElem_cons_zero]at hcell MX;obtain⟨hm,zB,-⟩:=HG.out.meant N1.out.low MX (P9.out _ (kD (by rw[K7];simp)));have oZ:r=.inr (bR root 200000 (held.getD 0 .nil)):=by have:=kK.out;rw[if_pos rfl]at this;cases this;rfl
     subst oZ;have HM:Hid _:=hm;obtain⟨t0,y0,rfl⟩:=bF MX;have E9:g<w2.heap.size:=Et hcell;clear hm MX ES vg P9 HG HI P8 Ty kK se Ie K7 hlen;go_wp2_with fail;refine Calls.mono HM.out ?_;rintro e w3 ⟨v',rfl,rfl,hv'⟩;obtain⟨t5,y5,rfl⟩:=bF hv';have HV:Hid _:=hv';clear hv' HM hcell;go_wp2_with fail;go_ret2;exact⟨⟨_,rfl,HV.out,zB⟩,Kp.ay HB.out,kn,N1.out⟩
    ·have fq:(h==[113,117,111,116,101])=false:=by simpa[bS]using hq
     rw[if_neg hq]at kK;by_cases hi:h=oq
     ·subst hi;rw[if_pos rfl]at kK;have hv3:=OY se;obtain⟨v0,v1,v2,rfl⟩:∃v0 v1 v2,vs=[v0,v1,v2]:=by
       match vs,hv3 with
       |[a,b,c],_=>exact⟨a,b,c,rfl⟩
      obtain⟨g,cs,tg,rfl,c0,-,-⟩:=oy ES.out 0 (by simp);obtain⟨g1,_,_,e1,c1,-,-⟩:=oy ES.out 1 (by simp);obtain⟨g2,_,_,e2,c2,-,-⟩:=oy ES.out 2 (by simp);cases e1;cases e2;have d0:=tM.at vg.out 0 (by simp);have d1:=tM.at vg.out 1 (by simp);have d2:=tM.at vg.out 2 (by simp);simp only[List.getElem_cons_zero,List.getElem_cons_succ]at c0 c1 c2 d0 d1 d2;have HC:Hid _:=Es HI.out P8.out w2.drew kn (N1.out.below (Below.refl _ w2).drew) _ _ _ _ _ _ d0 d1 d2 (P9.out _ (kD (by rw[K7];simp))) (P9.out _ (kD (by rw[K7];simp))) (P9.out _ (kD (by rw[K7];simp))) r kK.out;obtain⟨t0,y0,rfl⟩:=bF d0;obtain⟨t1,y1,rfl⟩:=bF d1;obtain⟨t2,y2,rfl⟩:=bF d2;have E9:g<w2.heap.size:=Et c0;clear d0 d1 d2 ES vg P9 HG HI P8 Ty kK se hv3 K7 hlen fq hq;unfold au at HC;go_wp2_with fail;refine jq 10 13 mixed (by kernel_rfl) ?_;simp only[zbx,List.take_zero,zaG,zaA];repeat still_step
      refine wpStill_nil ?_;unfold wpOp;go_simp;refine .inl ?_;refine Calls.mono HC.out ?_;rintro e w3 ⟨ho,hk3,GK,uZ⟩;have HZ:Hid (Kp M M w w3∧∃tN,fA w0 lo K L E root R M w3 tN):=⟨(Kp.ay HB.out.drew).trans hk3,GK,uZ⟩;clear HC hk3 uZ HB N1 c0 c1 c2 E9;cases r with
      |inl er=>
       unfold r7 at ho;subst ho;show wpStill _ _ _ _ _ _;repeat still_step
       refine wpStill_nil ?_;go_wp2_with fail;go_ret2;exact⟨rfl,HZ.out⟩
      |inr x=>
       obtain⟨v',rfl,hv',Tg⟩:=ho;have HV:Hid _:=hv';obtain⟨t5,y5,rfl⟩:=bF hv';clear hv';show wpStill _ _ _ _ _ _;repeat still_step
       refine wpStill_nil ?_;go_wp2_with fail;go_ret2;exact⟨⟨_,rfl,HV.out,Tg⟩,HZ.out⟩
     ·have fi:(h==[105,102])=false:=by simpa[oq]using hi
      rw[if_neg hi]at kK;cases hn:dZ f held with
      |none=>have:=kK.out;rw[hn]at this;cases this
      |some s=>
       rw[hn]at kK;have HC:Hid _:=Bw HI.out P8.out w2 kn N1.out held vs w.heap.size sa sc ES.out vg.out hlen P9.out s hn;have HNQ:Hid _:=hn;clear ES vg HG HI hn hq hi;unfold au at HC;go_wp2_with fail;refine Calls.mono HC.out ?_;rintro e w3 ⟨ho,hk3,GK,uZ⟩;have HK:Hid _:=(Kp.ay HB.out).trans hk3;have KH:Hid _:=uZ;clear HC hk3 uZ HB N1 fq fi;cases s with
       |inl er=>
        have hne:(er != 0)=true:=by simpa using r8 P8.out HNQ.out
        have oZ:r=.inl er:=by have:=kK.out;cases this;rfl
        subst oZ;unfold Er at ho;subst ho;clear P8 Ty HNQ P9 kK se K7;go_wp2_with fail;go_ret2;exact⟨rfl,HK.out,GK,KH.out⟩
       |inr q=>
        obtain⟨b,rfl,hblk⟩:=ho;obtain⟨Rh,hql⟩:=uq Ty.out P9.out HNQ.out;have oZ:r=rX h q:=by have:=kK.out;cases this;rfl
        have hbl:b<w3.heap.size:=(zac.1 hblk).1;clear P8 Ty HNQ P9 kK;by_cases hh:h=[61]∨h=[60]
        ·have hv2:=VY hh se;obtain⟨⟨a1,a2⟩,⟨b1,b2⟩,rfl⟩:∃p p',q=[p,p']:=by
          match q,hql.trans (K7.trans hv2)with
          |[p,p'],_=>exact⟨p,p',rfl⟩
         have ca:=Bp h (a1,a2) (b1,b2);have HCm:Hid _:=λw=>ca w (Rh _ (by simp)) (Rh _ (by simp));have Eu:rX h [(a1,a2),(b1,b2)]=.inr (.cQ (if dS h (a1,a2) (b1,b2)then 1 else 0)):=by
          unfold rX;rw[if_pos hh];rfl
         rw[Eu]at oZ;subst oZ;have z0:w3.cell? ⟨b,0,none⟩=some (.int .i64 a1):=by simp[World.cell?,hblk,eK]
         have z1:w3.cell? ⟨b,1,none⟩=some (.int .i64 a2):=by simp[World.cell?,hblk,eK]
         have z2:w3.cell? ⟨b,2,none⟩=some (.int .i64 b1):=by simp[World.cell?,hblk,eK]
         have z3:w3.cell? ⟨b,3,none⟩=some (.int .i64 b2):=by simp[World.cell?,hblk,eK]
         clear ca Rh hql se hv2 K7 Eu hblk hlen;unfold qV at HCm;rcases hh with rfl|rfl
         all_goals
          go_wp2_with fail;refine jq 7 8 mixed (by kernel_rfl) ?_;simp only[zbx,List.take_zero,zaG,zaA];repeat still_step
          refine wpStill_nil ?_;unfold wpOp;go_simp;refine .inl ?_;refine Calls.mono (HCm.out _) ?_;rintro e w4 ⟨rfl,hb4⟩;have HZ:Hid (Kp M M w w4∧fA w0 lo K L E root R M w4 GK):=⟨HK.out.trans (Kp.ay ((Below.refl _ w3).drew.trans hb4)),KH.out.below ((Below.refl _ w3).drew.trans hb4)⟩;clear hb4 HCm HK KH z0 z1 z2 z3;unfold OV;show wpStill _ _ _ _ _ _;repeat still_step
          refine wpStill_nil ?_;go_wp2_with fail;all_goals
           go_ret2;exact⟨⟨_,rfl,rfl,rfl⟩,HZ.out.1,GK,HZ.out.2⟩
        ·have f1:(h==[61])=false:=by simpa using λe=>hh (.inl e)
         have f2:(h==[60])=false:=by simpa using λe=>hh (.inr e)
         have Eu:rX h q=match eJ h q with|.inl e=> .inl e|.inr p=> .inr (.num p.1 p.2):=by
          unfold rX;rw[if_neg hh];cases eJ h q<;>rfl
         have TW:Hid _:=K3 h q b 0 q.length w3 (by omega) (zaa _) Rh λj hj=>by
          have:=GQ q j hj;rw[Nat.zero_add];constructor
          ·simp[World.cell?,hblk,this.1]
          ·simp[World.cell?,hblk,this.2]
         clear Rh hql se K7 hblk hlen hh;rw[Eu]at oZ;clear Eu;cases htq:eJ h q with
         |inl er=>
          rw[htq]at TW oZ;subst oZ;unfold GC at TW;go_wp2_with fail;refine Calls.mono TW.out ?_;rintro e w4 ⟨rfl,hb4⟩;have HZ:Hid (Kp M M w w4∧fA w0 lo K L E root R M w4 GK):=⟨HK.out.trans (Kp.ay hb4),KH.out.below hb4⟩;clear hb4 TW HK KH;go_wp2_with fail;go_ret2;exact⟨rfl,HZ.out.1,GK,HZ.out.2⟩
         |inr p=>
          rw[htq]at TW oZ;subst oZ;unfold GC at TW;go_wp2_with fail;refine Calls.mono TW.out ?_;rintro e w4 ⟨rfl,hb4⟩;have HZ:Hid (Kp M M w w4∧fA w0 lo K L E root R M w4 GK):=⟨HK.out.trans (Kp.ay hb4),KH.out.below hb4⟩;clear hb4 TW HK KH;go_wp2_with fail;go_ret2;exact⟨⟨_,rfl,rfl,rfl⟩,HZ.out.1,GK,HZ.out.2⟩
end
section
variable {lo K:Nat}{L:List Int}{w0:World}{E:Env}{root:Dt}{R M:Nat}
theorem O2 (hG:Sl w0 lo K L E root):∀n:Nat,OW w0 lo K L E root R M (λx=>rY root n x)
 |0=>λd v w kn r _ _ _ hr=>by simp[rY]at hr
 |n+1=>El hG n λw kn i a b r hA hs hd hr=>by
  obtain⟨v,hd⟩:=hd;have hd':=hd;unfold ba at hd';obtain⟨hK,-,-,va,vb,hblk,-,-⟩:=hd';exact Lf hG n w kn hA i a b hs hK ⟨_,hblk⟩ r hr (GU hG (O2 hG n) (Bu n) (GI hG.good hG.pairs n) w kn hA i a b hs v hd r hr)
theorem Bx (w:World)(v:Value)(hd:ba lo K L w E root v)(bY:bn root root=true)(lV:∀i j,i<K→j<K→E.α i=E.α j→i=j)(xN:lq root=true)(n:Nat)(r:Int ⊕ Dt)(hr:rY root n root=some r):Calls prog 29 #[v] w λe w'=>r7 lo K L w E r e∧Below w.heap.size w w':=by
 have hG:Sl w lo K L E root:=⟨⟨v,hd⟩,bY,lV,xN⟩;have hA:fA w lo K L E root (w.heap.size+1) w.heap.size ((w.alloc (.map #[] 0)).alloc (.cells #[.map (some w.heap.size)] 96)) []:=by
  refine⟨((Below.refl _ w).alloc (zaa _) _).alloc (by simp) _,by omega,zaa _,by omega,cO w _ _,⟨#[],0,(Lib.alloc_old _ _ _ (by simp)).trans (heap_alloc_new w _),rfl⟩,λp hp=>by cases hp⟩
 have HC:Hid _:=O2 hG n root v _ [] r hd (sub_self _) hA hr;have PX:(Instr.makeMap 94 none).run prog w=.ok (.map (some w.heap.size)) (w.alloc (.map #[] 0)):=rfl;obtain⟨t,y,rfl⟩:=bF hd;clear hG hA hd bY lV xN hr;unfold au at HC;go_enter func29,ntmps29;go_wp2_with fail;refine Calls.mono HC.out ?_;rintro e w1 ⟨ho,uG,OZ,pW⟩;have HB:Hid _:=pW.low;clear HC PX uG pW;cases r with
 |inl er=>
  unfold r7 at ho;subst ho;go_wp2_with fail;go_ret2;exact⟨rfl,HB.out⟩
 |inr x=>
  obtain⟨v,rfl,hv,hh⟩:=ho;have HV:Hid _:=hv;obtain⟨t5,y5,rfl⟩:=bF hv;clear hv;go_wp2_with fail;go_ret2;exact⟨⟨_,rfl,HV.out,hh⟩,HB.out⟩
end
def oz (s:List UInt8)(a:Nat):Bool:=(rB true (s.drop a)).2&&decide (a+(rB true (s.drop a)).1=s.length)
theorem Ev (s:List UInt8)(a:Nat)(w:World)(hs:s.length≤1000000)(ha:a≤s.length):Calls prog 26 #[.string ⟨⟨s⟩⟩,.int .i64 a] w λe w'=>e=.returned (.bool (oz s a))∧w'=w:=by
 have HS:Hid _:=iv ⟨⟨s⟩⟩ a w hs ha;unfold oz;generalize rB true (s.drop a)=q at *;obtain⟨n,b⟩:=q;go_enter func26,ntmps26;go_wp2_with fail;refine Calls.mono HS.out ?_;rintro e w1 ⟨rfl,rfl⟩;clear HS;cases b with
 |false=>
  go_wp2_with fail;go_ret;exact⟨rfl,rfl⟩
 |true=>
  go_wp2_with fail;go_ret;refine⟨az ?_,rfl⟩;rw[zbo,zar];simp;omega
theorem GX {lo K:Nat}{L:List Int}{E:Env}(w:World)(root:Dt)(rv:Value)(nX:ba lo K L w E root rv)(bY:bn root root=true)(d:Dt)(v:Value)(hd:ba lo K L w E d v)(hgd:bn root d=true)(lV:∀i j,i<K→j<K→E.α i=E.α j→i=j)(f:Nat)(k:Nat)(g':mU)(cr:lR root f d ⟨[],[]⟩=some (k,g'))(hlen:g'.nodes.length≤999999):Calls prog 30 #[v] w λe w'=>∃nv bu,e=.returned nv∧bC w' w.heap.size nv bu g'.nodes∧Below w.heap.size w w':=by
 obtain⟨κ,Tv⟩:=uj w E;have hgr:kR w lo K L κ E root:=⟨⟨rv,nX⟩,bY,lV,λi h _ hh=>Tv i h hh⟩;have hb2:Below w.heap.size w ((w.alloc (.map #[] 0)).alloc (.cells #[.slice none 0 0,.map (some w.heap.size)] 100)):=((Below.refl _ w).alloc (zaa _) _).alloc (by simp) _;have hG:dI w ((w.alloc (.map #[] 0)).alloc (.cells #[.slice none 0 0,.map (some w.heap.size)] 100)) (w.heap.size+1) w.heap.size κ E ⟨[],[]⟩ [] (.slice none 0 0):=
  ⟨by omega,by omega,zaa _,hb2,cO w _ _,World.ownsRow_nil _ _ _ _,⟨#[],0,(Lib.alloc_old _ _ _ (by simp)).trans (heap_alloc_new w _),rfl⟩,rfl,λj x sv h=>(by simp at h)⟩
 have HN:Hid _:=xo hgr f f (zaa _) d v _ ⟨[],[]⟩ [] (.slice none 0 0) k g' hd hgd hG ⟨λp hp=>(by cases hp),List.nodup_nil⟩ cr hlen;have PX:(Instr.makeMap 98 none).run prog w=.ok (.map (some w.heap.size)) (w.alloc (.map #[] 0)):=rfl;clear hgr hb2 hG hd bY lV cr nX hgd;unfold au at HN;go_enter func30,ntmps30;go_wp2_with fail;refine Calls.mono HN.out ?_;rintro e w1 ⟨rfl,⟨bu,nv,hG,-,-,-⟩,-⟩;have HF:Hid (bC w1 w.heap.size nv bu g'.nodes∧Below w.heap.size w w1):=⟨⟨hG.row,hG.len,hG.subs⟩,hG.low⟩;have y0:w1.cell? ⟨w.heap.size+1,0,none⟩=some nv:=by
  have hblk:=hG.blk;simp[World.cell?,hblk]
 clear hG HN;go_wp2_with fail;go_ret;exact⟨nv,bu,rfl,HF.out⟩
end Go.Proofs.YtlhimdjkkiflhaaGreatDoor
namespace Go.Proofs.YtlhimdjkkiflhaaGreatDoor
open Go.RowKit Go.Loop
def GY (l:List ng):Bool:=decide (l≠[])&&decide (l.length≤150)&&l.all λx=>decide (x.text.length≤1000000)&&decide (x.subs.length≤1000000)
def IZ (s:List UInt8)(k:Nat):Nat:=(((aU (s.length+1) s 0)[k-1]?).map (·.cA)).getD 0
def Ew (s:List UInt8)(d:Dt)(e:Nat)(nodes:List ng):Option (List UInt8×Int):=
 if oz s e=false then some ([],3)
 else if mH (nodes.map iX)=true then some ([],9)
 else match rY d 1000 d with
  |none=>none
  |some (.inl e)=>some ([],e)
  |some (.inr x)=>match lR d 100000 x ⟨[],[]⟩with
   |none=>none
   |some h=>if GY h.2.nodes=true then some (cz (h.2.nodes.map iX) 0 403)else none
def l8 (s:List UInt8):Option (List UInt8×Int):=
 match aV (aU (s.length+1) s 0) 30 2000 ⟨0,false,[]⟩ ⟨0,0,[]⟩with
 |.out=>none
 |.fail e _=>some ([],e)
 |.ok d s'=>match lR d 100000 d ⟨[],[]⟩with
  |none=>none
  |some g=>
   if(bn d d&&lq d&&GY g.2.nodes&&di (g.2.nodes.map iX)&&decide (IZ s s'.k≤s.length))=true then Ew s d (IZ s s'.k) g.2.nodes else none
theorem Bz {s:List UInt8}{r:List UInt8×Int}(h:l8 s=some r){d:Dt}{s':gW}(et:aV (aU (s.length+1) s 0) 30 2000 ⟨0,false,[]⟩ ⟨0,0,[]⟩=.ok d s'):∃k g,lR d 100000 d ⟨[],[]⟩=some (k,g)∧bn d d=true∧lq d=true∧GY g.nodes=true∧di (g.nodes.map iX)=true∧IZ s s'.k≤s.length∧Ew s d (IZ s s'.k) g.nodes=some r:=by
 unfold l8 at h;rw[et]at h;simp only at h;cases hn:lR d 100000 d ⟨[],[]⟩with
 |none=>rw[hn]at h;cases h
 |some g=>
  rw[hn]at h;simp only at h;split at h
  ·rename_i hc;simp only[zae,decide_eq_true_eq]at hc;obtain⟨⟨⟨⟨h1,h2⟩,h3⟩,h4⟩,h5⟩:=hc;exact⟨g.1,g.2,rfl,h1,h2,h3,h4,h5,h⟩
  ·cases h
theorem fQ {l:List ng}(h:GY l=true):l≠[]∧l.length≤150∧∀x∈l,x.text.length≤maxLen∧x.subs.length≤maxLen:=by
 unfold GY at h;simp only[zae,decide_eq_true_eq,zav]at h;obtain⟨⟨h1,h2⟩,h3⟩:=h;refine⟨h1,h2,λx hx=>?_⟩;have:=h3 x hx;unfold maxLen;omega
set_option maxRecDepth 1000000
theorem aao:l8 [40,43,32,49,47,50,32,40,42,32,50,32,51,41,41]=some ([49,51,47,50],0):=by decide +kernel
theorem aap:l8 [40,113,117,111,116,101,32,40,97,32,46,32,98,41,41]=some ([40,97,32,46,32,98,41],0):=by decide +kernel
theorem aaq:l8 [40,47,32,49,32,40,45,32,50,32,50,41,41]=some ([],11):=by decide +kernel
theorem aar:l8 [40,43,32,49,32,97,41]=some ([],10):=by decide +kernel
end Go.Proofs.YtlhimdjkkiflhaaGreatDoor
