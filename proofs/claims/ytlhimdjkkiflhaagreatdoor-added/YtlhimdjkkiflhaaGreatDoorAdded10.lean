import Derived.Laws.BytesArg
import Derived.Test.YtlhimdjkkiflhaaGreatDoorAdded09
set_option maxHeartbeats 8000000
set_option maxRecDepth 100000
open Go.Value renaming int→Γ
open Go.IntKind renaming i64→Δ
open Go renaming undef→Θ,World→Φ,Value→Ω,Calls→π,madeCells→υ,maxLen→χ,Frame→ψ,TypeId→ϊ,execOp→ύ
open Go.Lib renaming decDigits→Λ,itoa→Ξ
open Option renaming getD→ζ
open Go.Departure renaming mixedOrders→η
open List renaming replicate→θ,range→ω
open Go.Act renaming eval→ι,put→ξ
open Go.RowKit renaming Below→φ,intOf→ό
open Go.Op renaming equalIn→ϋ
namespace Go.Proofs.YtlhimdjkkiflhaaGreatDoor
open Go.Proofs.Tryz
open Go.RowKit Go.Loop
theorem La:(prog.info? 255).map (λi=>(i.zero,i.size,i.bytes))=some (some (.agg #[Γ Δ 0,Γ Δ 0]),2,16):=by kernel_rfl
theorem Ph (n:Nat)(hn:n≤1000)(w:Φ):(Instr.makeSlice 162 (Γ Δ (n:Int)) (Γ Δ (n:Int))).run prog w=.ok (.slice (some ⟨w.heap.size,0,none⟩) n n) (w.alloc (.cells (υ #[.nilIface] n) 58)):=
 run_make_row' (P:=prog) 162 58 .nilIface 16 underlying162 rb rfl .i64 .i64 n (by omega) (by omega) w
theorem IG (n:Nat)(hn:n≤1000)(w:Φ):(Instr.makeSlice 251 (Γ Δ (n:Int)) (Γ Δ (n:Int))).run prog w=.ok (.slice (some ⟨w.heap.size,0,none⟩) n n) (w.alloc (.cells (υ #[Γ Δ 0,Γ Δ 0] (n*2)) 255)):=by
 obtain⟨i,hi,hzz⟩:=zaz.1 La;simp only[zag]at hzz;obtain⟨hz,hs,hb⟩:=hzz;have h:=run_make (P:=prog) w 251 255 i _ underlying251 hi hz .i64 .i64 (n:Int) (n:Int) (by omega) (Int.le_refl _) (by rw[hb];omega) (by omega);rw[h,hs];rfl
theorem Pj (n:Nat):υ #[.nilIface] n=(θ n Ω.nilIface).toArray:=by
 rw[←toList_madeCells_one]
theorem II (n:Nat):υ #[Γ Δ 0,Γ Δ 0] (n*2)=(θ (n*2) (Ω.int .i64 0)).toArray:=by
 apply Array.ext';apply List.ext_getElem?
 intro j;by_cases hj:j<n*2
 ·have:j%2=0∨j%2=1:=by omega
  rcases this with h|h<;>simp[υ,hj,h]
 ·simp[υ,hj]
theorem lS {w:Φ}{base n c:Nat}{e:ϊ}{a:Option Addr}{xs:List Ω}(h:w.ownsRow base e 1 (.slice a n c) n xs)(k:Nat)(hk:k<xs.length):∃g cs t,a=some ⟨g,0,none⟩∧w.cell? ⟨g,k,none⟩=some xs[k]∧base≤g∧w.heap[g]?=some (.cells cs t (0,0)):=by
 have hl:xs.length=n*1:=h.1;rcases h.2 with⟨h1,h2⟩|⟨g,cap,cur,h1,h2,h3,h4⟩
 ·omega
 ·cases h1;refine⟨g,cur,_,rfl,?_,h2,h3⟩;have:=h.cells (g:=g) rfl k xs[k] (zaq hk);cases k with
  |zero=>exact this
  |succ k=>simpa[Addr.add]using this
theorem oT {w:Φ}{b:Nat}{us zs:List Ω}{z v:Ω}{t:ϊ}(h:w.heap[b]?=some (.cells (us++z::zs).toArray t (0,0))):(w.setCell ⟨b,us.length,none⟩ v).heap[b]?=some (.cells (us++[v]++zs).toArray t (0,0))∧w.cell? ⟨b,us.length,none⟩=some z∧w.frozen? ⟨b,us.length,none⟩=false:=by
 refine⟨?_,by simp[Φ.cell?,h],by simp[Φ.frozen?,h]⟩;simp[Φ.setCell,Array.getElem?_modify,h]
theorem Kp.put {R M:Nat}{w w1:Φ}(h:Kp R M w w1){a:Addr}(ha:w.heap.size≤a.block)(v:Ω):Kp R M w (w1.setCell a v):=⟨h.os,h.tape,h.output,by simpa using h.size,λb hb h1 h2=>(zau _ _ _ b (by omega)).trans (h.block b hb h1 h2)⟩
theorem Kp.grow {R M:Nat}{w w1:Φ}(h:Kp R M w w1)(o:Obj):Kp R M w (w1.alloc o):=h.trans (Kp.aA ((zad _ w1).alloc (zab _) o))
theorem AO:∀q:List (Int×Int),(fe q).length=q.length*2
 |[]=>rfl
 |p::q=>by
  have:=AO q;simp only[fe,List.flatMap_cons,zbg,zar,List.length_nil]at this ⊢;omega
theorem IJ (q:List (Int×Int))(a b:Int):fe (q++[(a,b)])=fe q++[Γ Δ a]++[Γ Δ b]:=by
 simp[fe]
theorem IK {w:Φ}{C k:Nat}{q:List (Int×Int)}{zs:List Ω}{z z':Ω}{t:ϊ}(a b:Int)(hk:q.length=k)(h:w.heap[C]?=some (.cells (fe q++z::z'::zs).toArray t (0,0))):((w.setCell ⟨C,k*2,none⟩ (Γ Δ a)).setCell ⟨C,k*2+1,none⟩ (Γ Δ b)).heap[C]?=some (.cells (fe (q++[(a,b)])++zs).toArray t (0,0))∧w.cell? ⟨C,k*2,none⟩=some z∧w.cell? ⟨C,k*2+1,none⟩=some z'∧w.frozen? ⟨C,k*2,none⟩=false∧w.frozen? ⟨C,k*2+1,none⟩=false:=by
 obtain⟨s1,s2,s3⟩:=oT (v:= Γ Δ a) h;have h':=h;rw[show fe q++z::z'::zs=(fe q++[z])++z'::zs by simp]at h';obtain⟨-,s4,s5⟩:=oT (v:= Γ Δ b) h';obtain⟨s6,-,-⟩:=oT (v:= Γ Δ b) s1;simp only[zbg,zar,List.length_nil,AO,hk]at s1 s2 s3 s4 s5 s6;rw[IJ];exact⟨s6,s2,s4,s3,s5⟩
def IL:Int ⊕ List (Int×Int)→Ending→Φ→Prop
 |.inl er,e,_=>e=.returned (.tuple #[.slice none 0 0,Γ Δ er])
 |.inr q,e,w'=>∃b,e=.returned (.tuple #[.slice (some ⟨b,0,none⟩) q.length q.length,Γ Δ 0])∧w'.heap[b]?=some (.cells (fe q).toArray 255)
section
variable {lo K:Nat}{L:List Int}{w0:Φ}{E:Env}{root:Dt}{R M:Nat}
theorem EZ {f:Dt→Option (Int ⊕ Dt)}(ih:SX w0 lo K L E root R M f)(ux:∀d e,f d=some (.inl e)→e≠0)(w:Φ)(kn:List (Nat×Ω))(hA:fS w0 lo K L E root R M w kn)(held:List Dt)(vs:List Ω)(base:Nat)(a:Option Addr)(c:Nat)(hrow:w.ownsRow base 58 1 (.slice a vs.length c) vs.length vs)(hRD:wu lo K L w0 E held vs)(hlen:held.length<900)(gz:∀x∈held,x∈aH root)(r:Int ⊕ List (Int×Int))(hr:dV f held=some r):π prog 178 #[aq R,.slice a vs.length c] w λe w'=>IL r e w'∧Kp M M w w'∧∃wx,fS w0 lo K L E root R M w' wx:=by
 have O9:=hRD.1;have U6:=Ph vs.length (by omega) w;rw[Pj]at U6;have HI:Hid _:=ih;have Vj:Hid _:=ux;have Js:Hid _:=hrow;have Fl:Hid _:=hRD;have HSB:Hid _:=gz;have HR:Hid _:=hr;have tZ:Hid (Kp M M w (w.alloc (.cells (θ vs.length Ω.nilIface).toArray 58))):=Kp.aA ((zad _ w).alloc (zab _) _);have Ky:Hid _:=hA.below ((zad _ w).alloc (zab _) (.cells (θ vs.length Ω.nilIface).toArray 58));have HH0:Hid _:=zas w (.cells (θ vs.length Ω.nilIface).toArray 58);have hRM:R<w.heap.size∧M<w.heap.size∧w0.heap.size≤w.heap.size:=⟨hA.lt.1,hA.lt.2,hA.low.size⟩;obtain⟨hR,hM,hW0⟩:=hRM;have HMM:Hid (∃es ck,w.heap[M]?=some (.map es ck)):=by obtain⟨es,ck,h1,-⟩:=hA.mp;exact⟨es,ck,h1⟩
 clear ih ux hrow hRD gz hr hA;unfold aq;go_enter func178,ntmps178;go_wp2_with fail;clear U6;go_loopw [21] (λi wr=>∃(k:Nat) (rs:List Dt) (us:List Ω) (kn1:List (Nat×Ω)),k≤vs.length∧i=Γ Δ k∧rs.length=k∧Hid (mK f rs (held.drop k)=mK f [] held)∧Hid (wu lo K L w0 E rs us∧∀x∈rs,x.hd=true)∧Hid (wr.heap[w.heap.size]?=some (.cells (us++θ (vs.length-k) Ω.nilIface).toArray 58))∧Hid (Kp M M w wr)∧Hid (fS w0 lo K L E root R M wr kn1)) (λi _=>vs.length-(ό i).toNat)
 case atStart=>exact⟨0,[],[],kn,zaw _,rfl,rfl,rfl,⟨⟨rfl,λj d x h1 h2=>by simp at h1⟩,λx h=>by cases h⟩,HH0.out,tZ.out,Ky.out⟩
 case round=>
  obtain⟨k,rs,us,kn1,hk,rfl,SG,HF,HU,HB,HK,HA⟩:=hrel;have huk:us.length=k:=by rw[←HU.out.1.1,SG]
  by_cases hlt:k<vs.length
  ·obtain⟨g,cs,tg,rfl,hcell,-,hgb⟩:=lS Js.out k hlt;have hgM:g≠M:=by
    rintro rfl;obtain⟨es,ck,h1⟩:=HMM.out;rw[hgb]at h1;cases h1
   have Jj:g<w.heap.size:=(zaf.1 hgb).1;have hc:wr.cell? ⟨g,k,none⟩=some vs[k]:=by
    rw[←hcell];unfold Φ.cell?
    rw[HK.out.block g Jj hgM hgM]
   obtain⟨x,hx⟩:∃x,x=held[k]'(by omega):=⟨_,rfl⟩;have Iu:bf lo K L w0 E x vs[k]:=Fl.out.2 k x vs[k] (by rw[hx];exact zaq (by omega)) (zaq hlt);have hsx:x∈aH root:=by rw[hx];exact HSB.out _ (zbd _)
   have xf:held.drop k=x::held.drop (k+1):=by rw[hx];exact zbU (by omega)
   have SE:Hid _:=HF.out;rw[xf,mK]at SE;have af0:g<wr.heap.size:=by have:=HK.out.size;omega
   obtain⟨vk,hvk⟩:∃vk,vk=vs[k]:=⟨_,rfl⟩;rw[←hvk]at hc Iu;obtain⟨tx,yx,rfl⟩:=bO Iu;cases XY:f x with
   |none=>
    rw[XY]at SE;have:=HR.out;unfold dV at this;rw[←SE.out]at this;cases this
   |some s=>
    rw[XY]at SE;have HC:Hid _:=HI.out x _ wr kn1 s Iu hsx HA.out XY;clear Iu hsx xf hx hvk hcell hgb;unfold aq at HC;cases s with
    |inl er=>
     have hne:(er != 0)=true:=by simpa using Vj.out _ _ XY
     have px:r=.inl er:=by
      have:=HR.out;unfold dV at this;rw[←SE.out]at this;cases this;rfl
     subst px;clear XY;go_wp2_with fail;refine zae HC.out ?_;rintro e w1 ⟨rfl,wR,S0,se⟩;have HZ:Hid (Kp M M w w1∧∃wx,fS w0 lo K L E root R M w1 wx):=⟨Kp.trans HK.out wR,S0,se⟩;clear wR se HC;go_wp2_with fail;go_ret2;exact⟨rfl,HZ.out⟩
    |inr y=>
     clear XY;go_wp2_with fail;refine zae HC.out ?_;rintro e w1 ⟨⟨vy,rfl,hvy,hyh⟩,wR,S0,se⟩;obtain⟨ty,yy,rfl⟩:=bO hvy;have HVY:Hid _:=hvy;have CN:Hid _:=Kp.trans HK.out wR;have HA2:Hid _:=se;have C1:w.heap.size<wr.heap.size:=(zaf.1 HB.out).1;have hb1:=(wR.block w.heap.size C1 (by omega) (by omega)).trans HB.out;rw[show vs.length-k=(vs.length-(k+1))+1 by omega,zcv]at hb1;obtain⟨s1,s2,s3⟩:=oT (v:= .iface ty yy) hb1;rw[huk]at s1 s2 s3;have SJ:Hid _:=s1;have UZ:w.heap.size<w1.heap.size:=(zaf.1 hb1).1;clear hvy wR se HC s1 hb1;go_wp2_with fail;go_roundw
     case rel=>
      refine⟨k+1,rs++[y],us++[Ω.iface ty yy],S0,by omega,by go_num,by simp[SG],SE.out,⟨HU.out.1.snoc HVY.out,λx hx=>(zbm.1 hx).elim (HU.out.2 x) λh=>by rw[zcg]at h;subst h;exact hyh⟩,SJ,?_,HA2.out.set _ hW0 (by show w.heap.size≠R;omega) (by show w.heap.size≠M;omega)⟩;exact CN.out.put (zab _) _
     case measure=>simp[ό];omega
  ·have FK:k=vs.length:=by omega
   subst FK;obtain⟨wq,hwq⟩:∃x,x=wr:=⟨wr,rfl⟩;subst hwq;have HRs:Hid (mK f [] held=some (.inr rs)):=by
    have:=HF.out;rw[zbE (by omega)]at this;exact this.symm
   have ac0:=IG vs.length (by omega) wq;rw[II]at ac0;have C1:w.heap.size<wq.heap.size:=(zaf.1 HB.out).1;have iu:Hid (wq.heap[w.heap.size]?=some (.cells us.toArray 58)):=by
    have:=HB.out;rw[Nat.sub_self,List.replicate_zero,List.append_nil]at this;exact this
   have HRR:Hid (some r=some (match rB [] rs with|none=> .inl 10|some q=> .inr q)):=by
    have:=HR.out;unfold dV at this;rw[HRs.out]at this;exact this.symm
   clear HB HF HI Vj HR Fl HSB HH0 Ky tZ;go_wp2_with fail;clear ac0;go_loopw [45] (λi wr=>∃(k:Nat) (qs:List (Int×Int)),k≤vs.length∧i=Γ Δ k∧qs.length=k∧Hid (rB qs (rs.drop k)=rB [] rs)∧Hid (wr.heap[wq.heap.size]?=some (.cells (fe qs++θ ((vs.length-k)*2) (Ω.int .i64 0)).toArray 255))∧Hid (wr.heap[w.heap.size]?=some (.cells us.toArray 58))∧Hid (Kp M M w wr)∧Hid (fS w0 lo K L E root R M wr kn1)) (λi _=>vs.length-(ό i).toNat)
   case atStart=>
    refine⟨0,[],zaw _,rfl,rfl,rfl,zas wq _,?_,HK.out.grow _,HA.out.below ((zad _ wq).alloc (zab _) _)⟩;exact(zaK _ _ _ C1).trans iu.out
   case round=>
    obtain⟨k,qs,hk,rfl,hqk,HN,HC,jl,oy,OB⟩:=hrel;by_cases abZ:k<vs.length
    ·have hku:k<us.length:=by omega
     have hkr:k<rs.length:=by omega
     obtain⟨x,hx⟩:∃x,x=rs[k]'hkr:=⟨_,rfl⟩;obtain⟨vk,hvk⟩:∃vk,vk=us[k]'hku:=⟨_,rfl⟩;have Iu:bf lo K L w0 E x vk:=HU.out.1.2 k x vk (by rw[hx];exact zaq hkr) (by rw[hvk];exact zaq hku);have hhx:x.hd=true:=by rw[hx];exact HU.out.2 _ (zbd _)
     have hc:wr.cell? ⟨w.heap.size,k,none⟩=some vk:=by
      have:=jl.out;rw[hvk];simp[Φ.cell?,this,hku]
     have hcs:wq.heap.size<wr.heap.size:=(zaf.1 HC.out).1;have hN:=HN.out;rw[show rs.drop k=x::rs.drop (k+1) by rw[hx];exact zbU hkr]at hN;clear hx hvk;by_cases cn:∃a b,x=.num a b
     ·obtain⟨a1,b1,rfl⟩:=cn;have hN1:Hid (rB (qs++[(a1,b1)]) (rs.drop (k+1))=rB [] rs):=hN;unfold bf at Iu;subst Iu;have Fp:(Instr.typeAssert (.iface 153 (.agg #[Γ Δ a1,Γ Δ b1])) 58 153 true).run prog wr=_:=bA wr uB;have hC:=HC.out;rw[show(vs.length-k)*2=(vs.length-(k+1))*2+1+1 by omega,zcv,zcv]at hC;obtain⟨SJ,z0,z1,z2,z3⟩:=IK a1 b1 hqk hC;have HS:Hid _:=SJ;have hne:¬wq.heap.size=wr.heap.size:=by omega
      clear hN hC SJ;go_wp2_with fail;go_roundw
      case rel=>
       have hK4:=(oy.out.put (a:=⟨wq.heap.size,k*2,none⟩) (Nat.le_of_lt C1) (Γ Δ a1)).put (a:=⟨wq.heap.size,k*2+1,none⟩) (Nat.le_of_lt C1) (Γ Δ b1);have hA4:=(OB.out.set (a:=⟨wq.heap.size,k*2,none⟩) (Γ Δ a1) (by show w0.heap.size≤wq.heap.size;omega) (by show wq.heap.size≠R;omega) (by show wq.heap.size≠M;omega)).set (a:=⟨wq.heap.size,k*2+1,none⟩) (Γ Δ b1) (by show w0.heap.size≤wq.heap.size;omega) (by show wq.heap.size≠R;omega) (by show wq.heap.size≠M;omega);refine⟨k+1,qs++[(a1,b1)],by omega,by go_num,by simp[hqk],hN1.out,(zaK _ _ _ (by simp;omega)).trans HS.out,?_,hK4.grow _,hA4.below ((zad _ _).alloc (zab _) _)⟩;exact(zaK _ _ _ (by simp;omega)).trans ((zau _ _ _ _ (by show w.heap.size≠wq.heap.size;omega)).trans ((zau _ _ _ _ (by show w.heap.size≠wq.heap.size;omega)).trans jl.out))
      case measure=>simp[ό];omega
     ·have px:r=.inl 10:=by
       have h2:rB qs (x::rs.drop (k+1))=none:=by cases x<;>first|exact absurd ⟨_,_,rfl⟩ cn|rfl
       have h3:=HRR.out;rw[←hN,h2]at h3;cases h3;rfl
      subst px;have oo:sK x≠153:=by cases x<;>first|exact absurd ⟨_,_,rfl⟩ cn|simp[sK]
      obtain⟨yv,rfl⟩:=jb hhx Iu;have Fp:(Instr.typeAssert (.iface (sK x) yv) 58 153 true).run prog wr=_:=ai wr uB EY oo;clear hN Iu hhx cn oo HRR;go_wp2_with fail;go_ret2;exact⟨rfl,oy.out.grow _,kn1,OB.out.below ((zad _ wr).alloc (zab _) _)⟩
    ·have FK:k=vs.length:=by omega
     have px:r=.inr qs:=by
      have h2:=HN.out;rw[zbE (by omega)]at h2;have h3:=HRR.out;rw[←h2]at h3;cases h3;rfl
     subst px;have Xt:Hid (wr.heap[wq.heap.size]?=some (.cells (fe qs).toArray 255)):=by
      have:=HC.out;rw[FK,Nat.sub_self,Nat.zero_mul,List.replicate_zero,List.append_nil]at this;exact this
     have HQL:Hid (vs.length=qs.length):=by show _=_;omega
     clear HN HRR HC FK;go_wp2_with fail;go_ret2;exact⟨⟨wq.heap.size,by rw[HQL.out];rfl,Xt.out⟩,oy.out,kn1,OB.out⟩
end
theorem Lb:prog.underlying 155=some (.struct (prog.fieldsOf 155)):=by kernel_rfl
theorem Pk:prog.stoodInHeld 155=false:=by kernel_rfl
theorem Dd:(prog.info? 155).map (λi=>i.comparable)=some true:=by kernel_rfl
theorem S1 (w:Φ){t:ϊ}(y:Ω)(ht:t≠155):(binOp .eql 58 (.iface t y) (.iface 155 (.agg #[Γ Δ 0]))).run prog w=.ok (.bool false) w:=by
 have h:∀d:Nat,(ϋ (d+1) 58 (.iface t y) (.iface 155 (.agg #[Γ Δ 0]))).run prog w=.ok false w:=λd=>by
  obtain⟨ms,SR⟩:=jE;simp[ϋ,run_underlying SR,ht]
 simp only[binOp];simp[Op.equal,Op.maxDepth,h 9999]
theorem S2 (w:Φ)(a:Int):(binOp .eql 58 (.iface 155 (.agg #[Γ Δ a])) (.iface 155 (.agg #[Γ Δ 0]))).run prog w=.ok (.bool (a==0)) w:=by
 cases hi:prog.info? 155 with
 |none=>have:=Dd;rw[hi]at this;cases this
 |some i=>
  have hcc:i.comparable=true:=by have:=Dd;rw[hi]at this;simpa using this
  have hs:∀d:Nat,(ϋ (d+2) 155 (.agg #[Γ Δ a]) (.agg #[Γ Δ 0])).run prog w=.ok (a==0) w:=λd=>by
   rw[run_equalIn_struct w (d+1) _ _ _ Lb Pk];go_simp;by_cases h:a=0<;>simp[h]
  have h:∀d:Nat,(ϋ (d+3) 58 (.iface 155 (.agg #[Γ Δ a])) (.iface 155 (.agg #[Γ Δ 0]))).run prog w=.ok (a==0) w:=λd=>by
   obtain⟨ms,SR⟩:=jE;rw[ϋ];simp[run_underlying SR,typeInfo,hi,hcc,hs d]
  simp only[binOp];simp[Op.equal,Op.maxDepth,h 9997]
section
variable {lo K:Nat}{L:List Int}{w0:Φ}{E:Env}{root:Dt}{R M:Nat}
theorem Xu (w:Φ){z:Dt}{v:Ω}(hz:bf lo K L w0 E z v)(hh:z.hd=true):(binOp .eql 58 v (.iface 155 (.agg #[Γ Δ 0]))).run prog w=.ok (.bool (decide (z=.cU 0))) w:=by
 cases z with
 |cU a=>
  unfold bf at hz;subst hz;rw[S2];by_cases h:a=0
  ·subst h;simp
  ·simp[h]
 |_=>
  obtain⟨y,rfl⟩:=jb hh hz;first
   |(rw[S1 w y (by simp[sK])];simp;done)
   |(simp[Dt.hd]at hh;done)
theorem IM {f:Dt→Option (Int ⊕ Dt)}(ih:SX w0 lo K L E root R M f)(ux:∀d e,f d=some (.inl e)→e≠0)(w:Φ)(kn:List (Nat×Ω))(hA:fS w0 lo K L E root R M w kn)(c x y:Dt)(vc vx vy:Ω)(hc:bf lo K L w0 E c vc)(hx:bf lo K L w0 E x vx)(hy:bf lo K L w0 E y vy)(sc:c∈aH root)(sx:x∈aH root)(sy:y∈aH root)(r:Int ⊕ Dt)(hr:mq f c x y=some r):π prog 177 #[aq R,vc,vx,vy] w λe w'=>wy w0 lo K L E root R M w r e w':=by
 obtain⟨t1,y1,rfl⟩:=bO hc;obtain⟨t2,y2,rfl⟩:=bO hx;obtain⟨t3,y3,rfl⟩:=bO hy;unfold mq at hr;cases XW:f c with
 |none=>rw[XW]at hr;cases hr
 |some s=>
  rw[XW]at hr;have HC:Hid _:=ih c _ w kn s hc sc hA XW;unfold aq at HC;cases s with
  |inl er=>
   have hne:(er != 0)=true:=by simpa using ux _ _ XW
   cases hr;clear ih ux hA hc hx hy XW sc sx sy;unfold aq;go_enter func177,ntmps177;go_wp2_with fail;refine zae HC.out ?_;rintro e w1 ⟨rfl,wR,S0,se⟩;have HZ:Hid (Kp M M w w1∧∃wx,fS w0 lo K L E root R M w1 wx):=⟨wR,S0,se⟩;clear wR se HC;go_wp2_with fail;go_ret2;exact⟨rfl,HZ.out⟩
  |inr z=>
   have HI:Hid _:=ih;have HX:Hid (bf lo K L w0 E x (.iface t2 y2)∧x∈aH root∧bf lo K L w0 E y (.iface t3 y3)∧y∈aH root):=⟨hx,sx,hy,sy⟩;have HR:Hid ((if z=.cU 0 then f y else f x)=some r):=hr;clear ih ux hA hc hx hy XW sc sx sy hr;unfold aq;go_enter func177,ntmps177;go_wp2_with fail;refine zae HC.out ?_;rintro e w1 ⟨⟨vz,rfl,hvz,hzh⟩,wR,S0,se⟩;have heq:=Xu w1 hvz hzh;obtain⟨t4,y4,rfl⟩:=bO hvz;have HK:Hid _:=wR;have HA:Hid _:=se;clear wR se HC hvz hzh;by_cases hz:z=.cU 0
   ·have px:=HR.out;rw[zac hz]at px;have Xt:Hid _:=HI.out y _ w1 S0 r HX.out.2.2.1 HX.out.2.2.2 HA.out px;unfold aq at Xt;rw[zbi hz]at heq;clear px hz;go_wp2_with fail;refine zae Xt.out ?_;rintro e w2 ⟨ho,hk2,K9,xQ⟩;have HZ:Hid (Kp M M w w2∧∃wx,fS w0 lo K L E root R M w2 wx):=⟨HK.out.trans hk2,K9,xQ⟩;clear Xt hk2 xQ heq;cases r with
    |inl er=>
     have L3:=ho;unfold uz at L3;subst L3;go_wp2_with fail;go_ret2;exact⟨rfl,HZ.out⟩
    |inr q=>
     obtain⟨v,rfl,hv,hh⟩:=ho;have HV:Hid _:=hv;obtain⟨t5,y5,rfl⟩:=bO hv;clear hv;go_wp2_with fail;go_ret2;exact⟨⟨_,rfl,HV.out,hh⟩,HZ.out⟩
   ·have px:=HR.out;rw[zaa hz]at px;have Xt:Hid _:=HI.out x _ w1 S0 r HX.out.1 HX.out.2.1 HA.out px;unfold aq at Xt;rw[zaY hz]at heq;clear px hz;go_wp2_with fail;refine zae Xt.out ?_;rintro e w2 ⟨ho,hk2,K9,xQ⟩;have HZ:Hid (Kp M M w w2∧∃wx,fS w0 lo K L E root R M w2 wx):=⟨HK.out.trans hk2,K9,xQ⟩;clear Xt hk2 xQ heq;cases r with
    |inl er=>
     have L3:=ho;unfold uz at L3;subst L3;go_wp2_with fail;go_ret2;exact⟨rfl,HZ.out⟩
    |inr q=>
     obtain⟨v,rfl,hv,hh⟩:=ho;have HV:Hid _:=hv;obtain⟨t5,y5,rfl⟩:=bO hv;clear hv;go_wp2_with fail;go_ret2;exact⟨⟨_,rfl,HV.out,hh⟩,HZ.out⟩
end
theorem Ld (q:List (Int×Int)):∀(i:Nat) (hi:i<q.length),(fe q)[i*2]?=some (Γ Δ q[i].1)∧(fe q)[i*2+1]?=some (Γ Δ q[i].2):=by
 induction q with
 |nil=>intro i hi;simp at hi
 |cons p q ih=>
  intro i hi;cases i with
  |zero=>simp[fe]
  |succ i=>
   have h:=ih i (by simpa using hi);have e1:(i+1)*2=i*2+1+1:=by omega
   rw[e1];simpa[fe]using h
theorem IP {w:Φ}{g o:Nat}{v:Ω}(h:w.cell? ⟨g,o,none⟩=some v):g<w.heap.size:=by
 unfold Φ.cell? at h;cases hq:w.heap[g]? with
 |none=>simp[hq]at h
 |some x=>exact(zaf.1 hq).1
section
variable {lo K:Nat}{L:List Int}{w0:Φ}{E:Env}{root:Dt}{R M:Nat}
theorem wu.at {ds:List Dt}{vs:List Ω}(h:wu lo K L w0 E ds vs)(k:Nat)(hk:k<vs.length):bf lo K L w0 E (ds.getD k .nil) vs[k]:=by
 have hl:=h.1;refine h.2 k _ _ ?_ (zaq hk);rw[zbX,zaq (by omega)];rfl
theorem Le (hG:Xq w0 lo K L E root){f:Dt→Option (Int ⊕ Dt)}(ih:SX w0 lo K L E root R M f)(ux:∀d e,f d=some (.inl e)→e≠0)(cn:∀d,d∈aH root→∀x,f d=some (.inr x)→Vi root x)(w:Φ)(kn:List (Nat×Ω))(hA:fS w0 lo K L E root R M w kn)(i:Nat)(a b:Dt)(hs: .pair i a b∈aH root)(v:Ω)(hd:bf lo K L w0 E (.pair i a b) v)(r:Int ⊕ Dt)(hr:lQ root f a b=some r):π prog 129 #[aq R,aq (E.α i)] w λe w'=>wy w0 lo K L E root R M w r e w':=by
 have mixed:prog.follows η=true:=by kernel_rfl
 unfold bf at hd;obtain⟨hK,Mk,rfl,va,vb,hblk,Ox,U7⟩:=hd;unfold lQ at hr;cases hp:qJ root a b with
 |none=>rw[hp]at hr;cases hr
 |some s=>
  rw[hp]at hr;have HP:Hid _:=O7 hG w hA.low i a b hs va vb hblk Ox U7 s hp;have HA:Hid _:=hA;cases s with
  |none=>
   cases hr;clear hG ih ux cn hA hs Mk hblk Ox U7 hp mixed;unfold aq at *;go_enter func129,ntmps129;go_wp2_with fail;refine zae HP.out ?_;rintro e w1 ⟨rfl,hb⟩;have HB:Hid _:=hb;clear HP hb;go_wp2_with fail;go_ret2;exact⟨rfl,Kp.aA HB.out,kn,HA.out.below HB.out⟩
  |some p=>
   obtain⟨h,held⟩:=p;simp only at hr;obtain⟨hlen,gz⟩:=C8 hG.good (dz (by simp[aH,sub_self]) hs) hp;have Vk:Hid (∀x∈held,x∈aH root):=gz;have HCn:Hid _:=λw=>Xl h held.length w (by omega);have HG:Hid _:=hG;have HI:Hid _:=ih;have Vj:Hid _:=ux;have Yr:Hid _:=cn;have HR:Hid _:=hr;clear hG ih ux cn hA hs Mk hblk Ox U7 hp gz hr;unfold aq at *;go_enter func129,ntmps129;go_wp2_with fail;refine zae HP.out ?_;rintro e w1 ⟨⟨sl,vs,rfl,hrow,hRD⟩,hb⟩;obtain⟨sa,sc,rfl⟩:=bq hrow;have O9:held.length=vs.length:=hRD.1;have Js:Hid _:=hrow;have Fl:Hid _:=hRD;have HB:Hid _:=hb;have RO:Hid _:=HA.out.below hb;rw[O9]at HCn HR;clear HP hb hrow hRD HA;go_wp2_with fail;refine zae (HCn.out _) ?_;rintro e w2 ⟨rfl,rfl⟩;clear HCn;by_cases IQ:fj h vs.length=false
   ·rw[IQ];have px:r=.inl 10:=by have:=HR.out;rw[zac IQ]at this;cases this;rfl
    subst px;clear IQ HR;go_wp2_with fail;go_ret2;exact⟨rfl,Kp.aA HB.out,kn,RO.out⟩
   ·have uC:fj h vs.length=true:=by simpa using IQ
    rw[uC];have ou:Hid _:=HR.out;rw[zaa IQ]at ou;clear HR IQ;by_cases hq:h=bY
    ·subst hq;have Mi:=C9 uC;obtain⟨v0,rfl⟩:∃v0,vs=[v0]:=List.length_eq_one_iff.1 Mi;obtain⟨g,cs,tg,rfl,hcell,-,-⟩:=lS Js.out 0 (by simp);have QJ:=wu.at Fl.out 0 (by simp);simp only[List.getElem_cons_zero]at hcell QJ;obtain⟨hm,CR,-⟩:=HG.out.meant RO.out.low QJ (Vk.out _ (fL (by rw[O9];simp)));have px:r=.inr (bN root 200000 (held.getD 0 .nil)):=by have:=ou.out;rw[zac rfl]at this;cases this;rfl
     subst px;have HM:Hid _:=hm;obtain⟨t0,y0,rfl⟩:=bO QJ;have Jj:g<w2.heap.size:=IP hcell;clear hm QJ Js Fl Vk HG HI Vj Yr ou uC Mi O9 hlen;go_wp2_with fail;refine zae HM.out ?_;rintro e w3 ⟨v',rfl,rfl,hv'⟩;obtain⟨t5,y5,rfl⟩:=bO hv';have HV:Hid _:=hv';clear hv' HM hcell;go_wp2_with fail;go_ret2;exact⟨⟨_,rfl,HV.out,CR⟩,Kp.aA HB.out,kn,RO.out⟩
    ·have fq:(h==[113,117,111,116,101])=false:=by simpa[bY]using hq
     rw[zaa hq]at ou;by_cases hi:h=pB
     ·subst hi;rw[zac rfl]at ou;have hv3:=SZ uC;obtain⟨v0,v1,v2,rfl⟩:∃v0 v1 v2,vs=[v0,v1,v2]:=by
       match vs,hv3 with
       |[a,b,c],_=>exact⟨a,b,c,rfl⟩
      obtain⟨g,cs,tg,rfl,c0,-,-⟩:=lS Js.out 0 (by simp);obtain⟨g1,_,_,e1,c1,-,-⟩:=lS Js.out 1 (by simp);obtain⟨g2,_,_,e2,c2,-,-⟩:=lS Js.out 2 (by simp);cases e1;cases e2;have d0:=wu.at Fl.out 0 (by simp);have d1:=wu.at Fl.out 1 (by simp);have d2:=wu.at Fl.out 2 (by simp);simp only[List.getElem_cons_zero,List.getElem_cons_succ]at c0 c1 c2 d0 d1 d2;have HC:Hid _:=IM HI.out Vj.out w2.drew kn (RO.out.below (zad _ w2).drew) _ _ _ _ _ _ d0 d1 d2 (Vk.out _ (fL (by rw[O9];simp))) (Vk.out _ (fL (by rw[O9];simp))) (Vk.out _ (fL (by rw[O9];simp))) r ou.out;obtain⟨t0,y0,rfl⟩:=bO d0;obtain⟨t1,y1,rfl⟩:=bO d1;obtain⟨t2,y2,rfl⟩:=bO d2;have Jj:g<w2.heap.size:=IP c0;clear d0 d1 d2 Js Fl Vk HG HI Vj Yr ou uC hv3 O9 hlen fq hq;unfold aq at HC;go_wp2_with fail;refine km 10 13 mixed (by kernel_rfl) ?_;simp only[zcu,List.take_zero,zbh,zba];repeat still_step
      refine wpStill_nil ?_;unfold wpOp;go_simp;refine .inl ?_;refine zae HC.out ?_;rintro e w3 ⟨ho,hk3,K9,xQ⟩;have HZ:Hid (Kp M M w w3∧∃wx,fS w0 lo K L E root R M w3 wx):=⟨(Kp.aA HB.out.drew).trans hk3,K9,xQ⟩;clear HC hk3 xQ HB RO c0 c1 c2 Jj;cases r with
      |inl er=>
       unfold uz at ho;subst ho;show wpStill _ _ _ _ _ _;repeat still_step
       refine wpStill_nil ?_;go_wp2_with fail;go_ret2;exact⟨rfl,HZ.out⟩
      |inr x=>
       obtain⟨v',rfl,hv',Ya⟩:=ho;have HV:Hid _:=hv';obtain⟨t5,y5,rfl⟩:=bO hv';clear hv';show wpStill _ _ _ _ _ _;repeat still_step
       refine wpStill_nil ?_;go_wp2_with fail;go_ret2;exact⟨⟨_,rfl,HV.out,Ya⟩,HZ.out⟩
     ·have fi:(h==[105,102])=false:=by simpa[pB]using hi
      rw[zaa hi]at ou;cases hn:dV f held with
      |none=>have:=ou.out;rw[hn]at this;cases this
      |some s=>
       rw[hn]at ou;have HC:Hid _:=EZ HI.out Vj.out w2 kn RO.out held vs w.heap.size sa sc Js.out Fl.out hlen Vk.out s hn;have HNQ:Hid _:=hn;clear Js Fl HG HI hn hq hi;unfold aq at HC;go_wp2_with fail;refine zae HC.out ?_;rintro e w3 ⟨ho,hk3,K9,xQ⟩;have HK:Hid _:=(Kp.aA HB.out).trans hk3;have OB:Hid _:=xQ;clear HC hk3 xQ HB RO fq fi;cases s with
       |inl er=>
        have hne:(er != 0)=true:=by simpa using uA Vj.out HNQ.out
        have px:r=.inl er:=by have:=ou.out;cases this;rfl
        subst px;unfold IL at ho;subst ho;clear Vj Yr HNQ Vk ou uC O9;go_wp2_with fail;go_ret2;exact⟨rfl,HK.out,K9,OB.out⟩
       |inr q=>
        obtain⟨b,rfl,hblk⟩:=ho;obtain⟨hqb,hql⟩:=xg Yr.out Vk.out HNQ.out;have px:r=nO h q:=by have:=ou.out;cases this;rfl
        have hbl:b<w3.heap.size:=(zaf.1 hblk).1;clear Vj Yr HNQ Vk ou;by_cases hh:h=[61]∨h=[60]
        ·have hv2:=aaJ hh uC;obtain⟨⟨a1,a2⟩,⟨b1,b2⟩,rfl⟩:∃p p',q=[p,p']:=by
          match q,hql.trans (O9.trans hv2)with
          |[p,p'],_=>exact⟨p,p',rfl⟩
         have ca:=ES h (a1,a2) (b1,b2);have HCm:Hid _:=λw=>ca w (hqb _ (by simp)) (hqb _ (by simp));have IU:nO h [(a1,a2),(b1,b2)]=.inr (.cU (if et h (a1,a2) (b1,b2)then 1 else 0)):=by
          unfold nO;rw[zac hh];rfl
         rw[IU]at px;subst px;have z0:w3.cell? ⟨b,0,none⟩=some (Γ Δ a1):=by simp[Φ.cell?,hblk,fe]
         have z1:w3.cell? ⟨b,1,none⟩=some (Γ Δ a2):=by simp[Φ.cell?,hblk,fe]
         have z2:w3.cell? ⟨b,2,none⟩=some (Γ Δ b1):=by simp[Φ.cell?,hblk,fe]
         have z3:w3.cell? ⟨b,3,none⟩=some (Γ Δ b2):=by simp[Φ.cell?,hblk,fe]
         clear ca hqb hql uC hv2 O9 IU hblk hlen;unfold qV at HCm;rcases hh with rfl|rfl
         all_goals
          go_wp2_with fail;refine km 7 8 mixed (by kernel_rfl) ?_;simp only[zcu,List.take_zero,zbh,zba];repeat still_step
          refine wpStill_nil ?_;unfold wpOp;go_simp;refine .inl ?_;refine zae (HCm.out _) ?_;rintro e w4 ⟨rfl,hb4⟩;have HZ:Hid (Kp M M w w4∧fS w0 lo K L E root R M w4 K9):=⟨HK.out.trans (Kp.aA ((zad _ w3).drew.trans hb4)),OB.out.below ((zad _ w3).drew.trans hb4)⟩;clear hb4 HCm HK OB z0 z1 z2 z3;unfold SV;show wpStill _ _ _ _ _ _;repeat still_step
          refine wpStill_nil ?_;go_wp2_with fail;all_goals
           go_ret2;exact⟨⟨_,rfl,rfl,rfl⟩,HZ.out.1,K9,HZ.out.2⟩
        ·have f1:(h==[61])=false:=by simpa using λe=>hh (.inl e)
         have f2:(h==[60])=false:=by simpa using λe=>hh (.inr e)
         have IU:nO h q=match dU h q with|.inl e=> .inl e|.inr p=> .inr (.num p.1 p.2):=by
          unfold nO;rw[zaa hh];cases dU h q<;>rfl
         have YR:Hid _:=O4 h q b 0 q.length w3 (by omega) (zab _) hqb λj hj=>by
          have:=Ld q j hj;rw[zcd];constructor
          ·simp[Φ.cell?,hblk,this.1]
          ·simp[Φ.cell?,hblk,this.2]
         clear hqb hql uC O9 hblk hlen hh;rw[IU]at px;clear IU;cases htq:dU h q with
         |inl er=>
          rw[htq]at YR px;subst px;unfold K2 at YR;go_wp2_with fail;refine zae YR.out ?_;rintro e w4 ⟨rfl,hb4⟩;have HZ:Hid (Kp M M w w4∧fS w0 lo K L E root R M w4 K9):=⟨HK.out.trans (Kp.aA hb4),OB.out.below hb4⟩;clear hb4 YR HK OB;go_wp2_with fail;go_ret2;exact⟨rfl,HZ.out.1,K9,HZ.out.2⟩
         |inr p=>
          rw[htq]at YR px;subst px;unfold K2 at YR;go_wp2_with fail;refine zae YR.out ?_;rintro e w4 ⟨rfl,hb4⟩;have HZ:Hid (Kp M M w w4∧fS w0 lo K L E root R M w4 K9):=⟨HK.out.trans (Kp.aA hb4),OB.out.below hb4⟩;clear hb4 YR HK OB;go_wp2_with fail;go_ret2;exact⟨⟨_,rfl,rfl,rfl⟩,HZ.out.1,K9,HZ.out.2⟩
end
section
variable {lo K:Nat}{L:List Int}{w0:Φ}{E:Env}{root:Dt}{R M:Nat}
theorem S3 (hG:Xq w0 lo K L E root):∀n:Nat,SX w0 lo K L E root R M (λx=>nP root n x)
 |0=>λd v w kn r _ _ _ hr=>by simp[nP]at hr
 |n+1=>IE hG n λw kn i a b r hA hs hd hr=>by
  obtain⟨v,hd⟩:=hd;have hd':=hd;unfold bf at hd';obtain⟨hK,-,-,va,vb,hblk,-,-⟩:=hd';exact Pg hG n w kn hA i a b hs hK ⟨_,hblk⟩ r hr (Le hG (S3 hG n) (EX n) (K7 hG.good hG.pairs n) w kn hA i a b hs v hd r hr)
theorem E0 (w:Φ)(v:Ω)(hd:bf lo K L w E root v)(bV:aW root root=true)(nH:∀i j,i<K→j<K→E.α i=E.α j→i=j)(sM:ja root=true)(n:Nat)(r:Int ⊕ Dt)(hr:nP root n root=some r):π prog 29 #[v] w λe w'=>uz lo K L w E r e∧φ w.heap.size w w':=by
 have hG:Xq w lo K L E root:=⟨⟨v,hd⟩,bV,nH,sM⟩;have hA:fS w lo K L E root (w.heap.size+1) w.heap.size ((w.alloc (.map #[] 0)).alloc (.cells #[.map (some w.heap.size)] 96)) []:=by
  refine⟨((zad _ w).alloc (zab _) _).alloc (by simp) _,by omega,zab _,by omega,dM w _ _,⟨#[],0,(zaK _ _ _ (by simp)).trans (zas w _),rfl⟩,λp hp=>by cases hp⟩
 have HC:Hid _:=S3 hG n root v _ [] r hd (sub_self _) hA hr;have U6:(Instr.makeMap 94 none).run prog w=.ok (.map (some w.heap.size)) (w.alloc (.map #[] 0)):=rfl;obtain⟨t,y,rfl⟩:=bO hd;clear hG hA hd bV nH sM hr;unfold aq at HC;go_enter func29,ntmps29;go_wp2_with fail;refine zae HC.out ?_;rintro e w1 ⟨ho,wR,S0,se⟩;have HB:Hid _:=se.low;clear HC U6 wR se;cases r with
 |inl er=>
  unfold uz at ho;subst ho;go_wp2_with fail;go_ret2;exact⟨rfl,HB.out⟩
 |inr x=>
  obtain⟨v,rfl,hv,hh⟩:=ho;have HV:Hid _:=hv;obtain⟨t5,y5,rfl⟩:=bO hv;clear hv;go_wp2_with fail;go_ret2;exact⟨⟨_,rfl,HV.out,hh⟩,HB.out⟩
end
def lT (s:List UInt8)(a:Nat):Bool:=(tV true (s.drop a)).2&&decide (a+(tV true (s.drop a)).1=s.length)
theorem IV (s:List UInt8)(a:Nat)(w:Φ)(hs:s.length≤1000000)(ha:a≤s.length):π prog 26 #[.string ⟨⟨s⟩⟩,Γ Δ a] w λe w'=>e=.returned (.bool (lT s a))∧w'=w:=by
 have HS:Hid _:=iP ⟨⟨s⟩⟩ a w hs ha;unfold lT;generalize tV true (s.drop a)=q at *;obtain⟨n,b⟩:=q;go_enter func26,ntmps26;go_wp2_with fail;refine zae HS.out ?_;rintro e w1 ⟨rfl,rfl⟩;clear HS;cases b with
 |false=>
  go_wp2_with fail;go_ret;exact⟨rfl,rfl⟩
 |true=>
  go_wp2_with fail;go_ret;refine⟨ay ?_,rfl⟩;rw[zbL,zaP];simp;omega
theorem Lh {lo K:Nat}{L:List Int}{E:Env}(w:Φ)(root:Dt)(rv:Ω)(nE:bf lo K L w E root rv)(bV:aW root root=true)(d:Dt)(v:Ω)(hd:bf lo K L w E d v)(hgd:aW root d=true)(nH:∀i j,i<K→j<K→E.α i=E.α j→i=j)(f:Nat)(k:Nat)(g':mO)(cn:iy root f d ⟨[],[]⟩=some (k,g'))(hlen:g'.nodes.length≤999999):π prog 30 #[v] w λe w'=>∃nv bC,e=.returned nv∧bJ w' w.heap.size nv bC g'.nodes∧φ w.heap.size w w':=by
 obtain⟨κ,Yp⟩:=xc w E;have hgr:mg w lo K L κ E root:=⟨⟨rv,nE⟩,bV,nH,λi h _ hh=>Yp i h hh⟩;have hb2:φ w.heap.size w ((w.alloc (.map #[] 0)).alloc (.cells #[.slice none 0 0,.map (some w.heap.size)] 100)):=((zad _ w).alloc (zab _) _).alloc (by simp) _;have hG:dS w ((w.alloc (.map #[] 0)).alloc (.cells #[.slice none 0 0,.map (some w.heap.size)] 100)) (w.heap.size+1) w.heap.size κ E ⟨[],[]⟩ [] (.slice none 0 0):=
  ⟨by omega,by omega,zab _,hb2,dM w _ _,zbO _ _ _ _,⟨#[],0,(zaK _ _ _ (by simp)).trans (zas w _),rfl⟩,rfl,λj x sv h=>(by simp at h)⟩
 have HN:Hid _:=Ad hgr f f (zab _) d v _ ⟨[],[]⟩ [] (.slice none 0 0) k g' hd hgd hG ⟨λp hp=>(by cases hp),List.nodup_nil⟩ cn hlen;have U6:(Instr.makeMap 98 none).run prog w=.ok (.map (some w.heap.size)) (w.alloc (.map #[] 0)):=rfl;clear hgr hb2 hG hd bV nH cn nE hgd;unfold aq at HN;go_enter func30,ntmps30;go_wp2_with fail;refine zae HN.out ?_;rintro e w1 ⟨rfl,⟨bC,nv,hG,-,-,-⟩,-⟩;have HF:Hid (bJ w1 w.heap.size nv bC g'.nodes∧φ w.heap.size w w1):=⟨⟨hG.row,hG.len,hG.subs⟩,hG.low⟩;have y0:w1.cell? ⟨w.heap.size+1,0,none⟩=some nv:=by
  have hblk:=hG.blk;simp[Φ.cell?,hblk]
 clear hG HN;go_wp2_with fail;go_ret;exact⟨nv,bC,rfl,HF.out⟩
end Go.Proofs.YtlhimdjkkiflhaaGreatDoor
namespace Go.Proofs.YtlhimdjkkiflhaaGreatDoor
open Go.RowKit Go.Loop
def wz (l:List mb):Bool:=decide (l≠[])&&decide (l.length≤150)&&l.all λx=>decide (x.text.length≤1000000)&&decide (x.subs.length≤1000000)
def xh (s:List UInt8)(k:Nat):Nat:=(((aG (s.length+1) s 0)[k-1]?).map (·.ic)).getD 0
def AP (s:List UInt8)(d:Dt)(e:Nat)(nodes:List mb):Option (List UInt8×Int):=
 if lT s e=false then some ([],3)
 else if kC (nodes.map bF)=true then some ([],9)
 else match nP d 1000 d with
  |none=>none
  |some (.inl e)=>some ([],e)
  |some (.inr x)=>match iy d 100000 x ⟨[],[]⟩with
   |none=>none
   |some h=>if wz h.2.nodes=true then some (cK (h.2.nodes.map bF) 0 403)else none
def kI (s:List UInt8):Option (List UInt8×Int):=
 match aO (aG (s.length+1) s 0) 30 2000 ⟨0,false,[]⟩ ⟨0,0,[]⟩with
 |.out=>none
 |.fail e _=>some ([],e)
 |.ok d s'=>match iy d 100000 d ⟨[],[]⟩with
  |none=>none
  |some g=>
   if(aW d d&&ja d&&wz g.2.nodes&&cJ (g.2.nodes.map bF)&&decide (xh s s'.k≤s.length))=true then AP s d (xh s s'.k) g.2.nodes else none
theorem E4 {s:List UInt8}{r:List UInt8×Int}(h:kI s=some r){d:Dt}{s':gK}(eF:aO (aG (s.length+1) s 0) 30 2000 ⟨0,false,[]⟩ ⟨0,0,[]⟩=.ok d s'):∃k g,iy d 100000 d ⟨[],[]⟩=some (k,g)∧aW d d=true∧ja d=true∧wz g.nodes=true∧cJ (g.nodes.map bF)=true∧xh s s'.k≤s.length∧AP s d (xh s s'.k) g.nodes=some r:=by
 unfold kI at h;rw[eF]at h;simp only at h;cases hn:iy d 100000 d ⟨[],[]⟩with
 |none=>rw[hn]at h;cases h
 |some g=>
  rw[hn]at h;simp only at h;split at h
  ·rename_i hc;simp only[zaj,zaQ]at hc;obtain⟨⟨⟨⟨h1,h2⟩,h3⟩,h4⟩,h5⟩:=hc;exact⟨g.1,g.2,rfl,h1,h2,h3,h4,h5,h⟩
  ·cases h
theorem gD {l:List mb}(h:wz l=true):l≠[]∧l.length≤150∧∀x∈l,x.text.length≤χ∧x.subs.length≤χ:=by
 unfold wz at h;simp only[zaj,zaQ,zaI]at h;obtain⟨⟨h1,h2⟩,h3⟩:=h;refine⟨h1,h2,λx hx=>?_⟩;have:=h3 x hx;unfold χ;omega
set_option maxRecDepth 1000000
end Go.Proofs.YtlhimdjkkiflhaaGreatDoor
namespace Go.Ren
open Go.Proofs.Tryz
open Go Go.Conc Go.ConcX Go.RowKit Go.Proofs Go.Loop Go.Proofs.YtlhimdjkkiflhaaGreatDoor
def c11 (f:Func):Code:=f.body.getD .skip
def Xv (f:Func):Code:=Ren.bD (c11 f)
def PS (f:Func):Array Oper:=Ren.fh (Ren.bD (Ren.aZ (c11 f)))
def IW (f:Func):Code:=Ren.aZ (Ren.aZ (c11 f))
theorem BW:prog.funcs[11]?=some f11:=by kernel_rfl
theorem aaL:f11.body=some (.seq (Xv f11) (.seq (.region 1 (PS f11) false) (IW f11))):=by kernel_rfl
theorem ae2:f11.ntmps=42:=by kernel_rfl
theorem t42 (x:Ω):(#[x]++Array.replicate (42-#[x].size) Θ:Array Ω)=#[x,Θ,Θ,Θ,Θ,Θ,Θ,Θ,Θ,Θ,Θ,Θ,Θ,Θ,Θ,Θ,Θ,Θ,Θ,Θ,Θ,Θ,Θ,Θ,Θ,Θ,Θ,Θ,Θ,Θ,Θ,Θ,Θ,Θ,Θ,Θ,Θ,Θ,Θ,Θ,Θ,Θ]:=by
 generalize Θ=u;simp[Array.replicate,θ]
theorem Xw (x:Ω):ψ.enter prog 11 #[x] .normal=(base 11).at ⟨#[x,Θ,Θ,Θ,Θ,Θ,Θ,Θ,Θ,Θ,Θ,Θ,Θ,Θ,Θ,Θ,Θ,Θ,Θ,Θ,Θ,Θ,Θ,Θ,Θ,Θ,Θ,Θ,Θ,Θ,Θ,Θ,Θ,Θ,Θ,Θ,Θ,Θ,Θ,Θ,Θ,Θ],[]⟩ [.code (.seq (Xv f11) (.seq (.region 1 (PS f11) false) (IW f11)))]:=by
 rw[enter_at _ BW aaL,ae2,t42]
theorem ac1:bp prog Fz Sz (Xv f11)=true:=by kernel_rfl
theorem YS:bp prog Fz Sz (IW f11)=true:=by kernel_rfl
theorem YT:(PS f11).size=8:=by kernel_rfl
def Li (f:Func)(i:Nat):Oper:=(PS f)[i]!
theorem aaM:(PS f11)[0]?=some (Li f11 0):=by kernel_rfl
theorem aaN:(PS f11)[1]?=some (Li f11 1):=by kernel_rfl
theorem aaO:(Li f11 0).op=.move (.tmp 0):=by kernel_rfl
theorem aaP:(Li f11 1).op=.call { callee:= .value (.func 25),args:=#[.tmp 9,.const (Γ Δ 30)],argTypes:=#[9,3] }:=by kernel_rfl
theorem aaQ:(Li f11 0).guard=none:=by kernel_rfl
theorem aaR:(Li f11 1).guard=none:=by kernel_rfl
theorem aaS:(Li f11 0).dst=some 9:=by kernel_rfl
theorem aaT:((PS f11)[1]?).bind (·.dst)=some 10:=by kernel_rfl
theorem ac2:([2,3,4,5,6,7].all λi=>((PS f11)[i]?).all λo=>gw prog Fz Sz o.op)=true:=by kernel_rfl
theorem IX:f11.results=#[.tmp 2,.tmp 3]:=by kernel_rfl
theorem bf.below {lo K:Nat}{L:List Int}{w w':Φ}{E:Env}{d:Dt}{v:Ω}(h:bf lo K L w E d v)(hb:φ w.heap.size w w'):bf lo K L w' E d v:=
 bf.keep (w:=w) (w':=w') (zab _) (zab _) (λ_ h=>h) (λb _ h=>hb.block b h) ⟨λ_ _=>rfl,λ_ _=>rfl⟩ d v h
theorem bf.heap {lo K:Nat}{L:List Int}{w w':Φ}{E:Env}{d:Dt}{v:Ω}(h:bf lo K L w E d v)(e:w'.heap=w.heap):bf lo K L w' E d v:=
 bf.keep (w:=w) (w':=w') (zab _) (zab _) (λ_ h=>h) (λb _ _=>by rw[e]) ⟨λ_ _=>rfl,λ_ _=>rfl⟩ d v h
theorem Pm {s:List UInt8}{r:List UInt8×Int}(h:kI s=some r)(hq:VQ (aG (s.length+1) s 0) 30):nJ s 30:=⟨λd s' eF=>by
 obtain⟨k,g,h1,h2,-,h4,-⟩:=E4 h eF;have:=(gD h4).2.1;exact⟨h2,k,g,h1,by omega⟩,hq⟩
theorem Pn {s:List UInt8}{r:List UInt8×Int}(hl:s.length≤400)(h:kI s=some r){a:Nat}{e:Int}(hr:lG s (30:Nat)=some ([],a,e)):r=([],e):=by
 rw[mh (zab _) (by omega)]at hr;cases eF:aO (aG (s.length+1) s 0) 30 2000 ⟨0,false,[]⟩ ⟨0,0,[]⟩with
 |out=>rw[eF]at hr;cases hr
 |fail e' a'=>
  rw[eF]at hr;cases hr;unfold kI at h;rw[eF]at h;cases h;rfl
 |ok d s'=>
  obtain⟨k,g,h1,-,-,h4,-⟩:=E4 h eF;obtain⟨f1,f2,-⟩:=gD h4;rw[eF]at hr;simp only[h1,zbk,zaa (show ¬150<g.nodes.length by omega)]at hr;simp only[zaG,zag]at hr;exact absurd hr.1 f1
theorem Po {s:List UInt8}{r:List UInt8×Int}(hl:s.length≤400)(h:kI s=some r){d:Dt}{s':gK}(eF:aO (aG (s.length+1) s 0) 30 2000 ⟨0,false,[]⟩ ⟨0,0,[]⟩=.ok d s'){nodes:List mb}{ic:Nat}(hr:lG s (30:Nat)=some (nodes,ic,0)):aW d d=true∧ja d=true∧wz nodes=true∧cJ (nodes.map bF)=true∧ic≤s.length∧AP s d ic nodes=some r:=by
 obtain⟨k,g,h1,h2,h3,h4,h5,h6,h7⟩:=E4 h eF;obtain⟨f1,f2,-⟩:=gD h4;rw[mh (zab _) (by omega),eF]at hr;simp only[h1,zbk,zaa (show ¬150<g.nodes.length by omega)]at hr;simp only[zaG,zag,zaA]at hr;obtain⟨rfl,rfl⟩:=hr;exact⟨h2,h3,h4,h5,h6,h7⟩
section
variable {Ψ:aV}{cs:List ψ}{w:Φ}{b:ψ}{a:Act}{ops:Array Oper}{i:Nat}{rest:List Nat}{kk:List Item}
theorem ae.Xx {s:List UInt8}{r:List UInt8×Int}(hl:s.length≤400)(nR:kI s=some r)(hvq:VQ (aG (s.length+1) s 0) 30)(hp:Pow w)(h:∀w',ak w w'→mj prog Sz Ψ cs (.tuple #[.string ⟨⟨r.1⟩⟩,Γ Δ r.2]) w'):ae prog Sz Ψ (ψ.enter prog 11 #[.string ⟨⟨s⟩⟩] .normal) cs w:=by
 have mixed:prog.follows η=true:=by kernel_rfl
 have HH:Hid _:=h;have HP:Hid (Pow w):=hp;have WY:Hid _:=nR;have Yh:Hid _:=hvq;clear h hp nR hvq;rw[Xw];refine ae.seq ?_;refine ae.code cj ac1 rfl ⟨_,BW⟩ rfl λτ d=>?_;have je:Hid (ak w (w.re τ d)):=⟨zab _,λ_ _=>rfl⟩;generalize w.re τ d=w1 at *;generalize en:([.code (.seq (.region 1 (PS f11) false) (IW f11))]:List Item)=kq;dsimp only[Xv,c11,Ren.bD,f11,ζ];go_wp2_with fail;subst en;show ae _ _ _ _ _ _;refine ae.seq ?_;refine ae.region ?_;rw[YT,show ω 8=[0,1,2,3,4,5,6,7] from rfl];refine ae.move' cj aaM aaQ (by decide) aaO aaS (a':=⟨#[.string ⟨⟨s⟩⟩,Θ,.string ⟨#[]⟩,Γ Δ 0,Θ,Θ,Θ,Θ,Θ,.string ⟨⟨s⟩⟩,Θ,Θ,Θ,Θ,Θ,Θ,Θ,Θ,Θ,Θ,Θ,Θ,Θ,Θ,Θ,Θ,Θ,Θ,Θ,Θ,Θ,Θ,Θ,Θ,Θ,Θ,Θ,Θ,Θ,Θ,Θ,Θ],[]⟩) (by simp[ι,ξ]) ?_;refine ae.EA (f:=25) (xs:=#[.tmp 9,.const (Γ Δ 30)]) (ats:=#[9,3]) (args:=#[.string ⟨⟨s⟩⟩,Γ Δ (30:Nat)]) aaN aaR (by decide) aaP bd8 nm8 (by simp[gG,lu]) (by simp[ι]) ?_;refine ae.Yu (zab _) (Pm WY.out Yh.out) aaT (a':=λv=>⟨#[.string ⟨⟨s⟩⟩,Θ,.string ⟨#[]⟩,Γ Δ 0,Θ,Θ,Θ,Θ,Θ,.string ⟨⟨s⟩⟩,v,Θ,Θ,Θ,Θ,Θ,Θ,Θ,Θ,Θ,Θ,Θ,Θ,Θ,Θ,Θ,Θ,Θ,Θ,Θ,Θ,Θ,Θ,Θ,Θ,Θ,Θ,Θ,Θ,Θ,Θ,Θ],[]⟩) (λv=>by simp[ξ]) λv w4 mi=>?_;refine ae.ops cj rfl ⟨_,BW⟩ rfl ac2 2 ((PS f11).toList.drop 2) (by rw[zax,zbM,YT];rfl) (λj=>by rw[zbs,zbq]) λn9 d'=>?_;have hw:(w4.re n9 d').heap=w4.heap:=rfl;generalize w4.re n9 d'=w5 at *;have sU:Hid (ak w w5):=ak.heap (je.out.trans mi.1) hw;have u7:Hid _:=hw;clear hw je;obtain⟨-,⟨fb,e,at_,rfl,hf,Nq⟩|⟨ty,y,nv,bC,nodes,ic,rfl,oG,Nq,nE⟩⟩:=mi
 ·have HF:Hid (cQ w5 fb e at_):=by show w5.heap[fb]?=_;rw[u7.out];exact hf
  have hr:=Pn hl WY.out Nq;subst hr;clear hf Nq u7;generalize en:([.code (IW f11)]:List Item)=kq;dsimp only[PS,c11,Ren.fh,Ren.bD,Ren.aZ,f11,ζ];simp only[zbh,zba];unfold aq;go_wp2_with fail;subst en;show ae _ _ _ _ _ _;have nV:Hid (ak w (w5.alloc Hh)):=sU.out.trans (ak.of ((zad _ _).alloc (zab _) _));have HF6:Hid (cQ (w5.alloc Hh) fb e at_):=cQ.alloc HF.out _;generalize w5.alloc Hh=w6 at *;refine ae.code cj YS rfl ⟨_,BW⟩ rfl λτ d=>?_;have sA:Hid (ak w (w6.re τ d)):=ak.heap nV.out rfl;have HF7:Hid (cQ (w6.re τ d) fb e at_):=HF6.out;generalize w6.re τ d=w7 at *;have y0:w7.cell? ⟨fb,0,none⟩=some (Γ Δ e):=by
   have hf:w7.heap[fb]?=_:=HF7.out;simp[Φ.cell?,hf]
  clear nV HF6 HF sU;dsimp only[IW,c11,Ren.bD,Ren.aZ,f11,ζ];go_wp2_with fail;go_region;go_wp2_with fail;show ∀todo,ae _ _ _ _ _ _;intro todo;refine ae.oH rfl rfl BW (results_tmp2 IX _ _ _) ?_;exact HH.out _ (ak.heap sA.out rfl)
 ·have HN:Hid (bJ w5 0 nv bC nodes):=Ren.bJ.heap oG u7.out;obtain⟨lo,K,L,E,d0,s',eF,cI,nH,-⟩:=nE;obtain⟨bV,sM,AQ,E6,hto,YU⟩:=Po hl WY.out eF Nq;have HD:Hid (bf lo K L w5 E d0 (.iface ty y)):=bf.heap cI u7.out;have HIN:Hid _:=nH;have MA:Hid _:=bV;have HPR:Hid _:=sM;have HT:Hid _:=YU;obtain⟨b1,E7,rfl,hGl,hG,Ar⟩:=sH HN.out (gD AQ).1 (gD AQ).2.2;have HG:Hid _:=hG;have HBR:Hid _:=Ar;have pz:cJ (eE nodes bC)=true:=by rw[←xe,Ar];exact E6
  clear oG Nq u7 cI nH bV sM AQ E6 YU eF WY HN hG;generalize eE nodes bC=G at *;obtain⟨RD,vY,-,hs1,Sx⟩:=ki G pz;have YC:Hid (∀x (hx:x<G.length),dF G[x].subs G.length=true):=hs1;have H20:Hid (∀x,(aw G x).length≤20):=Sx;have BS:Hid ((eY (aw G) G.length).Ok G.length):=Ok.meet (j9 G hs1) _ _ _ (lK _) (by omega);have HCY:Hid (kC (nodes.map bF)=kC G):=by show _=_;rw[←HBR.out,CZ]
  clear hs1 Sx pz Ar hGl HBR;generalize en:([.code (IW f11)]:List Item)=kq;dsimp only[PS,c11,Ren.fh,Ren.bD,Ren.aZ,f11,ζ];simp only[zbh,zba];go_wp2_with fail;subst en;show ae _ _ _ _ _ _;have U4:φ w5.heap.size w5 (w5.alloc (.cells #[.iface ty y,.slice (some ⟨b1,0,none⟩) G.length E7,Γ Δ ic] 60)):=(zad _ _).alloc (zab _) _;have nV:Hid (ak w (w5.alloc (.cells #[.iface ty y,.slice (some ⟨b1,0,none⟩) G.length E7,Γ Δ ic] 60))):=sU.out.trans (ak.of U4);have HD6:Hid (bf lo K L (w5.alloc (.cells #[.iface ty y,.slice (some ⟨b1,0,none⟩) G.length E7,Γ Δ ic] 60)) E d0 (.iface ty y)):=bf.below HD.out U4;have HG6:Hid (bh (w5.alloc (.cells #[.iface ty y,.slice (some ⟨b1,0,none⟩) G.length E7,Γ Δ ic] 60)) b1 0 G):=bh.below HG.out U4;have WT:(w5.alloc (.cells #[.iface ty y,.slice (some ⟨b1,0,none⟩) G.length E7,Γ Δ ic] 60)).heap[w5.heap.size]?=some (.cells #[.iface ty y,.slice (some ⟨b1,0,none⟩) G.length E7,Γ Δ ic] 60):=zas w5 _;clear U4 sU HD HG;generalize (w5.alloc (.cells #[.iface ty y,.slice (some ⟨b1,0,none⟩) G.length E7,Γ Δ ic] 60))=w6 at *;refine ae.code cj YS rfl ⟨_,BW⟩ rfl λτ d=>?_;have sA:Hid (ak w (w6.re τ d)):=ak.heap nV.out rfl;have HD7:Hid (bf lo K L (w6.re τ d) E d0 (.iface ty y)):=bf.heap HD6.out rfl;have HG7:Hid (bh (w6.re τ d) b1 0 G):=bh.SK HG6.out rfl;have Va:(w6.re τ d).heap[w5.heap.size]?=some (.cells #[.iface ty y,.slice (some ⟨b1,0,none⟩) G.length E7,Γ Δ ic] 60):=WT;generalize w6.re τ d=w7 at *;obtain⟨z0,z1,z2⟩:=fR Va;clear nV HD6 HG6 WT Va;have HNo:Hid _:=IV s ic w7 (by omega) hto;dsimp only[IW,c11,Ren.bD,Ren.aZ,f11,ζ];go_wp2_with fail;refine zae HNo.out ?_;rintro e w8 ⟨rfl,rfl⟩;clear HNo hto hl;by_cases hno:lT s ic=false
  ·rw[hno];have hr:r=([],3):=by
    have:=HT.out;unfold AP at this;rw[zac hno]at this;exact(zaF this).symm
   subst hr;clear hno HT;go_wp2_with fail;show ∀todo,ae _ _ _ _ _ _;intro todo;refine ae.oH rfl rfl BW (results_tmp2 IX _ _ _) ?_;exact HH.out _ sA.out
  ·have ac3:lT s ic=true:=by simpa using hno
   rw[ac3];have MJ:Hid _:=HT.out;unfold AP at MJ;rw[zaa hno,HCY.out]at MJ;clear hno ac3 HT HCY;go_wp2_with fail;refine(mn G b1 0 E7 _ HG7.out vY RD YC.out H20.out).mono ?_;rintro e w9 ⟨bm,bw,rfl,-,EK,hb9⟩;have Js:Hid _:=EK;have HB9:Hid (ak w w9):=sA.out.trans (ak.of hb9);have HD9:Hid (bf lo K L w9 E d0 (.iface ty y)):=bf.below HD7.out hb9;have y0:=bE hb9 z0;clear EK hb9 z0 z1 z2 sA HD7 HG7 YC H20;go_wp2_with fail;refine(C0 _ bw G.length BS.out.lw vY _ ⟨_,_,_,rfl⟩ _ Js.out).mono ?_;rw[ML G BS.out];rintro e w10 ⟨rfl,Xy⟩;have ac4:Hid (ak w w10):=HB9.out.trans (ak.of Xy);have aaU:Hid (bf lo K L w10 E d0 (.iface ty y)):=bf.below HD9.out Xy;have x0:=bE Xy y0;clear y0 HB9 HD9 Js Xy;cases Xf:kC G with
   |true=>
    have hr:r=([],9):=by
     have:=MJ.out;rw[zac Xf]at this;exact(zaF this).symm
    subst hr;clear MJ Xf;go_wp2_with fail;show ∀todo,ae _ _ _ _ _ _;intro todo;refine ae.oH rfl rfl BW (results_tmp2 IX _ _ _) ?_;exact HH.out _ ac4.out
   |false=>
    have Es:Hid _:=MJ.out;rw[zaa (by rw[Xf];decide)]at Es;cases hq:nP d0 1000 d0 with
    |none=>have:=Es.out;rw[hq]at this;cases this
    |some q=>
     rw[hq]at Es;have HC:Hid _:=E0 w10 (.iface ty y) aaU.out MA.out HIN.out HPR.out 1000 q hq;clear MJ Xf;go_wp2_with fail;refine zae HC.out ?_;rintro e w11 ⟨ho,S4⟩;have aaV:Hid (ak w w11):=ac4.out.trans (ak.of S4);cases q with
     |inl er=>
      have hne:(er != 0)=true:=by simpa using EX _ _ _ hq
      have hr:r=([],er):=(zaF Es.out).symm;subst hr;unfold uz at ho;subst ho;clear S4 HC Es hq x0;go_wp2_with fail;show ∀todo,ae _ _ _ _ _ _;intro todo;refine ae.oH rfl rfl BW (results_tmp2 IX _ _ _) ?_;exact HH.out _ aaV.out
     |inr x=>
      obtain⟨v',rfl,Iu,hxh⟩:=ho;obtain⟨tx,yx,rfl⟩:=bO Iu;cases hn:iy d0 100000 x ⟨[],[]⟩with
      |none=>have:=Es.out;simp only[hn]at this;cases this
      |some g=>
       obtain⟨k,g⟩:=g;have hT3:=Es.out;simp only[hn]at hT3;by_cases AQ:wz g.nodes=true
       ·rw[zac AQ]at hT3;have hr:=zaF hT3;obtain⟨f1,f2,f3⟩:=gD AQ;have HGF:Hid _:=Lh w11 d0 (.iface ty y) (bf.below aaU.out S4) MA.out x (.iface tx yx) (bf.below Iu S4) (K7 MA.out HPR.out 1000 d0 (sub_self _) x hq).2 HIN.out 100000 k g hn (by omega);have HFT:Hid _:=AQ;clear S4 HC Es hq x0 Iu hn hT3 AQ f1 f2 f3 aaU;go_wp2_with fail;refine zae HGF.out ?_;rintro e w12 ⟨nv2,Oy,rfl,PK,ac5⟩;have aaW:Hid (ak w w12):=aaV.out.trans (ak.of ac5);obtain⟨b2,ae3,rfl,hl2,Zw,S5⟩:=sH PK (gD HFT.out).1 (gD HFT.out).2.2;have ud:(eE g.nodes Oy).length≤χ:=by
         have:=(gD HFT.out).2.1;unfold χ;omega
        have hwr:cK (eE g.nodes Oy) 0 403=r:=by rw[←qu,S5];exact hr
        have HW:Hid _:=uo (eE g.nodes Oy) b2 0 ae3 0 403 (zab _) w12 ud Zw (Pow.Ic HP.out aaW.out);rw[hwr]at HW;generalize eE g.nodes Oy=G2 at *;clear HGF PK ac5 Zw S5 hwr hr ud hl2 HFT aaV;go_wp2_with fail;refine zae HW.out ?_;rintro e w13 ⟨rfl,ac6⟩;have ae4:Hid (ak w w13):=aaW.out.trans (ak.of ac6);clear HW ac6 aaW;go_wp2_with fail;show ∀todo,ae _ _ _ _ _ _;intro todo;refine ae.oH rfl rfl BW (results_tmp2 IX _ _ _) ?_;exact HH.out _ ae4.out
       ·rw[zaa AQ]at hT3;cases hT3
end
end Go.Ren
namespace Go.Proofs.YtlhimdjkkiflhaaGreatDoor
open Go.Proofs.Tryz
open Go.RowKit Go.Loop
def headD (n:Nat):List UInt8:=if n=0 then[]else Λ n
theorem Lj (n:Nat)(h:0<n):headD n=headD (n/10)++[UInt8.ofNat (48+n%10)]:=by
 unfold headD;rw[zaa (by omega)];by_cases h10:n<10
 ·rw[zac (by omega),Lib.decDigits_one h10,Nat.mod_eq_of_lt h10];rfl
 ·rw[zaa (by omega),Λ,dif_neg h10]
theorem AR (z:Int)(wr:Φ):(convert 80 9 (.slice (some ⟨wr.heap.size,0,none⟩) 1 1)).run prog (wr.alloc (.cells #[.int .u8 z] 5))=.ok (.string ⟨⟨[UInt8.ofNat z.toNat]⟩⟩) (wr.alloc (.cells #[.int .u8 z] 5)):=by
 have:=run_convert_bytes_arg (P:=prog) (wr.alloc (.cells #[.int .u8 z] 5)) 80 5 underlying80 underlying5 wr.heap.size 0 1 1 [z] rfl (λi hi=>by
  obtain rfl:i=0:=by omega
  have:(wr.alloc (.cells #[.int .u8 z] 5)).heap[wr.heap.size]?=some (.cells #[.int .u8 z] 5):=by
   show(wr.heap.push _)[wr.heap.size]?=_;simp
  simp only[Φ.cell?,this];rfl) 9 underlying9
 rw[this];rfl
theorem lU (u:Nat)(w:Φ)(hu:u≤1000000000):π prog 21 #[Γ Δ u] w λe w'=>e=.returned (.string ⟨⟨Λ u⟩⟩)∧φ w.heap.size w w':=by
 have hlen:=gT u hu;go_enter func21,ntmps21;go_wp2_with fail;go_loopw [0,3] (λn s wr=>∃(k:Nat) (t:List UInt8),n=Γ Δ k∧s=.string ⟨⟨t⟩⟩∧k≤1000000000∧t.length≤12∧Hid ((t=[]∧k=u)∨(t≠[]∧Λ u=headD k++t))∧Hid (φ w.heap.size w wr)) (λn s _=>(ό n).toNat + (match s with|.string b=>if b.size=0 then 1 else 0|_=>0))
 case atStart=>exact⟨u,[],rfl,rfl,hu,by simp,.inl ⟨rfl,rfl⟩,zad _ _⟩
 case round=>
  obtain⟨k,t,rfl,rfl,hk,ht,hI,hW⟩:=hrel;have hrun:=AR (48+(k:Int)%10) wr;have ks:=ri;by_cases h0:0<k
  ·have hstep:=Lj k h0;have hne:1≤(headD k).length:=by rw[hstep];simp
   have hI2:t=[]∨t.length≤10:=by
    rcases hI.out with⟨h,_⟩|⟨_,h⟩
    ·exact .inl h
    ·rw[h,zbg]at hlen;exact .inr (by omega)
   have hI3:Hid (Λ u=headD (k/10)++UInt8.ofNat (48+k%10)::t):=by
    rcases hI.out with⟨h,hu⟩|⟨_,h⟩
    ·subst h hu;have:Λ k=headD k:=by unfold headD;rw[zaa (by omega)]
     show _=_;rw[this,hstep]
    ·show _=_;rw[h,hstep,zcf];rfl
   go_wp2_with fail;refine⟨⟨k/10,UInt8.ofNat (48+k%10)::t,by simp,by simp[UInt8.ofNat_add],by omega,?_,.inr ⟨by simp,hI3.out⟩,hW.out.alloc hW.out.size _⟩,?_⟩
   ·rcases hI2 with rfl|h
    ·simp
    ·simp;omega
   ·simp[ό,ByteArray.size];omega
  ·obtain rfl:k=0:=by omega
   have afD:=AR 48 wr;clear hrun;cases t with
   |nil=>
    have hu0:Hid (Λ u=[48]):=by
     rcases hI.out with⟨_,h⟩|⟨h,_⟩
     ·subst h;exact Lib.decDigits_one (by omega)
     ·exact absurd rfl h
    go_wp2_with fail;refine⟨⟨0,[48],by simp,by simp,by omega,by simp,.inr ⟨by simp,hu0.out⟩,hW.out.alloc hW.out.size _⟩,?_⟩;simp[ό,ByteArray.size]
   |cons c t=>
    go_wp2_with fail;go_ret;refine⟨eB ?_,hW.out⟩;rcases hI.out with⟨h,_⟩|⟨_,h⟩
    ·cases h
    ·exact h.symm
def DgN (e:Ending):Prop:=∃c:UInt8,e=.returned (.string ⟨⟨[c]⟩⟩)
theorem Ll (u:Nat)(w:Φ)(h1:1≤u)(hu:u≤1000000):π prog 21 #[Γ Δ (-(u:Int))] w λe w'=>DgN e∧φ w.heap.size w w':=by
 have em:(-(u:Int)).tmod 10=-((u%10:Nat):Int):=by rw[Int.neg_tmod];rfl
 have eq:(-(u:Int)).tdiv 10=-((u/10:Nat):Int):=by rw[Int.neg_tdiv];rfl
 have hm:u%10<10:=Nat.mod_lt _ (by omega);go_enter func21,ntmps21;go_wp2_with fail;go_loopw [0,3] (λn s wr=>((n=Γ Δ (-(u:Int))∧s=.string ⟨⟨[]⟩⟩)∨∃(k:Nat) (c:UInt8),n=Γ Δ (-(k:Int))∧s=.string ⟨⟨[c]⟩⟩)∧Hid (φ w.heap.size w wr)) (λ_ s _=>(match s with|.string b=>if b.size=0 then 1 else 0|_=>0))
 case atStart=>exact⟨.inl ⟨rfl,rfl⟩,zad _ _⟩
 case round=>
  obtain⟨⟨rfl,rfl⟩|⟨k,c,rfl,rfl⟩,hW⟩:=hrel
  ·have hrun:=AR (48 + -((u:Int)%10)) wr;have ks:=ri;go_wp2_with fail;refine⟨⟨.inr ⟨u/10,_,by first|rfl|simp,rfl⟩,hW.out.alloc hW.out.size _⟩,?_⟩;simp[ByteArray.size]
  ·go_wp2_with fail;go_ret;exact⟨⟨_,rfl⟩,hW.out⟩
end Go.Proofs.YtlhimdjkkiflhaaGreatDoor
namespace Go.Loop
theorem yf:∀d:Nat,d<10→(UInt8.ofNat (48+d)).toNat=48+d:=by decide
theorem E9 {Q:Nat→List UInt8→Prop}(h1:∀u,u<10→Q u [UInt8.ofNat (48+u)])(h2:∀u,10≤u→Q (u/10) (Λ (u/10))→Q u (Λ (u/10)++[UInt8.ofNat (48+u%10)])):∀u,Q u (Λ u):=by
 intro u
 induction u using Nat.strongRecOn with
 |ind u ih=>
  by_cases h:u<10
  ·rw[Lib.decDigits_one h];exact h1 u h
  ·rw[Λ,dif_neg h];exact h2 u (by omega) (ih (u/10) (by omega))
theorem nS (u:Nat):∀c∈Λ u,48≤c.toNat∧c.toNat≤57:=
 E9 (Q:=λ_ l=>∀c∈l,48≤c.toNat∧c.toNat≤57) (λu h c hc=>by
  simp only[zcg]at hc;subst hc;rw[yf u h];omega) (λu h ih c hc=>by
  rcases zbm.1 hc with hc|hc
  ·exact ih c hc
  ·simp only[zcg]at hc;subst hc;rw[yf _ (Nat.mod_lt _ (by omega))];omega) u
theorem AU (u:Nat):Λ u≠[]:=E9 (Q:=λ_ l=>l≠[]) (λ_ _=>by simp) (λ_ _ _=>by simp) u
theorem l9 (l:List UInt8)(c:UInt8):aD (l++[c])=min (aD l*10+((c.toNat:Int)-48)) 1000001:=by simp[aD,eK]
theorem Lm (u:Nat):u≤1000001→aD (Λ u)=u:=
 E9 (Q:=λu l=>u≤1000001→aD l=u) (λu h _=>by
  have:=l9 [] (UInt8.ofNat (48+u));rw[yf u h]at this;simp only[zbA]at this;rw[this];simp only[aD,eK,List.foldl_nil];omega) (λu h ih hu=>by
  rw[l9,ih (by omega),yf _ (Nat.mod_lt _ (by omega))];omega) u
theorem AV:∀l:List UInt8,(∀c∈l,c.toNat≠47)→oh l=none
 |[],_=>rfl
 |c::r,h=>by
  rw[oh,zaa (h c zam),AV r λx hx=>h x (zap _ hx)];rfl
theorem S6 (u:Nat):dE (Λ u)=true:=by
 unfold dE;have h1:(Λ u).isEmpty=false:=by
  cases h:Λ u with
  |nil=>exact absurd h (AU u)
  |cons c r=>rfl
 rw[h1];simp only[Bool.not_false,zbL,zaI];intro c hc;have:=nS u c hc;simp only[dD,zaQ];omega
theorem uD (neg:Bool)(u:Nat)(hu:u≤1000000):numberOf neg (Λ u)=some (if neg then -(u:Int)else u,1,0):=by
 have hs:=AV (Λ u) λc hc=>by have:=nS u c hc;omega
 have ha:=Lm u (by omega);unfold numberOf;rw[hs];simp only[zbB];rw[S6 u,show dE [49]=true from rfl,ha,show aD [49]=1 from rfl];simp only[Bool.and_self,if_true];rw[zaa (by omega),zaa (by omega)];simp
theorem IY (u:Nat):(Λ u).all zw=true:=by
 rw[zaI];intro c hc;have:=nS u c hc;have hd:dD (c.toNat:Int)=true:=by simp only[dD,zaQ];omega
 simp[zw,bz,hd]
theorem IZ (u:Nat):cy (Λ u)=true:=by
 cases h:Λ u with
 |nil=>exact absurd h (AU u)
 |cons c r=>
  have:=nS u c (by rw[h];exact zam);simp only[cy];rw[zaa (by omega)];simp only[dD,zaQ];omega
theorem Fa (x:Int)(h1: -1000000≤x)(h2:x≤1000000):fC (Ξ x)=some (x,1,0)∧cy (Ξ x)=true∧(Ξ x).all zw=true∧Ξ x≠[]∧Ξ x≠[46]:=by
 by_cases h0:0≤x
 ·obtain⟨u,rfl⟩:=zbD h0;rw[Lib.itoa_nonneg];have hd:=nS u;refine⟨?_,IZ u,IY u,AU u,λe=>?_⟩
  ·have hn:=uD false u (by omega);cases h:Λ u with
   |nil=>exact absurd h (AU u)
   |cons c r=>
    have hc:=hd c (by rw[h];exact zam);rw[fC,zaa (by omega),zaa (by omega),←h,hn];rfl
  ·have:=hd 46 (by rw[e];exact zam);have e46:(46:UInt8).toNat=46:=rfl;omega
 ·obtain⟨u,rfl⟩:∃u:Nat,x=-(u:Int):=⟨x.natAbs,by omega⟩;rw[Lib.itoa_neg u (by omega)];have hn:=uD true u (by omega);refine⟨?_,?_,?_,by simp,λe=>?_⟩
  ·rw[fC,zac (show UInt8.toNat 45=45 from rfl),hn];rfl
  ·have hm:=IZ u;cases h:Λ u with
   |nil=>exact absurd h (AU u)
   |cons c r=>
    have hc:=nS u c (by rw[h];exact zam);simp only[cy];rw[zac (.inr rfl)];simp only[dD,zaQ];omega
  ·rw[zat,IY];rfl
  ·have:=(List.cons.inj e).1;cases this
theorem yg:∀(w r:List UInt8),w.all zw=true→br bz r=0→br bz (w++r)=w.length
 |[],_,_,h=>h
 |c::w,r,h,hr=>by
  simp only[zat,zaj]at h;have hc:bz (c.toNat:Int)=true:=h.1;rw[zaM,br,zac hc,yg w r h.2 hr,zar]
def iC (a:Nat)(x:Int):Tok:={ ax 13 a (a+(Ξ x).length)with n:=x,d:=1 }
theorem aaX {s:List UInt8}{a:Nat}{x:Int}{r:List UInt8}(h1: -1000000≤x)(h2:x≤1000000)(h:s.drop a=Ξ x++r)(hr:br bz r=0):jX s a=iC a x:=by
 obtain⟨g1,g2,g3,g4,g5⟩:=Fa x h1 h2;have hrun:=yg _ r g3 hr;unfold iC;generalize Ξ x=w at *;cases w with
 |nil=>exact absurd rfl g4
 |cons c w=>
  have hc:bz (c.toNat:Int)=true:=by
   simp only[zat,zaj]at g3;exact g3.1
  have n40:c.toNat≠40:=λe=>by rw[e]at hc;cases hc
  have n41:c.toNat≠41:=λe=>by rw[e]at hc;cases hc
  have n39:c.toNat≠39:=λe=>by rw[e]at hc;cases hc
  have n34:c.toNat≠34:=λe=>by rw[e]at hc;cases hc
  have n35:c.toNat≠35:=λe=>by rw[e]at hc;cases hc
  unfold jX;rw[h,zaM];dsimp only;rw[zaa n40,zaa n41,zaa n39,zaa n34,zaa n35,zac hc];have hcut:fX s a (a+(c::w).length)=c::w:=by
   simp only[fX,h];rw[show a+(c::w).length - a=(c::w).length by omega];simp
  unfold l7;dsimp only;rw[h,hrun,hcut,zaa g5,g2,g1];rfl
def aN (l:List Int):List UInt8:=(l.map λx=>32::Ξ x).flatten
def pg:List Int→Nat→List Tok
 |[],_=>[]
 |x::l,a=>iC (a+1) x::pg l (a+1+(Ξ x).length)
theorem oU (x:Int)(l:List Int):aN (x::l)=32::(Ξ x++aN l):=by simp[aN]
theorem Ln (l:List Int)(x:Int):aN (l++[x])=aN l++32::Ξ x:=by simp[aN]
theorem wA (l:List Int)(r:List UInt8)(hr:br bz r=0):br bz (aN l++r)=0:=by
 cases l with
 |nil=>exact hr
 |cons x l=>rw[oU,zaM];rfl
theorem rp:∀(l:List Int) {s:List UInt8} {a:Nat} {r:List UInt8},(∀x∈l,-1000000≤x∧x≤1000000)→s.drop a=aN l++r→br bz r=0→Goes s a (pg l a) (a+(aN l).length)
 |[],s,a,r,_,h,hr=>Goes.nil
 |x::l,s,a,r,hb,h,hr=>by
  obtain⟨b1,b2⟩:=hb x zam;rw[oU,zaM,zcf]at h;have h1:s.drop (a+1)=Ξ x++(aN l++r):=xW h rfl;have h2:s.drop (a+1+(Ξ x).length)=aN l++r:=by rw[←zbo,h1];simp
  obtain⟨-,-,g3,g4,-⟩:=Fa x b1 b2;have hsk:(cF (32::(Ξ x++(aN l++r))).length true (32::(Ξ x++(aN l++r)))).1=1:=by
   cases hw:Ξ x with
   |nil=>exact absurd hw g4
   |cons c w=>
    rw[hw]at g3;simp only[zat,zaj]at g3;have hc:bz (c.toNat:Int)=true:=g3.1;have m32:c.toNat≠32:=λe=>by rw[e]at hc;cases hc
    have m9:c.toNat≠9:=λe=>by rw[e]at hc;cases hc
    have m10:c.toNat≠10:=λe=>by rw[e]at hc;cases hc
    have m59:c.toNat≠59:=λe=>by rw[e]at hc;cases hc
    have m35:c≠35:=λe=>by rw[e]at hc;cases hc
    simp[cF,fQ,m32,m9,m10,m59,jS m35]
  have e:aL s a=iC (a+1) x:=(eo h hsk).trans (aaX b1 b2 h1 (wA l r hr));have:=Goes.cons e rfl rfl (rp l (λy hy=>hb y (zap _ hy)) h2 hr);rw[oU,zar,zbg,show a+((Ξ x).length + (aN l).length + 1)=a+1+(Ξ x).length + (aN l).length by omega];exact this
def kT (h:UInt8)(l:List Int):List UInt8:=40::h::(aN l++[41])
def jc (h:UInt8)(l:List Int):List Tok:=ax 2 0 1::iB 1 [h]::pg l 2
theorem uE (h:UInt8)(l:List Int):(kT h l).length=(aN l).length + 3:=by simp[kT]
theorem I0 {h:UInt8}(hh:h=43∨h=45∨h=42)(l:List Int)(hb:∀x∈l,-1000000≤x∧x≤1000000):∃e:Tok,e.kind=0∧∀n,(jc h l).length + 2≤n→aG n (kT h l) 0=jc h l++[ax 3 ((aN l).length + 2) ((aN l).length + 3),e]:=by
 have h0:(kT h l).drop 0=40::h::(aN l++[41]):=rfl;have h1:(kT h l).drop 1=[h]++(aN l++[41]):=rfl;have h2:(kT h l).drop 2=aN l++[41]:=rfl;have hr:br bz (aN l++[41])=0:=wA l _ rfl;have e0:aL (kT h l) 0=ax 2 0 1:=(eo h0 (k:=0) (by simp[cF,fQ,jS])).trans (EO h0);have afE:bz (h.toNat:Int)=true:=by rcases hh with rfl|rfl|rfl<;>rfl
 have hsk:(cF ([h]++(aN l++[41])).length true ([h]++(aN l++[41]))).1=0:=by
  rcases hh with rfl|rfl|rfl<;>simp[cF,fQ,jS]
 have e1:aL (kT h l) 1=iB 1 [h]:=(eo h1 hsk).trans (EP (w:=[h]) (r:=aN l++[41]) (by simp) h1 (by rcases hh with rfl|rfl|rfl<;>rfl) (by rcases hh with rfl|rfl|rfl<;>rfl) (yg [h] _ (by rcases hh with rfl|rfl|rfl<;>rfl) hr) (by rcases hh with rfl|rfl|rfl<;>rfl) (by rcases hh with rfl|rfl|rfl<;>simp));have g:=rp l hb h2 (r:=[41]) rfl;have h3:(kT h l).drop ((aN l).length + 2)=[41]:=by
  have:=zal (λt=>t.drop (aN l).length) h2;simp only[zbo]at this;rw[Nat.add_comm,this];simp
 have h4:(kT h l).drop ((aN l).length + 3)=[]:=by rw[List.drop_eq_nil_iff,uE];omega
 have e3:aL (kT h l) (2+(aN l).length)=ax 3 ((aN l).length + 2) ((aN l).length + 3):=by
  rw[Nat.add_comm];exact(eo h3 (k:=0) (by simp[cF,fQ,jS])).trans (Av h3)
 have e4:aL (kT h l) ((aN l).length + 3)=mE (kT h l):=(eo h4 (k:=0) (by simp[cF])).trans (at_end h4);have gg:Goes (kT h l) 0 (jc h l++[ax 3 ((aN l).length + 2) ((aN l).length + 3)]) ((aN l).length + 3):=
  (Goes.cons e0 rfl rfl (Goes.cons e1 rfl rfl g)).trans (Goes.cons e3 rfl rfl Goes.nil)
 refine⟨mE (kT h l),rfl,λn hn=>?_⟩;obtain⟨m,rfl⟩:∃m,n=(m+1)+(jc h l++[ax 3 ((aN l).length + 2) ((aN l).length + 3)]).length:=⟨n-(jc h l).length - 2,by simp only[zbg,List.length_singleton];omega⟩;rw[gg (m+1),Az e4 rfl,zcf];rfl
theorem uF {T:List Tok}{dp n:Nat}{p:Pl}{s:gK}{a:Nat}{x:Int}:cE T dp (n+1) (iC a x) p s=.ok (.num x 1) s:=by
 rw[cE];simp[iC,ax,zQ]
theorem lh:∀(l:List Int) (a:Nat),(pg l a).length=l.length
 |[],_=>rfl
 |x::l,a=>by simp[pg,lh l]
def eL (l:List Int):List Dt:=l.map λx=> .num x 1
theorem De {T:List Tok}{p:Pl}:∀(l:List Int) {n k i a:Nat} {data:List Dt} {more:List Tok},T.drop k=pg l a++more→cr T 30 (n+2+l.length) data p ⟨k,i,[]⟩=cr T 30 (n+2) (data++eL l) p ⟨k+l.length,i,[]⟩
 |[],n,k,i,a,data,more,h=>by simp[eL]
 |x::l,n,k,i,a,data,more,h=>by
  have hk:T[k]?=some (iC (a+1) x):=by
   have:=zal (λt=>t[0]?) h;simpa[pg]using this
  have h2:T.drop (k+1)=pg l (a+1+(Ξ x).length)++more:=by rw[←zbo,h];rfl
  rw[zar,show n+2+(l.length+1)=(n+l.length+1)+2 by omega,ix hk (by simp[iC,ax]) (by simp[iC,ax]) (by simp[iC,ax]) (by simp[iC,ax]) (by simp[iC,ax]) uF];rw[show n+l.length+1+1=n+2+l.length by omega,De l h2];simp only[eL,zaD,zcf,List.singleton_append];rw[show k+1+l.length=k+(l.length+1) by omega]
theorem aaY {T:List Tok}(h:UInt8)(l:List Int){more:List Tok}{x y:Nat}(hT:T=jc h l++ax 3 x y::more)(hl:l.length≤20):aO T 30 2000 ⟨0,false,[]⟩ ⟨0,0,[]⟩=.ok (aS (.sym [h]::eL l) .nil 0).1 ⟨l.length+3,(aS (.sym [h]::eL l) .nil 0).2,[]⟩:=by
 have k0:T[0]?=some (ax 2 0 1):=by rw[hT];rfl
 have k1:T[1]?=some (iB 1 [h]):=by rw[hT];rfl
 have k2:T.drop 2=pg l 2++ax 3 x y::more:=by rw[hT];rfl
 have k3:T[l.length+2]?=some (ax 3 x y):=by
  have:=zal (λt=>t[l.length]?) k2;simp only[zbs]at this;rw[show l.length+2=2+l.length by omega,this,zbw (by rw[lh];omega),lh,Nat.sub_self];rfl
 rw[show(2000:Nat)=1998+2 from rfl,aO,yc k0 (by simp[ax]) (by simp[ax]) (by simp[ax])];simp only[RR.bind];rw[show(1998+1:Nat)=1998+1 from rfl,wh (by decide)];rw[show(1998:Nat)=1996+2 from rfl,ix k1 (by simp[iB,ax]) (by simp[iB,ax]) (by simp[iB,ax]) (by simp[iB,ax]) (by simp[iB,ax]) Aw];rw[show(1996+1:Nat)=(1995-l.length)+2+l.length by omega,De l k2];have k4:T[({ k:=0+1+1+l.length,fresh:=0,aT:=[] }:gK).k]?=some (ax 3 x y):=by
  show T[0+1+1+l.length]?=_;rw[show 0+1+1+l.length=l.length+2 by omega];exact k3
 have:=sI (T:=T) (dp:=30) (n:=1995-l.length) (p:=⟨1,false,[]⟩) (data:=[]++[Dt.sym [h]]++eL l) k4 rfl;refine this.trans ?_;simp only[zbA,List.singleton_append];rw[show 0+1+1+l.length+1=l.length+3 by omega]
end Go.Loop
namespace Go.Proofs.YtlhimdjkkiflhaaGreatDoor
open Go.RowKit Go.Loop
def gl:Dt→mb
 |.sym s=>⟨4,s,0,0,[]⟩
 |.num a b=>⟨5,[],a,b,[]⟩
 |_=>⟨0,[],0,0,[]⟩
def atB:Dt→Bool
 |.sym _|.num _ _=>true
 |_=>false
theorem S7 {root:Dt}{n:Nat}{g:mO}:∀{d:Dt},atB d=true→iy root (n+1) d g=some (g.nodes.length,g.add (gl d))
 |.sym s,_=>by rw[iy,show(200000:Nat)=199999+1 from rfl,AB root 199999 _ rfl];rfl
 |.num a b,_=>by rw[iy,show(200000:Nat)=199999+1 from rfl,AB root 199999 _ rfl];rfl
 |.nil,h=>by cases h
 |.cU _,h=>by cases h
 |.sQ _,h=>by cases h
 |.txt _ _,h=>by cases h
 |.pair _ _ _,h=>by cases h
 |.vec _ _,h=>by cases h
 |.gJ,h=>by cases h
 |.cD _ _,h=>by cases h
 |.put _ _,h=>by cases h
 |.ask _,h=>by cases h
def ee:List Dt→Nat→List mb
 |[],_=>[⟨0,[],0,0,[]⟩]
 |d::l,b=>⟨1,[],0,0,[b+1,b+2]⟩::gl d::ee l (b+2)
theorem jJ:∀(l:List Dt) (b:Nat),(ee l b).length=2*l.length+1
 |[],_=>rfl
 |d::l,b=>by simp only[ee,zar,jJ l];omega
theorem AW (x:mb)(r:List mb)(s:List Nat):∀l:List mb,dJ (l++x::r) l.length s=l++{ x with subs:=s }::r
 |[]=>rfl
 |y::l=>by
  have:=AW x r s l;unfold dJ at this ⊢;simp only[zaM,zar,List.modify_succ_cons,this]
theorem AX:∀(l:List Dt) (i:Nat),(aS l .nil i).2=i+l.length
 |[],_=>rfl
 |d::l,i=>by simp only[aS,AX l,zar];omega
theorem lV {root a b:Dt}{i:Nat}:bN root 200000 (.pair i a b)=.pair i a b:=by rw[show(200000:Nat)=199999+1 from rfl];rfl
theorem Df {root:Dt}:bN root 200000 .nil=.nil:=by rw[show(200000:Nat)=199999+1 from rfl];rfl
theorem Dg {k:Nat}:∀m:List (Nat×Nat),(∀p∈m,k<p.1)→m.lookup k=none
 |[],_=>rfl
 |p::m,h=>by
  have hp:=h p zam;rw[zcm,show(k==p.1)=false from by simp;omega];exact Dg m λq hq=>h q (zap _ hq)
theorem Dh {root:Dt}:∀(l:List Dt) (i n:Nat) (g:mO),(∀d∈l,atB d=true)→3*l.length+1≤n→(∀p∈g.met,i+l.length≤p.1)→∃aaZ,iy root n (aS l .nil i).1 g=some (g.nodes.length,⟨g.nodes++ee l g.nodes.length,aaZ⟩)
 |[],i,n,g,_,hn,_=>by
  obtain⟨m,rfl⟩:∃m,n=m+1:=⟨n-1,by omega⟩;refine⟨g.met,?_⟩;show iy root (m+1) .nil g=_;rw[iy,Df];rfl
 |d::l,i,n,g,ha,hn,hm=>by
  simp only[zar]at hn hm;obtain⟨m,rfl⟩:∃m,n=m+4:=⟨n-4,by omega⟩;have hlk:g.met.lookup (i+l.length)=none:=Dg _ λp hp=>by have:=hm p hp;omega
  obtain⟨aaZ,ih⟩:=Dh (root:=root) l i (m+1) (mO.add ⟨g.nodes++[⟨1,[],0,0,[]⟩],(i+l.length,g.nodes.length)::g.met⟩ (gl d)) (λx hx=>ha x (zap _ hx)) (by omega) (λp hp=>by
   have Bt:p∈(i+l.length,g.nodes.length)::g.met:=hp;rcases zav.1 Bt with rfl|Bt
   ·exact zab _
   ·have:=hm p Bt;omega)
  refine⟨aaZ,?_⟩;show iy root (m+4) (.pair (aS l .nil i).2 d (aS l .nil i).1) g=_;rw[AX,iy,lV];simp only[hlk];rw[Go.Loop.iz];try simp only
  rw[S7 (ha d zam)];simp only[zbS];rw[Go.Loop.iz];try simp only
  rw[ih];simp only[zbS];rw[Go.Loop.iz];simp only[zbk,mO.add,zbg,zar,List.length_nil,zbA,zcf,zaM];rw[AW];simp only[ee,zcd,Nat.reduceAdd]
theorem wB:∀(l:List Dt) (i:Nat) (e:Dt),(∀d∈l,atB d=true)→e∈aH (aS l .nil i).1→e=.nil∨e∈l∨∃pre a r,l=pre++a::r∧e=.pair (i+r.length) a (aS r .nil i).1
 |[],i,e,_,h=>by
  have h':e∈aH .nil:=h;simp[aH]at h';exact .inl h'
 |d::l,i,e,ha,h=>by
  have h':e∈aH (.pair (aS l .nil i).2 d (aS l .nil i).1):=h;rw[AX]at h';simp only[aH,zav,zbm]at h';rcases h' with rfl|h'|h'
  ·exact .inr (.inr ⟨[],d,l,rfl,rfl⟩)
  ·have hd:=ha d zam;have:e=d:=by
    cases d<;>first|(simp[aH]at h';exact h')|cases hd
   exact .inr (.inl (by rw[this];exact zam))
  ·rcases wB l i e (λx hx=>ha x (zap _ hx)) h' with h1|h1|⟨pre,a,r,rfl,h1⟩
   ·exact .inl h1
   ·exact .inr (.inl (zap _ h1))
   ·exact .inr (.inr ⟨d::pre,a,r,rfl,h1⟩)
theorem I1 (l:List Dt)(i:Nat)(ha:∀d∈l,atB d=true)(hb:∀n d,Dt.num n d∈l→-1000000≤n∧n≤1000000∧1≤d∧d≤1000000):ja (aS l .nil i).1=true:=by
 unfold ja;rw[zaI];intro x hx;rcases wB l i x ha hx with rfl|h1|⟨pre,a,r,h1,rfl⟩
 ·rfl
 ·have h2:=ha x h1;cases x with
  |sym s=>rfl
  |num n d=>simpa using hb n d h1
  |_=>cases h2
 ·simp only;rw[zaI];intro y hy;rcases wB l i y ha hy with rfl|h2|⟨pre',a',r',h2,rfl⟩
  ·rfl
  ·have h3:=ha y h2;cases y with
   |sym s=>rfl
   |num n d=>rfl
   |_=>cases h3
  ·simp only;by_cases e:r.length=r'.length
   ·have h3:=h1.symm.trans h2;have h4:a::r=a'::r':=(List.append_inj' h3 (by simp[e])).2;obtain⟨rfl,rfl⟩:=List.cons.inj h4;simp
   ·have:(i+r.length != i+r'.length)=true:=by simp;omega
    rw[this];rfl
theorem I2 (l:List Dt)(hk:∀d∈l,aQ (bF (gl d))=true)(hs:∀d∈l,(gl d).subs=[]):∀(b N:Nat),b+2*l.length<N→∀x∈ee l b,(aQ (bF x)&&dF (bF x).subs N)=true:=by
 induction l with
 |nil=>
  intro b N _ x hx;simp only[ee,zcg]at hx;subst hx;rfl
 |cons d l ih=>
  intro b N hN x hx;simp only[zar]at hN;simp only[ee,zav]at hx;rcases hx with rfl|rfl|hx
  ·have e:dF (bF ⟨1,[],0,0,[b+1,b+2]⟩).subs N=true:=by
    simp only[bF,dF,zaD,zbu,zat,List.all_nil,zbJ,zaj,zaQ];omega
   rw[e];rfl
  ·rw[hk d zam];have:(bF (gl d)).subs=[]:=by
    show(gl d).subs.map _=[];rw[hs d zam];rfl
   rw[this];rfl
  ·exact ih (λx hx=>hk x (zap _ hx)) (λx hx=>hs x (zap _ hx)) (b+2) N (by omega) x hx
theorem AY:∀(l l':List Dt) (b:Nat),l.length=l'.length→(∀d∈l,(gl d).subs=[])→(∀d∈l',(gl d).subs=[])→(ee l b).map (·.subs)=(ee l' b).map (·.subs)
 |[],[],_,_,_,_=>rfl
 |d::l,d'::l',b,h,h1,h2=>by
  simp only[ee,zaD,h1 d zam,h2 d' zam,AY l l' (b+2) (by simpa using h) (λx hx=>h1 x (zap _ hx)) (λx hx=>h2 x (zap _ hx))]
 |[],_::_,_,h,_,_=>by simp at h
 |_::_,[],_,h,_,_=>by simp at h
theorem I3 {G:List mb}(x:Nat):aw (G.map bF) x=((G.map (·.subs))[x]?).getD []:=by
 unfold aw;rw[zbG,zbG];cases G[x]? with
 |none=>rfl
 |some y=>
  simp only[zbk,zbl,bF,List.map_map];rw[show(Int.toNat ∘λk:Nat=>(k:Int))=id from funext λk=>by simp];simp
theorem S8:∀n:Nat,n<16→kC ((ee (θ n (.num 0 1)) 0).map bF)=false:=by decide +kernel
theorem Pp (l:List Dt)(hl:l.length<16)(h:∀d∈l,(gl d).subs=[]):kC ((ee l 0).map bF)=false:=by
 rw[←S8 l.length hl];have e:aw ((ee l 0).map bF)=aw ((ee (θ l.length (.num 0 1)) 0).map bF):=by
  funext x;rw[I3,I3,AY l (θ l.length (.num 0 1)) 0 (by simp) h (λd hd=>by rw[List.eq_of_mem_replicate hd];rfl)]
 unfold kC;rw[e,zbx,zbx,jJ,jJ,List.length_replicate]
theorem AZ {root:Dt}:∀(l:List Dt) (i n:Nat),l.length<n→mo root n (aS l .nil i).1=some (some l)
 |[],i,n,hn=>by
  obtain⟨m,rfl⟩:∃m,n=m+1:=⟨n-1,by omega⟩;show mo root (m+1) .nil=_;rw[mo,Df]
 |d::l,i,n,hn=>by
  simp only[zar]at hn;obtain⟨m,rfl⟩:∃m,n=m+1:=⟨n-1,by omega⟩;show mo root (m+1) (.pair (aS l .nil i).2 d (aS l .nil i).1)=_;rw[mo,lV];simp only;rw[AZ l i m (by omega)];rfl
def qD (q:Int×Int):Dt:= .num q.1 q.2
theorem I4 {f:Dt→Option (Int ⊕ Dt)}:∀(xs:List Dt) (qs:List (Int×Int)) (acc:List Dt),xs.length=qs.length→(∀(j:Nat) x q,xs[j]?=some x→qs[j]?=some q→f x=some (.inr (qD q)))→mK f acc xs=some (.inr (acc++qs.map qD))
 |[],[],acc,_,_=>by simp[mK]
 |x::xs,q::qs,acc,h,hf=>by
  rw[mK,hf 0 x q rfl rfl];simp only;rw[I4 xs qs _ (by simpa using h) λj a b h1 h2=>hf (j+1) a b h1 h2];simp
 |[],_::_,_,h,_=>by simp at h
 |_::_,[],_,h,_=>by simp at h
theorem I5:∀(qs acc:List (Int×Int)),rB acc (qs.map qD)=some (acc++qs)
 |[],acc=>by simp[rB]
 |q::qs,acc=>by
  rw[zaD,qD,rB,I5 qs];simp
theorem Fb {root:Dt}{f:Dt→Option (Int ⊕ Dt)}{h:UInt8}(hh:h=43∨h=45∨h=42∨h=47){i:Nat}{xs:List Dt}{qs:List (Int×Int)}(hl:xs.length=qs.length)(hn:xs.length<900)(hc:fj [h] xs.length=true)(hf:∀(j:Nat) x q,xs[j]?=some x→qs[j]?=some q→f x=some (.inr (qD q))):lQ root f (.sym [h]) (aS xs .nil i).1=some (nO [h] qs):=by
 have hs:bN root 200000 (.sym [h])=.sym [h]:=by rw[show(200000:Nat)=199999+1 from rfl];rfl
 unfold lQ qJ;rw[hs];simp only;rw[AZ xs i 900 hn];simp only[zbk];rw[zaa (by rw[hc];simp),zaa (by rcases hh with rfl|rfl|rfl|rfl<;>simp[bY]),zaa (by rcases hh with rfl|rfl|rfl|rfl<;>simp[pB])];unfold dV;rw[I4 xs qs [] hl hf];simp only[zbA];rw[I5];rfl
theorem Fe {n:Int}(h1: -1000000≤n)(h2:n≤1000000):py n 1=some (n,1):=by
 unfold py;simp;omega
theorem Lp {a b:Int}(h1: -1000000≤a+b)(h2:a+b≤1000000):cS [43] (a,1) (b,1)=.inr (a+b,1):=by
 unfold cS uu;simp[Fe h1 h2]
theorem I6 {a b:Int}(h1: -1000000≤a-b)(h2:a-b≤1000000):cS [45] (a,1) (b,1)=.inr (a-b,1):=by
 unfold cS wj uu;have:=Fe h1 h2;rw[Int.sub_eq_add_neg]at this;simp[this,Int.sub_eq_add_neg]
theorem I7 {a b:Int}(h1: -1000000≤a*b)(h2:a*b≤1000000):cS [42] (a,1) (b,1)=.inr (a*b,1):=by
 unfold cS qC;simp[Fe h1 h2]
def xF (l:List Int):List (Int×Int):=l.map λx=>(x,1)
theorem wC:∀(l:List Int) (a:Int),(∀x∈l,-1000≤x∧x≤1000)→-900000≤a-1000*l.length→a+1000*l.length≤900000→fc [43] (a,1) (xF l)=.inr (l.foldl (· + ·) a,1)
 |[],a,_,_,_=>rfl
 |x::l,a,h,h1,h2=>by
  have hx:=h x zam;simp only[zar]at h1 h2;show(match cS [43] (a,1) (x,1)with|Sum.inl e=>Sum.inl e|Sum.inr y=>fc [43] y (xF l))=_;rw[Lp (by omega) (by omega)];simp only;rw[wC l (a+x) (λy hy=>h y (zap _ hy)) (by omega) (by omega)];rfl
theorem sN:∀(l:List Int) (a:Int),(∀x∈l,-1000≤x∧x≤1000)→-900000≤a-1000*l.length→a+1000*l.length≤900000→fc [45] (a,1) (xF l)=.inr (l.foldl (· - ·) a,1)
 |[],a,_,_,_=>rfl
 |x::l,a,h,h1,h2=>by
  have hx:=h x zam;simp only[zar]at h1 h2;show(match cS [45] (a,1) (x,1)with|Sum.inl e=>Sum.inl e|Sum.inr y=>fc [45] y (xF l))=_;rw[I6 (by omega) (by omega)];simp only;rw[sN l (a-x) (λy hy=>h y (zap _ hy)) (by omega) (by omega)];rfl
theorem aa0 {a x B:Int}(h1: -B≤a)(h2:a≤B)(h3: -3≤x)(h4:x≤3): -(B*3)≤a*x∧a*x≤B*3:=by
 have h:x=-3∨x=-2∨x=-1∨x=0∨x=1∨x=2∨x=3:=by omega
 rcases h with rfl|rfl|rfl|rfl|rfl|rfl|rfl<;>omega
theorem sO:∀(l:List Int) (a B:Int),(∀x∈l,-3≤x∧x≤3)→-B≤a→a≤B→B*3^l.length≤1000000→0≤B→fc [42] (a,1) (xF l)=.inr (l.foldl (· * ·) a,1)
 |[],a,_,_,_,_,_,_=>rfl
 |x::l,a,B,h,h1,h2,h3,h0=>by
  have hx:=h x zam;obtain⟨m1,m2⟩:=aa0 h1 h2 hx.1 hx.2;have h3':(B*3)*3^l.length≤1000000:=by
   rw[zar,Int.pow_succ]at h3;rw[Int.mul_assoc,Int.mul_comm 3];exact h3
  have hp:(1:Int)≤3^l.length:=by
   have:(0:Int)<3^l.length:=Int.pow_pos (by omega);omega
  have hle:B*3≤B*3*3^l.length:=by
   have:=Int.mul_le_mul_of_nonneg_left hp (show 0≤B*3 by omega);omega
  show(match cS [42] (a,1) (x,1)with|Sum.inl e=>Sum.inl e|Sum.inr y=>fc [42] y (xF l))=_;rw[I7 (by omega) (by omega)];simp only;rw[sO l (a*x) (B*3) (λy hy=>h y (zap _ hy)) m1 m2 h3' (by omega)];rfl
def gU:Nat→UInt8
 |0=>43
 |1=>45
 |_=>42
def kt:Nat→List Int→Int
 |0,l=>l.foldl (· + ·) 0
 |1,a::b::r=>(b::r).foldl (· - ·) a
 |1,l=>l.foldl (· - ·) 0
 |_,l=>l.foldl (· * ·) 1
theorem Pq (k:Nat)(hk:k<3)(l:List Int)(hl:l.length≤12)(hb:∀x∈l,-1000≤x∧x≤1000)(h3:k=2→∀x∈l,-3≤x∧x≤3):dU [gU k] (xF l)=.inr (kt k l,1):=by
 have hk3:k=0∨k=1∨k=2:=by omega
 have xR:(3:Int)^l.length≤531441:=by
  have:l.length=0∨l.length=1∨l.length=2∨l.length=3∨l.length=4∨l.length=5∨l.length=6∨l.length=7∨l.length=8∨l.length=9∨l.length=10∨l.length=11∨l.length=12:=by omega
  rcases this with e|e|e|e|e|e|e|e|e|e|e|e|e<;>rw[e]<;>decide
 rcases hk3 with rfl|rfl|rfl
 ·match l,hl,hb with
  |[],_,_=>rfl
  |[a],hl,hb=>exact wC [a] 0 hb (by simp) (by simp)
  |a::b::r,hl,hb=>
   have ha:=hb a zam;simp only[zar]at hl;have:=wC (b::r) a (λy hy=>hb y (zap _ hy)) (by simp only[zar];omega) (by simp only[zar];omega);show fc [43] (a,1) (xF (b::r))=_;rw[this];simp only[kt,zca,Int.zero_add]
 ·match l,hl,hb with
  |[],_,_=>rfl
  |[a],hl,hb=>exact sN [a] 0 hb (by simp) (by simp)
  |a::b::r,hl,hb=>
   have ha:=hb a zam;simp only[zar]at hl;exact sN (b::r) a (λy hy=>hb y (zap _ hy)) (by simp only[zar];omega) (by simp only[zar];omega)
 ·have h3:=h3 rfl
  match l,hl,hb,h3,xR with
  |[],_,_,_,_=>rfl
  |[a],hl,hb,h3,_=>exact sO [a] 1 1 h3 (by omega) (by omega) (by simp) (by omega)
  |a::b::r,hl,hb,h3,xR=>
   have ha:=h3 a zam;have:=sO (b::r) a 3 (λy hy=>h3 y (zap _ hy)) (by omega) (by omega) (by
    rw[Int.mul_comm,←Int.pow_succ];have e:(b::r).length.succ=(a::b::r).length:=rfl;rw[e];omega) (by omega)
   show fc [42] (a,1) (xF (b::r))=_;rw[this];simp only[kt,zca,Int.one_mul]
theorem MS (k:Nat)(hk:k<3)(l:List Int)(hl:l.length≤12)(hb:∀x∈l,-1000≤x∧x≤1000)(h3:k=2→∀x∈l,-3≤x∧x≤3): -1000000≤kt k l∧kt k l≤1000000:=by
 have hP:∀(l:List Int) (a:Int),(∀x∈l,-1000≤x∧x≤1000)→a-1000*l.length≤l.foldl (· + ·) a∧l.foldl (· + ·) a≤a+1000*l.length:=by
  intro l
  induction l with
  |nil=>intro a _;simp
  |cons x l ih=>
   intro a h;have hx:=h x zam;have:=ih (a+x) λy hy=>h y (zap _ hy);simp only[zca,zar];omega
 have hM:∀(l:List Int) (a:Int),(∀x∈l,-1000≤x∧x≤1000)→a-1000*l.length≤l.foldl (· - ·) a∧l.foldl (· - ·) a≤a+1000*l.length:=by
  intro l
  induction l with
  |nil=>intro a _;simp
  |cons x l ih=>
   intro a h;have hx:=h x zam;have:=ih (a-x) λy hy=>h y (zap _ hy);simp only[zca,zar];omega
 have hT:∀(l:List Int) (a B:Int),(∀x∈l,-3≤x∧x≤3)→-B≤a→a≤B→-(B*3^l.length)≤l.foldl (· * ·) a∧l.foldl (· * ·) a≤B*3^l.length:=by
  intro l
  induction l with
  |nil=>intro a B _ h1 h2;simp;omega
  |cons x l ih=>
   intro a B h h1 h2;have hx:=h x zam;obtain⟨m1,m2⟩:=aa0 h1 h2 hx.1 hx.2;have:=ih (a*x) (B*3) (λy hy=>h y (zap _ hy)) m1 m2;rw[zar,Int.pow_succ,Int.mul_comm (3^l.length),←Int.mul_assoc];exact this
 have hk3:k=0∨k=1∨k=2:=by omega
 rcases hk3 with rfl|rfl|rfl
 ·have:=hP l 0 hb;simp only[kt];omega
 ·match l,hl,hb with
  |[],_,_=>simp[kt]
  |[a],hl,hb=>have:=hb a zam;simp[kt];omega
  |a::b::r,hl,hb=>
   have ha:=hb a zam;have:=hM (b::r) a λy hy=>hb y (zap _ hy);simp only[kt];simp only[zar]at hl this;omega
 ·have:=hT l 1 1 (h3 rfl) (by omega) (by omega);have xR:(3:Int)^l.length≤531441:=by
   have:l.length=0∨l.length=1∨l.length=2∨l.length=3∨l.length=4∨l.length=5∨l.length=6∨l.length=7∨l.length=8∨l.length=9∨l.length=10∨l.length=11∨l.length=12:=by omega
   rcases this with e|e|e|e|e|e|e|e|e|e|e|e|e<;>rw[e]<;>decide
  have e:kt 2 l=l.foldl (· * ·) 1:=by simp[kt]
  rw[e];omega
theorem Di (x:Int)(h1: -1000000≤x)(h2:x≤1000000):1≤(Ξ x).length∧(Ξ x).length≤12:=by
 have hne:=(Fa x h1 h2).2.2.2.1;have h0:1≤(Ξ x).length:=by
  cases h:Ξ x with
  |nil=>exact absurd h hne
  |cons c r=>simp
 refine⟨h0,?_⟩;by_cases hx:0≤x
 ·obtain⟨u,rfl⟩:=zbD hx;rw[Lib.itoa_nonneg];have:=gT u (by omega);omega
 ·obtain⟨u,rfl⟩:∃u:Nat,x=-(u:Int):=⟨x.natAbs,by omega⟩;rw[Lib.itoa_neg u (by omega)];have:=gT u (by omega);simp;omega
theorem jK:∀(l:List Int),(∀x∈l,-1000000≤x∧x≤1000000)→2*l.length≤(aN l).length∧(aN l).length≤13*l.length
 |[],_=>by simp[aN]
 |x::l,h=>by
  obtain⟨b1,b2⟩:=h x zam;have h1:=Di x b1 b2;have h2:=jK l λy hy=>h y (zap _ hy);rw[oU];simp only[zar,zbg];omega
theorem Pr (x:Int)(h1: -1000000≤x)(h2:x≤1000000):cK ([⟨5,[],x,1,[]⟩].map bF) 0 403=(Ξ x,0):=by
 have hr:cJ ([⟨5,[],x,1,[]⟩].map bF)=true:=by
  simp[cJ,bF,aQ,xx,dF,h1,h2]
 have hc:kC ([⟨5,[],x,1,[]⟩].map bF)=false:=by kernel_rfl
 have hl:=Di x h1 h2;have hw:cV ([⟨5,[],x,1,[]⟩].map bF) 0 403=⟨[-1],0,Ξ x,false⟩:=by
  have e:cV ([⟨5,[],x,1,[]⟩].map bF) 0 403=TS.add ⟨[-1],0,[],false⟩ (Ξ x):=by
   unfold cV;rw[show(403:Nat)=402+1 from rfl,WF];simp[cL,bn,lf,bF,fw,iz,mJ]
  rw[e,j8 rfl (by simp;omega)];simp
 unfold cK;rw[zaa (by omega),zaa (by rw[hr];simp),zaa (by rw[hc];simp),hw];simp
theorem Xz (x:Int):wz [⟨5,[],x,1,[]⟩]=true:=by simp[wz]
theorem XA (root:Dt)(x:Int):iy root 100000 (.num x 1) ⟨[],[]⟩=some (0,⟨[⟨5,[],x,1,[]⟩],[]⟩):=by
 rw[show(100000:Nat)=99999+1 from rfl,S7 rfl];rfl
theorem I8 (s:List UInt8):lT s s.length=true:=by
 unfold lT;rw[List.drop_length,Ru];simp
theorem I9 {s:List UInt8}{d:Dt}{nodes:List mb}{x:Int}(hc:kC (nodes.map bF)=false)(hk:nP d 1000 d=some (.inr (.num x 1)))(h1: -1000000≤x)(h2:x≤1000000):AP s d s.length nodes=some (Ξ x,0):=by
 unfold AP;rw[zaa (by rw[I8];simp),zaa (by rw[hc];simp),hk];simp only;rw[XA];simp only;rw[zac (Xz x),Pr x h1 h2]
theorem A0 (root:Dt):∀(l:List Dt) (i:Nat),(∀d∈l,aW root d=true)→aW root (aS l .nil i).1=true
 |[],_,_=>rfl
 |d::l,i,h=>by
  show(aW root d&&aW root (aS l .nil i).1)=true;rw[h d zam,A0 root l i λx hx=>h x (zap _ hx)];rfl
theorem Ja (k:Nat)(hk:k<3):(gU k=43∨gU k=45∨gU k=42)∧oY [gU k]=true∧[gU k]≠[61]∧[gU k]≠[60]:=by
 have:k=0∨k=1∨k=2:=by omega
 rcases this with rfl|rfl|rfl<;>decide
theorem S9 (k:Nat)(hk:k<3)(l:List Int)(hl:l.length≤12)(hb:∀x∈l,-1000≤x∧x≤1000)(h3:k=2→∀x∈l,-3≤x∧x≤3)(hn:k=1→l≠[]):kI (kT (gU k) l)=some (Ξ (kt k l),0):=by
 obtain⟨ZU,O8,n61,n60⟩:=Ja k hk;have ae5:=Pq k hk l hl hb h3;obtain⟨w1,w2⟩:=MS k hk l hl hb h3;have IQ:fj [gU k] l.length=true:=by
  have:k=0∨k=1∨k=2:=by omega
  rcases this with rfl|rfl|rfl
  ·rfl
  ·have:=hn rfl;have:1≤l.length:=by
    cases l with
    |nil=>exact absurd rfl this
    |cons=>simp
   simp[fj,gU,this]
  ·rfl
 generalize kt k l=x at *;generalize gU k=h at *;have nz:∀x∈l,-1000000≤x∧x≤1000000:=λx hx=>by have:=hb x hx;omega
 have hlen:=jK l nz;obtain⟨e,-,hg⟩:=I0 ZU l nz;have hT:=hg ((kT h l).length + 1) (by simp only[jc,zar,lh,uE];omega);have eF:=aaY (T:=aG ((kT h l).length + 1) (kT h l) 0) h l (more:=[e]) (x:=(aN l).length + 2) (y:=(aN l).length + 3) (by rw[hT]) (by omega);have bV:aW (aS (.sym [h]::eL l) .nil 0).1 (aS (.sym [h]::eL l) .nil 0).1=true:=A0 _ _ _ λd hd=>by
  rcases zav.1 hd with rfl|hd
  ·rfl
  ·obtain⟨y,_,rfl⟩:=zbc.1 hd;rfl
 have hat:∀d∈Dt.sym [h]::eL l,atB d=true:=λd hd=>by
  rcases zav.1 hd with rfl|hd
  ·rfl
  ·obtain⟨y,_,rfl⟩:=zbc.1 hd;rfl
 have gz:∀d∈Dt.sym [h]::eL l,(gl d).subs=[]:=λd hd=>by
  rcases zav.1 hd with rfl|hd
  ·rfl
  ·obtain⟨y,_,rfl⟩:=zbc.1 hd;rfl
 have ud:(Dt.sym [h]::eL l).length=l.length+1:=by simp[eL]
 obtain⟨met,cn⟩:=Dh (root:=(aS (.sym [h]::eL l) .nil 0).1) (.sym [h]::eL l) 0 100000 ⟨[],[]⟩ hat (by rw[ud];omega) (λp hp=>by cases hp);have sM:=I1 (.sym [h]::eL l) 0 hat (λn d hd=>by
  rcases zav.1 hd with e|hd
  ·cases e
  ·obtain⟨y,hy,e⟩:=zbc.1 hd;have:=hb y hy;cases e;omega)
 have E6:cJ ((ee (.sym [h]::eL l) 0).map bF)=true:=by
  unfold cJ;rw[zaj];refine⟨by simp only[zbx,jJ,ud,zaQ];omega,?_⟩;rw[List.all_map,zaI];intro y hy;have:=I2 (.sym [h]::eL l) (λd hd=>by
   rcases zav.1 hd with rfl|hd
   ·simp[gl,bF,aQ,O8]
   ·obtain⟨z,hz,rfl⟩:=zbc.1 hd;have:=hb z hz;simp[gl,bF,aQ,xx];omega) gz 0 ((ee (.sym [h]::eL l) 0).map bF).length (by rw[zbx,jJ];omega) y hy
  exact this
 have AQ:wz (ee (.sym [h]::eL l) 0)=true:=by
  unfold wz;simp only[zaj,zaQ,zaI];refine⟨⟨by simp[ee],by rw[jJ,ud];omega⟩,?_⟩;have key:∀(m:List Dt) (b:Nat),(∀d∈m,(gl d).text.length≤1∧(gl d).subs=[])→∀y∈ee m b,y.text.length≤1∧y.subs.length≤2:=by
   intro m
   induction m with
   |nil=>intro b _ y hy;simp only[ee,zcg]at hy;subst hy;simp
   |cons d m ih=>
    intro b hm y hy;simp only[ee,zav]at hy;rcases hy with rfl|rfl|hy
    ·simp
    ·have:=hm d zam;rw[this.2];exact⟨this.1,by simp⟩
    ·exact ih (b+2) (λd hd=>hm d (zap _ hd)) y hy
  intro y hy;have:=key (.sym [h]::eL l) 0 (λd hd=>⟨by
   rcases zav.1 hd with rfl|hd
   ·simp[gl]
   ·obtain⟨z,_,rfl⟩:=zbc.1 hd;simp[gl],gz d hd⟩) y hy
  omega
 have hend:xh (kT h l) (l.length+3)=(kT h l).length:=by
  unfold xh;rw[hT,show l.length+3-1=(jc h l).length by simp[jc,lh],zbw (zab _),Nat.sub_self];simp[ax,uE]
 have ae6:=Pp (.sym [h]::eL l) (by rw[ud];omega) gz;have SG:nP (aS (.sym [h]::eL l) .nil 0).1 1000 (aS (.sym [h]::eL l) .nil 0).1=some (.inr (.num x 1)):=by
  generalize nE:(aS (.sym [h]::eL l) .nil 0).1=root;rw[show(1000:Nat)=998+1+1 from rfl,nP,←nE,aS];unfold gL;rw[lV];simp only;rw[Fb (qs:=xF l) (by rcases ZU with e|e|e<;>simp[e]) (by simp[eL,xF]) (by simp[eL];omega) (by simpa[eL]using IQ) (λj y q h1 h2=>by
   simp only[eL,xF,zbG]at h1 h2;cases hj:l[j]? with
   |none=>rw[hj]at h1;cases h1
   |some z=>
    rw[hj]at h1 h2;cases h1;cases h2;rw[nP];unfold gL;rw[show(200000:Nat)=199999+1 from rfl];rfl)]
  unfold nO;rw[zaa (λe=>e.elim n61 n60),ae5]
 unfold kI;rw[eF];simp only;rw[cn];simp only[zbA,List.length_nil];rw[zac (by rw[bV,sM,AQ,E6,hend];simp),hend];exact I9 ae6 SG w1 w2
theorem Ta:kI [40,45,41]=some ([],10):=by decide +kernel
def cM (a b:Nat):List UInt8:=[40,42,32,40,47]++(aN [(a:Int),(b:Int)]++(41::(aN [(b:Int)]++[41])))
def inD (a b:Nat):Dt:= .pair 2 (.sym [47]) (.pair 1 (.num a 1) (.pair 0 (.num b 1) .nil))
def kJ (a b:Nat):Dt:= .pair 5 (.sym [42]) (.pair 4 (inD a b) (.pair 3 (.num b 1) .nil))
def Dj (a b:Nat):List mb:=[⟨1,[],0,0,[1,2]⟩,⟨4,[42],0,0,[]⟩,⟨1,[],0,0,[3,10]⟩,⟨1,[],0,0,[4,5]⟩,⟨4,[47],0,0,[]⟩,⟨1,[],0,0,[6,7]⟩,⟨5,[],a,1,[]⟩,⟨1,[],0,0,[8,9]⟩,⟨5,[],b,1,[]⟩,⟨0,[],0,0,[]⟩,⟨1,[],0,0,[11,12]⟩,⟨5,[],b,1,[]⟩,⟨0,[],0,0,[]⟩]
theorem Tb (a b:Nat):iy (kJ a b) 100000 (kJ a b) ⟨[],[]⟩=some (0,⟨Dj a b,[(3,10),(0,7),(1,5),(2,3),(4,2),(5,0)]⟩):=by kernel_rfl
theorem Tc (a b:Nat):kC ((Dj a b).map bF)=false:=by kernel_rfl
theorem Lr (a b:Nat)(ha:a≤900)(hb:b≤900):cJ ((Dj a b).map bF)=true:=by
 have h42:oY [42]=true:=by decide
 have h47:oY [47]=true:=by decide
 simp[cJ,Dj,bF,aQ,dF,xx,h42,h47];omega
theorem Td (a b:Nat):wz (Dj a b)=true:=by simp[wz,Dj]
theorem Ls (a b:Nat)(ha:a≤900)(hb:b≤900):ja (kJ a b)=true:=by
 simp[ja,kJ,inD,aH];omega
theorem XB {n d x y:Int}(h1:n.tdiv (Int.gcd n d)=x)(h2:d/(Int.gcd n d)=y)(b1: -1000000≤x)(b2:x≤1000000)(b3:y≤1000000):py n d=some (x,y):=by
 unfold py;rw[h1,h2,zaa (by omega)]
theorem XC (a b:Nat)(hb1:1≤b)(ha:a≤900)(hb:b≤900):Xj ((a:Int),1) ((b:Int),1)=some (((a/Nat.gcd a b:Nat):Int),((b/Nat.gcd a b:Nat):Int)):=by
 have h1:=Nat.div_le_self a (Nat.gcd a b);have h2:=Nat.div_le_self b (Nat.gcd a b);unfold Xj;simp only[Int.one_mul,Int.mul_one];rw[zaa (show ¬(b:Int)<0 by omega)];have e1:((a:Int)).tdiv ((Int.gcd (a:Int) (b:Int):Nat):Int)=((a/Nat.gcd a b:Nat):Int):=by rw[Int.ofNat_tdiv];rfl
 have e2:((b:Int))/((Int.gcd (a:Int) (b:Int):Nat):Int)=((b/Nat.gcd a b:Nat):Int):=by rw[Int.natCast_ediv];rfl
 have b1:(0:Int)≤((a/Nat.gcd a b:Nat):Int):=Int.natCast_nonneg _;have b2:((a/Nat.gcd a b:Nat):Int)≤1000000:=Int.ofNat_le.2 (zah h1 (zah ha (by decide)));have b3:((b/Nat.gcd a b:Nat):Int)≤1000000:=Int.ofNat_le.2 (zah h2 (zah hb (by decide)));exact XB e1 e2 (Int.le_trans (by decide) b1) b2 b3
theorem Lt (a b:Nat)(ha1:1≤a)(hb1:1≤b)(ha:a≤900)(hb:b≤900):qC (((a/Nat.gcd a b:Nat):Int),((b/Nat.gcd a b:Nat):Int)) ((b:Int),1)=some ((a:Int),1):=by
 have hg:0<Nat.gcd a b:=Nat.gcd_pos_of_pos_left _ ha1;obtain⟨a',hA⟩:=Nat.gcd_dvd_left a b;obtain⟨b',hB⟩:=Nat.gcd_dvd_right a b;generalize Nat.gcd a b=g at *;have ea:a/g=a':=by rw[hA,Nat.mul_div_cancel_left _ hg]
 have eb:b/g=b':=by rw[hB,Nat.mul_div_cancel_left _ hg]
 rw[ea,eb];have hb':0<b':=by
  rcases zcr b' with h|h
  ·subst h;simp at hB;omega
  ·exact h
 have ae7:Int.gcd ((a':Int)*(b:Int)) ((b':Int))=b':=by
  have:Nat.gcd (a'*b) b'=b':=by
   rw[hB,Nat.mul_left_comm,Nat.gcd_comm];rw[←Nat.mul_assoc];exact Nat.gcd_mul_left_right _ _
  show Nat.gcd ((a':Int)*(b:Int)).natAbs ((b':Int)).natAbs=b';rw[←Int.natCast_mul,Int.natAbs_natCast,Int.natAbs_natCast,this]
 have e1:((a':Int)*(b:Int)).tdiv ((b':Nat):Int)=(a:Int):=by
  have:(a':Int)*(b:Int)=(a:Int)*(b':Int):=by
   rw[hA,hB];simp only[Int.natCast_mul];rw[Int.mul_left_comm,Int.mul_assoc]
  rw[this,Int.mul_tdiv_cancel _ (by omega)]
 have e2:((b':Int))/((b':Nat):Int)=1:=Int.ediv_self (by omega);unfold qC py;simp only[Int.mul_one];rw[ae7,e1,e2,zaa (by omega)]
theorem XD (a b:Nat)(ha1:1≤a)(hb1:1≤b)(ha:a≤900)(hb:b≤900):nP (kJ a b) 1000 (kJ a b)=some (.inr (.num a 1)):=by
 have cn:∀(root:Dt) (n:Nat) (x d:Int),nP root (n+1) (.num x d)=some (.inr (.num x d)):=λroot n x d=>by
  rw[nP];unfold gL;rw[show(200000:Nat)=199999+1 from rfl];rfl
 have Mw:nP (kJ a b) 999 (inD a b)=some (.inr (qD (((a/Nat.gcd a b:Nat):Int),((b/Nat.gcd a b:Nat):Int)))):=by
  rw[show(999:Nat)=997+1+1 from rfl,nP];unfold gL;rw[inD,lV];simp only;have:=Fb (root:=kJ a b) (f:=λx=>nP (kJ a b) (997+1) x) (h:=47) (by simp) (i:=0) (xs:=[.num a 1,.num b 1]) (qs:=[((a:Int),1),((b:Int),1)]) rfl (by simp) rfl (λj x q h1 h2=>by
   match j,h1,h2 with
   |0,h1,h2=>cases h1;cases h2;exact cn _ _ _ _
   |1,h1,h2=>cases h1;cases h2;exact cn _ _ _ _
   |j+2,h1,h2=>simp at h1)
  refine this.trans ?_;unfold nO dU fc cS;simp only[fc];rw[XC a b hb1 ha hb];have hb0:b≠0:=by omega
  simp[hb0,qD]
 rw[show(1000:Nat)=998+1+1 from rfl,nP];unfold gL;rw[show bN (kJ a b) 200000 (kJ a b)=.pair 5 (.sym [42]) (.pair 4 (inD a b) (.pair 3 (.num b 1) .nil)) from lV];simp only;have:=Fb (root:=kJ a b) (f:=λx=>nP (kJ a b) (998+1) x) (h:=42) (by simp) (i:=3) (xs:=[inD a b,.num b 1]) (qs:=[(((a/Nat.gcd a b:Nat):Int),((b/Nat.gcd a b:Nat):Int)),((b:Int),1)]) rfl (by simp) rfl (λj x q h1 h2=>by
  match j,h1,h2 with
  |0,h1,h2=>cases h1;cases h2;exact Mw
  |1,h1,h2=>cases h1;cases h2;exact cn _ _ _ _
  |j+2,h1,h2=>simp at h1)
 refine this.trans ?_;unfold nO dU fc cS;simp only[fc];rw[Lt a b ha1 hb1 ha hb];simp
def lW (a b:Nat):List Tok:=[ax 2 0 1,iB 1 [42],ax 2 3 4,iB 4 [47]]++(pg [(a:Int),(b:Int)] 5++(ax 3 (5+(aN [(a:Int),(b:Int)]).length) (6+(aN [(a:Int),(b:Int)]).length)::(pg [(b:Int)] (6+(aN [(a:Int),(b:Int)]).length)++[ax 3 (6+(aN [(a:Int),(b:Int)]).length + (aN [(b:Int)]).length) (7+(aN [(a:Int),(b:Int)]).length + (aN [(b:Int)]).length)])))
theorem Jb (a b:Nat):(cM a b).length=7+(aN [(a:Int),(b:Int)]).length + (aN [(b:Int)]).length:=by simp[cM];omega
theorem Dk (a b:Nat)(ha:a≤900)(hb:b≤900):∃e:Tok,e.kind=0∧aG ((cM a b).length + 1) (cM a b) 0=lW a b++[e]:=by
 have RD:=jK [(a:Int),(b:Int)] (by simp;omega);have hl2:=jK [(b:Int)] (by simp;omega);have hlen:=Jb a b;generalize hL1:(aN [(a:Int),(b:Int)]).length=L1 at *;generalize hL2:(aN [(b:Int)]).length=L2 at *;have h0:(cM a b).drop 0=40::42::32::40::47::(aN [(a:Int),(b:Int)]++(41::(aN [(b:Int)]++[41]))):=rfl;have h1:(cM a b).drop 1=[42]++32::40::47::(aN [(a:Int),(b:Int)]++(41::(aN [(b:Int)]++[41]))):=rfl;have h2:(cM a b).drop 2=32::40::47::(aN [(a:Int),(b:Int)]++(41::(aN [(b:Int)]++[41]))):=rfl;have h3:(cM a b).drop 3=40::47::(aN [(a:Int),(b:Int)]++(41::(aN [(b:Int)]++[41]))):=rfl;have h4:(cM a b).drop 4=[47]++(aN [(a:Int),(b:Int)]++(41::(aN [(b:Int)]++[41]))):=rfl;have h5:(cM a b).drop 5=aN [(a:Int),(b:Int)]++(41::(aN [(b:Int)]++[41])):=rfl;have h6:(cM a b).drop (5+L1)=41::(aN [(b:Int)]++[41]):=by rw[←zbo,h5,←hL1];simp
 have h7:(cM a b).drop (6+L1)=aN [(b:Int)]++[41]:=by rw[show 6+L1=(5+L1)+1 by omega];exact Go.Loop.xW h6 rfl
 have h8:(cM a b).drop (6+L1+L2)=[41]:=by rw[←zbo,h7,←hL2];simp
 have h9:(cM a b).drop (7+L1+L2)=[]:=by rw[List.drop_eq_nil_iff,hlen];omega
 have r5:br bz (aN [(a:Int),(b:Int)]++(41::(aN [(b:Int)]++[41])))=0:=wA _ _ rfl;have e0:aL (cM a b) 0=ax 2 0 1:=(eo h0 (k:=0) (by simp[cF,fQ,jS])).trans (EO h0);have e1:aL (cM a b) 1=iB 1 [42]:=(eo h1 (k:=0) (by simp[cF,fQ,jS])).trans (EP (w:=[42]) (by simp) h1 rfl rfl rfl rfl (by simp));have e2:aL (cM a b) 2=ax 2 3 4:=(eo h2 (k:=1) (by simp[cF,fQ,jS])).trans (EO h3);have e3:aL (cM a b) 4=iB 4 [47]:=(eo h4 (k:=0) (by simp[cF,fQ,jS])).trans (EP (w:=[47]) (by simp) h4 rfl rfl (yg [47] _ rfl r5) rfl (by simp));have g1:=rp [(a:Int),(b:Int)] (s:=cM a b) (a:=5) (r:=41::(aN [(b:Int)]++[41])) (by simp;omega) h5 rfl;have e4:aL (cM a b) (5+L1)=ax 3 (5+L1) (6+L1):=by
  refine(eo h6 (k:=0) (by simp[cF,fQ,jS])).trans ((Av h6).trans ?_);rw[show 5+L1+1=6+L1 by omega]
 have g2:=rp [(b:Int)] (s:=cM a b) (a:=6+L1) (r:=[41]) (by simp;omega) h7 rfl;have e5:aL (cM a b) (6+L1+L2)=ax 3 (6+L1+L2) (7+L1+L2):=by
  refine(eo h8 (k:=0) (by simp[cF,fQ,jS])).trans ((Av h8).trans ?_);rw[show 6+L1+L2+1=7+L1+L2 by omega]
 have e6:aL (cM a b) (7+L1+L2)=mE (cM a b):=(eo h9 (k:=0) (by simp[cF])).trans (at_end h9);rw[hL1]at g1;rw[hL2]at g2;have gg:Goes (cM a b) 0 (lW a b) (7+L1+L2):=by
  unfold lW;rw[hL1,hL2];exact Goes.cons e0 rfl rfl (Goes.cons e1 rfl rfl (Goes.cons e2 rfl rfl (Goes.cons e3 rfl rfl (g1.trans (Goes.cons e4 rfl rfl (g2.trans (Goes.cons e5 rfl rfl Goes.nil)))))))
 have htl:(lW a b).length=9:=rfl;refine⟨mE (cM a b),rfl,?_⟩;obtain⟨m,hm⟩:∃m,(cM a b).length + 1=(m+1)+(lW a b).length:=⟨(cM a b).length - 9,by rw[htl,hlen];simp at RD hl2;omega⟩;rw[hm,gg (m+1),Az e6 rfl]
theorem XE {T:List Tok}(a b:Nat){e:Tok}(hT:T=lW a b++[e]):aO T 30 2000 ⟨0,false,[]⟩ ⟨0,0,[]⟩=.ok (kJ a b) ⟨9,6,[]⟩:=by
 generalize hL1:(aN [(a:Int),(b:Int)]).length=L1;generalize hL2:(aN [(b:Int)]).length=L2;have k0:T[0]?=some (ax 2 0 1):=by rw[hT];rfl
 have k1:T[1]?=some (iB 1 [42]):=by rw[hT];rfl
 have k2:T[2]?=some (ax 2 3 4):=by rw[hT];rfl
 have k3:T[3]?=some (iB 4 [47]):=by rw[hT];rfl
 have k4:T[4]?=some (iC 6 a):=by rw[hT];rfl
 have k5:T[5]?=some (iC (6+(Ξ a).length + 1) b):=by rw[hT];rfl
 have k6:T[6]?=some (ax 3 (5+L1) (6+L1)):=by rw[hT,←hL1];rfl
 have k7:T[7]?=some (iC (6+L1+1) b):=by rw[hT,←hL1];rfl
 have k8:T[8]?=some (ax 3 (6+L1+L2) (7+L1+L2)):=by rw[hT,←hL1,←hL2];rfl
 rw[show(2000:Nat)=1998+2 from rfl,aO,yc k0 (by simp[ax]) (by simp[ax]) (by simp[ax])];simp only[RR.bind];rw[wh (by decide),show(1998:Nat)=1996+2 from rfl,ix k1 (by simp[iB,ax]) (by simp[iB,ax]) (by simp[iB,ax]) (by simp[iB,ax]) (by simp[iB,ax]) Aw];have Mw:cE T 30 (1994+2) (ax 2 3 4) ⟨0+1,false,[]⟩ ⟨0+1+1+1,0,[]⟩=.ok (inD a b) ⟨7,3,[]⟩:=by
  rw[show(1994+2:Nat)=1995+1 from rfl,wh (by decide),show(1995:Nat)=1993+2 from rfl];rw[ix k3 (by simp[iB,ax]) (by simp[iB,ax]) (by simp[iB,ax]) (by simp[iB,ax]) (by simp[iB,ax]) Aw];rw[show(1993+1:Nat)=1992+2 from rfl,ix k4 (by simp[iC,ax]) (by simp[iC,ax]) (by simp[iC,ax]) (by simp[iC,ax]) (by simp[iC,ax]) uF];rw[show(1992+1:Nat)=1991+2 from rfl,ix k5 (by simp[iC,ax]) (by simp[iC,ax]) (by simp[iC,ax]) (by simp[iC,ax]) (by simp[iC,ax]) uF];rw[show(1991+1:Nat)=1990+2 from rfl,sI k6 rfl];rfl
 rw[show(1996+1:Nat)=1995+2 from rfl,ix k2 (by simp[ax]) (by simp[ax]) (by simp[ax]) (by simp[ax]) (by simp[ax]) Mw];rw[show(1995+1:Nat)=1994+2 from rfl,ix k7 (by simp[iC,ax]) (by simp[iC,ax]) (by simp[iC,ax]) (by simp[iC,ax]) (by simp[iC,ax]) uF];rw[show(1994+1:Nat)=1993+2 from rfl,sI k8 rfl];rfl
theorem Ps (a b:Nat)(ha1:1≤a)(hb1:1≤b)(ha:a≤900)(hb:b≤900):kI (cM a b)=some (Ξ a,0):=by
 obtain⟨e,-,hT⟩:=Dk a b ha hb;have eF:=XE (T:=aG ((cM a b).length + 1) (cM a b) 0) a b hT;have bV:aW (kJ a b) (kJ a b)=true:=by rfl
 have hend:xh (cM a b) 9=(cM a b).length:=by
  unfold xh;rw[hT,Jb];rfl
 unfold kI;rw[eF];simp only;rw[Tb];simp only;rw[zac (by rw[bV,Ls a b ha hb,Td,Lr a b ha hb,hend];simp),hend];exact I9 (Tc a b) (XD a b ha1 hb1 ha hb) (by omega) (by omega)
theorem mr:∀(l:List Int) (a:Nat),∀t∈pg l a,t.kind=13
 |[],_,t,h=>by cases h
 |x::l,a,t,h=>by
  rcases zav.1 h with rfl|h
  ·rfl
  ·exact mr l _ t h
theorem add_plain {h:UInt8}(hh:h=43∨h=45∨h=42)(l:List Int)(hb:∀x∈l,-1000000≤x∧x≤1000000):∀t∈aG ((kT h l).length + 1) (kT h l) 0,t.kind≠5∧t.kind≠4:=λt ht=>by
 obtain⟨e,he,hg⟩:=I0 hh l hb;have hlen:=jK l hb;rw[hg ((kT h l).length + 1) (by simp only[jc,zar,lh,uE];omega)]at ht;simp only[jc,zaM,zav,zbm,zbz,or_false]at ht;rcases ht with rfl|rfl|ht|rfl|rfl
 ·simp[ax]
 ·simp[iB,ax]
 ·rw[mr _ _ t ht];simp
 ·simp[ax]
 ·rw[he];simp
theorem Lu (a b:Nat)(ha:a≤900)(hb:b≤900):∀t∈aG ((cM a b).length + 1) (cM a b) 0,t.kind≠5∧t.kind≠4:=λt ht=>by
 obtain⟨e,he,hg⟩:=Dk a b ha hb;rw[hg]at ht;simp only[lW,zaM,zbA,zcf,zav,zbm,zbz,or_false]at ht;rcases ht with rfl|rfl|rfl|rfl|ht|rfl|ht|rfl|rfl
 ·simp[ax]
 ·simp[iB,ax]
 ·simp[ax]
 ·simp[iB,ax]
 ·rw[mr _ _ t ht];simp
 ·simp[ax]
 ·rw[mr _ _ t ht];simp
 ·simp[ax]
 ·rw[he];simp
end Go.Proofs.YtlhimdjkkiflhaaGreatDoor
namespace Go.Ren
open Go.Proofs.Tryz
open Go Go.Conc Go.ConcX Go.RowKit Go.Proofs Go.Loop Go.Proofs.YtlhimdjkkiflhaaGreatDoor
def qL (X jh jm ji jq jk:Ω):List (Nat×Ω):=[(0,X),(32,jh),(41,jm),(43,ji),(49,jq),(51,jk)]
def Lv:Code→Code
 |.cond _ x _=>x
 |c=>c
def qA (f:Func):Nat→Code
 |0=>f.body.getD .skip
 |n+1=>Ren.aZ (qA f n)
def pA (f:Func)(n:Nat):Code:=Ren.bD (qA f n)
def oA (f:Func)(n:Nat):Array Oper:=Ren.fh (pA f n)
def BX (f:Func):Code:=sJ (Ii (Ren.aZ (pA f 6)))
def l8B (f:Func):Code:=Ii (Ren.bD (Ren.aZ (BX f)))
def l8i (f:Func):Code:=Ren.bD (pA f 6)
def XF (f:Func):Array Oper:=Ren.fh (Ren.bD (Ren.bD (BX f)))
def Vl (f:Func):Array Oper:=Ren.fh (Ren.bD (l8B f))
def l8C (f:Func):Code:=Ren.bD (Ren.aZ (l8B f))
def l8e (f:Func):Code:=Ren.bD (l8C f)
def PT (f:Func):Array Oper:=Ren.fh (Lv (Ren.aZ (l8C f)))
def l8D (f:Func):Code:=Ren.aZ (Ren.aZ (l8B f))
def l8n (f:Func):Code:=Ren.aZ (Ren.aZ (BX f))
structure u9 (l:Array Oper) (i d:Nat) (op:Op):Prop where
 a:l[i]?=some l[i]!
 o:(l[i]!).op=op
 s:(l[i]!).dst=some d
 g:(l[i]!).guard=none
theorem u9.k {l:Array Oper}{i d:Nat}{op:Op}(h:(l[i]?).map (λo=>(o.dst,o.op,o.guard))=some (some d,op,none)):u9 l i d op:=by
 cases e:l[i]? with
 |none=>simp[e]at h
 |some o=>
  simp[e]at h;have:l[i]! =o:=by simp[getElem!_def,e]
  exact⟨by rw[e,this],by rw[this,h.2.1],by rw[this,h.1],by rw[this,h.2.2]⟩
theorem wD:prog.funcs[8]?=some f8:=by kernel_rfl
theorem ac7:f8.body=some (.seq (pA f8 0) (.seq (.region 1 (oA f8 1) false) (qA f8 2))):=by kernel_rfl
theorem ntA:f8.ntmps=175:=by kernel_rfl
theorem ae8:f8.results=#[.tmp 4]:=by kernel_rfl
theorem ac8:prog.inits.idxOf? 8=none:=by kernel_rfl
theorem F21:Fz 21=true:=by kernel_rfl
theorem ae9:(prog.funcs[21]?).any (λfn=>fn.body.isSome)=true:=by kernel_rfl
theorem afa:(prog.funcs[21]?).any (λfn=>fn.name != "runtime.NumGoroutine")=true:=by kernel_rfl
theorem afb:(prog.funcs[11]?).any (λfn=>fn.body.isSome)=true:=by kernel_rfl
theorem afc:(prog.funcs[11]?).any (λfn=>fn.name != "runtime.NumGoroutine")=true:=by kernel_rfl
theorem afd:pA f8 6=.seq (l8i f8) (.block 0 (.loop (BX f8))):=by kernel_rfl
theorem Te:BX f8=.seq (.seq (.region 8 (XF f8) false) (.cond (.tmp 38) .skip (.exit 0))) (.seq (.block 1 (.seq (.region 10 (Vl f8) false) (.seq (.seq (l8e f8) (.cond (.tmp 48) (.region 12 (PT f8) false) .skip)) (l8D f8)))) (l8n f8)):=by kernel_rfl
theorem Tf:(oA f8 1).size=2:=by kernel_rfl
theorem MT:(oA f8 10).size=8:=by kernel_rfl
theorem MU:(oA f8 17).size=16:=by kernel_rfl
theorem YV:(XF f8).size=8:=by kernel_rfl
theorem YW:(Vl f8).size=7:=by kernel_rfl
theorem YX:(PT f8).size=7:=by kernel_rfl
theorem afe:qA f8 2=.seq (pA f8 2) (qA f8 3):=by kernel_rfl
theorem aff:qA f8 3=.seq (pA f8 3) (qA f8 4):=by kernel_rfl
theorem afg:qA f8 4=.seq (pA f8 4) (qA f8 5):=by kernel_rfl
theorem afh:qA f8 5=.seq (pA f8 5) (qA f8 6):=by kernel_rfl
theorem afi:qA f8 6=.seq (pA f8 6) (qA f8 7):=by kernel_rfl
theorem afj:qA f8 7=.seq (pA f8 7) (qA f8 8):=by kernel_rfl
theorem afk:qA f8 8=.seq (pA f8 8) (qA f8 9):=by kernel_rfl
theorem afl:qA f8 9=.seq (pA f8 9) (qA f8 10):=by kernel_rfl
theorem ac9:qA f8 11=.seq (pA f8 11) (qA f8 12):=by kernel_rfl
theorem ada:qA f8 12=.seq (pA f8 12) (qA f8 13):=by kernel_rfl
theorem adb:qA f8 13=.seq (pA f8 13) (qA f8 14):=by kernel_rfl
theorem ade:qA f8 14=.seq (pA f8 14) (qA f8 15):=by kernel_rfl
theorem adf:qA f8 15=.seq (pA f8 15) (qA f8 16):=by kernel_rfl
theorem adg:qA f8 16=.seq (pA f8 16) (qA f8 17):=by kernel_rfl
theorem adh:qA f8 10=.seq (.region 31 (oA f8 10) false) (qA f8 11):=by kernel_rfl
theorem adi:qA f8 17=.seq (.region 41 (oA f8 17) false) (qA f8 18):=by kernel_rfl
theorem aa1:([1].all λi=>((oA f8 1)[i]?).all λo=>gw prog Fz Sz o.op)=true:=by kernel_rfl
theorem XG:([3,4,5,6,7].all λi=>((oA f8 10)[i]?).all λo=>gw prog Fz Sz o.op)=true:=by kernel_rfl
theorem XH:([11,12,13,14,15].all λi=>((oA f8 17)[i]?).all λo=>gw prog Fz Sz o.op)=true:=by kernel_rfl
theorem aa2:([3,4,5,6,7].all λi=>((XF f8)[i]?).all λo=>gw prog Fz Sz o.op)=true:=by kernel_rfl
theorem aa3:([4,5,6].all λi=>((Vl f8)[i]?).all λo=>gw prog Fz Sz o.op)=true:=by kernel_rfl
theorem aa4:([4,5,6].all λi=>((PT f8)[i]?).all λo=>gw prog Fz Sz o.op)=true:=by kernel_rfl
theorem uG:u9 (oA f8 1) 0 21 (.call { callee:= .value (.func 20),args:=#[],argTypes:=#[] }):= .k (by kernel_rfl)
theorem yh:u9 (XF f8) 0 31 (.move (.tmp 9)):= .k (by kernel_rfl)
theorem yj:u9 (XF f8) 1 32 (.move (.tmp 0)):= .k (by kernel_rfl)
theorem uH:u9 (XF f8) 2 33 (.call { callee:= .builtin .len,args:=#[.tmp 32],argTypes:=#[43] }):= .k (by kernel_rfl)
theorem yl:u9 (Vl f8) 0 41 (.move (.tmp 0)):= .k (by kernel_rfl)
theorem ym:u9 (Vl f8) 1 42 (.move (.tmp 9)):= .k (by kernel_rfl)
theorem uI:u9 (Vl f8) 2 43 (.indexAddr 43 (.tmp 41) (.tmp 42)):= .k (by kernel_rfl)
theorem yn:u9 (Vl f8) 3 44 (.load 3 (.tmp 43)):= .k (by kernel_rfl)
theorem yq:u9 (PT f8) 0 49 (.move (.tmp 0)):= .k (by kernel_rfl)
theorem yu:u9 (PT f8) 1 50 (.move (.tmp 9)):= .k (by kernel_rfl)
theorem uJ:u9 (PT f8) 2 51 (.indexAddr 43 (.tmp 49) (.tmp 50)):= .k (by kernel_rfl)
theorem yw:u9 (PT f8) 3 52 (.load 3 (.tmp 51)):= .k (by kernel_rfl)
theorem uK:u9 (oA f8 10) 0 115 (.move (.tmp 7)):= .k (by kernel_rfl)
theorem uL:u9 (oA f8 10) 1 116 (.binOp .add 9 (.tmp 115) (.const (.string { data:=#[41] })) 9):= .k (by kernel_rfl)
theorem uM:u9 (oA f8 10) 2 117 (.call { callee:= .value (.func 11),args:=#[.tmp 116],argTypes:=#[9] }):= .k (by kernel_rfl)
theorem uN:u9 (oA f8 17) 0 154 (.move (.tmp 17)):= .k (by kernel_rfl)
theorem uO:u9 (oA f8 17) 1 155 (.call { callee:= .value (.func 21),args:=#[.tmp 154],argTypes:=#[3] }):= .k (by kernel_rfl)
theorem uP:u9 (oA f8 17) 2 156 (.binOp .add 9 (.const (.string { data:=#[40,42,32,40,47,32] })) (.tmp 155) 9):= .k (by kernel_rfl)
theorem uQ:u9 (oA f8 17) 3 157 (.binOp .add 9 (.tmp 156) (.const (.string { data:=#[32] })) 9):= .k (by kernel_rfl)
theorem uR:u9 (oA f8 17) 4 158 (.move (.tmp 18)):= .k (by kernel_rfl)
theorem uS:u9 (oA f8 17) 5 159 (.binOp .add 9 (.tmp 157) (.tmp 158) 9):= .k (by kernel_rfl)
theorem uT:u9 (oA f8 17) 6 160 (.binOp .add 9 (.tmp 159) (.const (.string { data:=#[41,32] })) 9):= .k (by kernel_rfl)
theorem uU:u9 (oA f8 17) 7 161 (.move (.tmp 18)):= .k (by kernel_rfl)
theorem uV:u9 (oA f8 17) 8 162 (.binOp .add 9 (.tmp 160) (.tmp 161) 9):= .k (by kernel_rfl)
theorem uW:u9 (oA f8 17) 9 163 (.binOp .add 9 (.tmp 162) (.const (.string { data:=#[41] })) 9):= .k (by kernel_rfl)
theorem rq:u9 (oA f8 17) 10 164 (.call { callee:= .value (.func 11),args:=#[.tmp 163],argTypes:=#[9] }):= .k (by kernel_rfl)
def E8 (X:Ω)(op:Int):Act:=⟨#[X,Γ Δ op,Θ,Θ,Θ,Θ,Θ,Θ,Θ,Θ,Θ,Θ,Θ,Θ,Θ,Θ,Θ,Θ,Θ,Θ,Θ,Θ,Θ,Θ,Θ,Θ,Θ,Θ,Θ,Θ,Θ,Θ,Θ,Θ,Θ,Θ,Θ,Θ,Θ,Θ,Θ,Θ,Θ,Θ,Θ,Θ,Θ,Θ,Θ,Θ,Θ,Θ,Θ,Θ,Θ,Θ,Θ,Θ,Θ,Θ,Θ,Θ,Θ,Θ,Θ,Θ,Θ,Θ,Θ,Θ,Θ,Θ,Θ,Θ,Θ,Θ,Θ,Θ,Θ,Θ,Θ,Θ,Θ,Θ,Θ,Θ,Θ,Θ,Θ,Θ,Θ,Θ,Θ,Θ,Θ,Θ,Θ,Θ,Θ,Θ,Θ,Θ,Θ,Θ,Θ,Θ,Θ,Θ,Θ,Θ,Θ,Θ,Θ,Θ,Θ,Θ,Θ,Θ,Θ,Θ,Θ,Θ,Θ,Θ,Θ,Θ,Θ,Θ,Θ,Θ,Θ,Θ,Θ,Θ,Θ,Θ,Θ,Θ,Θ,Θ,Θ,Θ,Θ,Θ,Θ,Θ,Θ,Θ,Θ,Θ,Θ,Θ,Θ,Θ,Θ,Θ,Θ,Θ,Θ,Θ,Θ,Θ,Θ,Θ,Θ,Θ,Θ,Θ,Θ,Θ,Θ,Θ,Θ,Θ,Θ],[]⟩
def L8 (op:Int)(k:Nat)(ls:List UInt8)(vv:Ω)(j:Nat)(v10 v11 v22 v23 v24 v25 v26 v27 v28 v29 v30 v31 v33 v34 v35 v36 v37 v38 v39 v40 v42 v44 v45 v46 v47 v48 v50 v52 v53 v54 v55 v56 v57 v58 v59 v60 v61 v62 v63 v64 v65 v66 v67 v68 v69 v70:Ω):Act:=⟨#[Θ,Γ Δ op,Θ,Θ,.bool false,.bool true,Γ Δ (k:Nat),.string ⟨⟨ls⟩⟩,vv,Γ Δ (j:Nat),v10,v11,Θ,Θ,Θ,Θ,Θ,Θ,Θ,Θ,Θ,.bool true,v22,v23,v24,v25,v26,v27,v28,v29,v30,v31,Θ,v33,v34,v35,v36,v37,v38,v39,v40,Θ,v42,Θ,v44,v45,v46,v47,v48,Θ,v50,Θ,v52,v53,v54,v55,v56,v57,v58,v59,v60,v61,v62,v63,v64,v65,v66,v67,v68,v69,v70,Θ,Θ,Θ,Θ,Θ,Θ,Θ,Θ,Θ,Θ,Θ,Θ,Θ,Θ,Θ,Θ,Θ,Θ,Θ,Θ,Θ,Θ,Θ,Θ,Θ,Θ,Θ,Θ,Θ,Θ,Θ,Θ,Θ,Θ,Θ,Θ,Θ,Θ,Θ,Θ,Θ,Θ,Θ,Θ,Θ,Θ,Θ,Θ,Θ,Θ,Θ,Θ,Θ,Θ,Θ,Θ,Θ,Θ,Θ,Θ,Θ,Θ,Θ,Θ,Θ,Θ,Θ,Θ,Θ,Θ,Θ,Θ,Θ,Θ,Θ,Θ,Θ,Θ,Θ,Θ,Θ,Θ,Θ,Θ,Θ,Θ,Θ,Θ,Θ,Θ,Θ,Θ,Θ,Θ,Θ,Θ,Θ,Θ,Θ,Θ,Θ,Θ,Θ,Θ],[]⟩
theorem t175 (x:Ω)(op:Int):(⟨#[x,Γ Δ op]++Array.replicate (175-#[x,Γ Δ op].size) Θ,[]⟩:Act)=E8 x op:=by
 unfold E8;generalize Θ=u
 kernel_rfl
theorem aa5 (x:Ω)(op:Int):ψ.enter prog 8 #[x,Γ Δ op] .normal=(base 8).at (E8 x op) [.code (.seq (pA f8 0) (.seq (.region 1 (oA f8 1) false) (qA f8 2)))]:=by
 rw[enter_at _ wD ac7,ntA,t175]
theorem aI.YY {Ψ:aV}{σ:List (Nat×Ω)}{b:ψ}{a:Act}{w:Φ}{ops:Array Oper}{i:Nat}{rest:List Nat}{o:Oper}{kk:List Item}{s:List UInt8}{r:List UInt8×Int}{t:Tmp}(hl:s.length≤400)(nR:kI s=some r)(hvq:VQ (aG (s.length+1) s 0) 30)(hp:YtlhimdjkkiflhaaGreatDoor.Pow w)(ho:ops[i]?=some o)(hw:o.guard=none)(hk:b.kind≠.early)(hop:o.op=.call { callee:= .value (.func 11),args:=#[.tmp t],argTypes:=#[9] })(hj:eA σ (.tmp t)=true)(pU:a.eval (.tmp t)=.string ⟨⟨s⟩⟩){d:Tmp}(hd:o.dst=some d)(xO:eA σ (.tmp d)=true)(h:∀w',ak w w'→aI prog Sz Ψ b σ (a.put (some d) (.tuple #[.string ⟨⟨r.1⟩⟩,Γ Δ r.2])) (.inRegion ops rest::kk) w'):aI prog Sz Ψ b σ a (.inRegion ops (i::rest)::kk) w:=
 aI.SP (f:=11) ho hw hk hop afb afc (by simp[gG]) (by simp[hj]) (by simp[pU]) λρ h1 h2 h3 dY=>ae.Xx hl nR hvq hp λw' hb=>mj.ofJ cj dY (by rw[ho];exact hd) xO h1 h2 h3 (h w' hb)
section
variable {Ψ:aV}{w:Φ}
theorem aI.afm {X:Ω}{op:Int}{k:Nat}(hk:k<3)(YZ:∀w,π prog 17 #[Γ Δ op,Γ Δ 3] w λe w'=>e=.returned (Γ Δ (k:Nat))∧w'=w)(hp:YtlhimdjkkiflhaaGreatDoor.Pow w)(h:∀w' v22 v23 v24 v25 v26 v27 v28 v29 v30,ak w w'→aI prog Sz Ψ (base 8) (qL X Θ Θ Θ Θ Θ) ⟨#[Θ,Γ Δ op,Θ,Θ,.bool false,.bool true,Γ Δ (k:Nat),.string ⟨⟨[40,gU k]⟩⟩,.slice none 0 0,Θ,Θ,Θ,Θ,Θ,Θ,Θ,Θ,Θ,Θ,Θ,Θ,.bool true,v22,v23,v24,v25,v26,v27,v28,v29,v30,Θ,Θ,Θ,Θ,Θ,Θ,Θ,Θ,Θ,Θ,Θ,Θ,Θ,Θ,Θ,Θ,Θ,Θ,Θ,Θ,Θ,Θ,Θ,Θ,Θ,Θ,Θ,Θ,Θ,Θ,Θ,Θ,Θ,Θ,Θ,Θ,Θ,Θ,Θ,Θ,Θ,Θ,Θ,Θ,Θ,Θ,Θ,Θ,Θ,Θ,Θ,Θ,Θ,Θ,Θ,Θ,Θ,Θ,Θ,Θ,Θ,Θ,Θ,Θ,Θ,Θ,Θ,Θ,Θ,Θ,Θ,Θ,Θ,Θ,Θ,Θ,Θ,Θ,Θ,Θ,Θ,Θ,Θ,Θ,Θ,Θ,Θ,Θ,Θ,Θ,Θ,Θ,Θ,Θ,Θ,Θ,Θ,Θ,Θ,Θ,Θ,Θ,Θ,Θ,Θ,Θ,Θ,Θ,Θ,Θ,Θ,Θ,Θ,Θ,Θ,Θ,Θ,Θ,Θ,Θ,Θ,Θ,Θ,Θ,Θ,Θ,Θ,Θ,Θ,Θ,Θ,Θ,Θ,Θ,Θ,Θ,Θ,Θ,Θ,Θ,Θ,Θ,Θ,Θ],[]⟩ [.code (qA f8 6)] w'):aI prog Sz Ψ (base 8) (qL X Θ Θ Θ Θ Θ) (E8 Θ op) [.code (.seq (pA f8 0) (.seq (.region 1 (oA f8 1) false) (qA f8 2)))] w:=by
 have mixed:prog.follows η=true:=by kernel_rfl
 have ks:=xZ;have HH:Hid _:=h;have Y0:Hid _:=YZ;clear h YZ;unfold E8;refine aI.seq ?_;refine aI.code cj (by kernel_rfl) (by kernel_rfl) rfl ⟨_,wD⟩ rfl λτ d=>?_;have je:Hid (ak w (w.re τ d)):=⟨zab _,λ_ _=>rfl⟩;have HP:Hid (YtlhimdjkkiflhaaGreatDoor.Pow (w.re τ d)):=Pow.Ic hp je.out;clear hp;generalize w.re τ d=w1 at *;generalize en:([.code (.seq (.region 1 (oA f8 1) false) (qA f8 2))]:List Item)=kq;dsimp only[pA,qA,Ren.bD,f8,ζ];go_wp2_with fail;subst en;show aI _ _ _ _ _ _ _ _;refine aI.seq ?_;refine aI.region ?_;rw[Tf,show ω 2=[0,1] from rfl];refine aI.aeY HP.out uG.1 uG.4 (by decide) uG.2 (by rw[uG.1];exact uG.3) rfl rfl λw2 hb2=>?_;have iu:Hid (ak w w2):=je.out.trans hb2;clear je hb2 HP;refine aI.ops cj rfl ⟨_,wD⟩ rfl aa1 (by kernel_rfl) 1 ((oA f8 1).toList.drop 1) (by rw[zax,zbM,Tf];rfl) (λj=>by rw[zbs,zbq]) λn9 d'=>?_;have jl:Hid (ak w (w2.re n9 d')):=ak.heap iu.out rfl;clear iu;generalize w2.re n9 d'=w3 at *;generalize en:([.code (qA f8 2)]:List Item)=kq;dsimp only[oA,pA,qA,Ren.fh,Ren.bD,Ren.aZ,f8,ζ];simp only[zbh,zba];go_wp2_with fail;subst en;show aI _ _ _ _ _ _ _ _;rw[afe];refine aI.seq ?_;refine aI.code cj (by kernel_rfl) (by kernel_rfl) rfl ⟨_,wD⟩ rfl λτ d=>?_;have oB:Hid (ak w (w3.re τ d)):=ak.heap jl.out rfl;clear jl;generalize w3.re τ d=w4 at *;generalize en:([.code (qA f8 3)]:List Item)=kq;dsimp only[pA,qA,Ren.bD,Ren.aZ,f8,ζ];go_wp2_with fail;subst en;show aI _ _ _ _ _ _ _ _;rw[aff];refine aI.seq ?_;refine aI.code cj (by kernel_rfl) (by kernel_rfl) rfl ⟨_,wD⟩ rfl λτ d=>?_;have sU:Hid (ak w (w4.re τ d)):=ak.heap oB.out rfl;clear oB;generalize w4.re τ d=w5 at *;generalize en:([.code (qA f8 4)]:List Item)=kq;dsimp only[pA,qA,Ren.bD,Ren.aZ,f8,ζ];go_wp2_with fail;refine zae (Y0.out _) ?_;rintro e w' ⟨rfl,hw⟩;rw[hw];clear hw Y0;go_wp2_with fail;subst en;show aI _ _ _ _ _ _ _ _;rw[afg];refine aI.seq ?_;refine aI.code cj (by kernel_rfl) (by kernel_rfl) rfl ⟨_,wD⟩ rfl λτ d=>?_;have nV:Hid (ak w (w5.re τ d)):=ak.heap sU.out rfl;clear sU;generalize w5.re τ d=w6 at *;generalize en:([.code (qA f8 5)]:List Item)=kq;dsimp only[pA,qA,Ren.bD,Ren.aZ,f8,ζ];have hk3:k=0∨k=1∨k=2:=by omega
 clear hk;have sA:Hid (ak w (w6.alloc (.cells #[.string ⟨#[43]⟩,.string ⟨#[45]⟩,.string ⟨#[42]⟩] 9))):=nV.out.trans (ak.of ((zad _ _).alloc (zab _) _));clear nV;rcases hk3 with rfl|rfl|rfl
 all_goals
  go_wp2_with fail;subst en;show aI _ _ _ _ _ _ _ _;generalize w6.alloc _=w7 at *;rw[afh];refine aI.seq ?_;refine aI.code cj (by kernel_rfl) (by kernel_rfl) rfl ⟨_,wD⟩ rfl λτ d=>?_;have Si:Hid (ak w (w7.re τ d)):=ak.heap sA.out rfl;generalize w7.re τ d=w8 at *;generalize en:([.code (qA f8 6)]:List Item)=kq;dsimp only[pA,qA,Ren.bD,Ren.aZ,f8,ζ];go_wp2_with fail;subst en;show aI _ _ _ _ _ _ _ _;exact HH.out _ _ _ _ _ _ _ _ _ _ Si.out
end
section
variable {Ψ:aV}
theorem aI.adj {v10 v11 v22 v23 v24 v25 v26 v27 v28 v29 v30 v31 v33 v34 v35 v36 v37 v38 v39 v40 v42 v44 v45 v46 v47 v48 v50 v52 v53 v54 v55 v56 v57 v58 v59 v60 v61 v62 v63 v64 v65 v66 v67 v68 v69 v70 jh jm ji jq jk vv:Ω}{sa:Option Addr}{len cap k j:Nat}{op:Int}{ls:List UInt8}{w1:Φ}{kk:List Item}(hj:j≤12)
 (h:∀w' v31 v33 v34 v35 v36 v37,w'.heap=w1.heap→aI prog Sz Ψ (base 8) (qL (.slice sa len cap) (.slice sa len cap) jm ji jq jk) (L8 op k ls vv j v10 v11 v22 v23 v24 v25 v26 v27 v28 v29 v30 v31 v33 v34 v35 v36 v37 (.bool (decide (j<len)&&decide (j<12))) v39 v40 v42 v44 v45 v46 v47 v48 v50 v52 v53 v54 v55 v56 v57 v58 v59 v60 v61 v62 v63 v64 v65 v66 v67 v68 v69 v70) kk w'):
 aI prog Sz Ψ (base 8) (qL (.slice sa len cap) jh jm ji jq jk) (L8 op k ls vv j v10 v11 v22 v23 v24 v25 v26 v27 v28 v29 v30 v31 v33 v34 v35 v36 v37 v38 v39 v40 v42 v44 v45 v46 v47 v48 v50 v52 v53 v54 v55 v56 v57 v58 v59 v60 v61 v62 v63 v64 v65 v66 v67 v68 v69 v70) (.code (.region 8 (XF f8) false)::kk) w1:=by
 have mixed:prog.follows η=true:=by kernel_rfl
 have HH:Hid _:=h;clear h;unfold L8;refine aI.region ?_;rw[YV,show ω 8=[0,1,2,3,4,5,6,7] from rfl];refine aI.MO cj yh.1 yh.4 (by decide) (by kernel_rfl) (by kernel_rfl) (Γ Δ (j:Nat)) (λw' _=>by simp[ύ,yh.2,ι]) yh.3 rfl ?_;refine aI.mvS (Fh:=qL (.slice sa len cap) (.slice sa len cap) jm ji jq jk) yj.1 yj.4 (by decide) (X:=(.slice sa len cap)) yj.2 (λB hB=>iW [] _ 0 _ rfl (by rw[hB];simp[ξ])) yj.3 (λB=>qx [(0,_)] [(41,_),(43,_),(49,_),(51,_)] 32 _ _ rfl B) ?_;refine aI.Cv uH.1 uH.4 (by decide) (X:= Γ Δ (len:Nat)) (λρ=>by simp[rv]) (λρ W=>?_) (λρ W=>?_) uH.3 rfl rfl ?_
 ·exact(YK uH.2 (iW [(0,_)] _ 32 _ rfl (by rw[kR];simp[ξ])) W).1
 ·exact(YK uH.2 (iW [(0,_)] _ 32 _ rfl (by rw[kR];simp[ξ])) W).2
 refine aI.ops cj rfl ⟨_,wD⟩ rfl aa2 (by kernel_rfl) 3 ((XF f8).toList.drop 3) (by rw[zax,zbM,YV];rfl) (λj=>by rw[zbs,zbq]) λn9 d'=>?_;have HE:Hid ((w1.re n9 d').heap=w1.heap):=rfl;generalize w1.re n9 d'=w3 at *;dsimp only[XF,BX,sJ,Ii,pA,qA,Ren.fh,Ren.bD,Ren.aZ,f8,ζ];simp only[zbh,zba];by_cases hlt:j<len
 ·have e20:decide ((j:Int)<12)=decide (j<12):=by simp only[decide_eq_decide];omega
  go_wp2_with fail;show aI _ _ _ _ _ _ _ _;have:=HH.out;simp only[hlt,decide_true,zbL]at this;exact this _ _ _ _ _ _ _ HE.out
 ·go_wp2_with fail;show aI _ _ _ _ _ _ _ _;have:=HH.out;simp only[hlt,decide_false,Bool.false_and]at this;exact this _ _ _ _ _ _ _ HE.out
theorem aI.afn {v10 v11 v22 v23 v24 v25 v26 v27 v28 v29 v30 v31 v33 v34 v35 v36 v37 v38 v39 v40 v42 v44 v45 v46 v47 v48 v50 v52 v53 v54 v55 v56 v57 v58 v59 v60 v61 v62 v63 v64 v65 v66 v67 v68 v69 v70 jh jm ji jq jk vv:Ω}{b o len cap k j:Nat}{op z:Int}{q:Nat}{ls:List UInt8}{w1:Φ}{kk:List Item}(hlt:j<len)(hq:q<2001)(eF:OX Sz Ψ w1 ⟨b,o+j,none⟩ (Γ Δ z))(YZ:∀w,π prog 17 #[Γ Δ z,Γ Δ 2001] w λe w'=>e=.returned (Γ Δ (q:Nat))∧w'=w)
 (h:∀w' v42 v44 v45 v46,w'.heap=w1.heap→aI prog Sz Ψ (base 8) (qL (.slice (some ⟨b,o,none⟩) len cap) jh (.slice (some ⟨b,o,none⟩) len cap) (.pointer (some ⟨b,o+j,none⟩)) jq jk) (L8 op k ls vv j (Γ Δ ((q:Int)-1000)) v11 v22 v23 v24 v25 v26 v27 v28 v29 v30 v31 v33 v34 v35 v36 v37 v38 v39 v40 v42 v44 v45 v46 v47 v48 v50 v52 v53 v54 v55 v56 v57 v58 v59 v60 v61 v62 v63 v64 v65 v66 v67 v68 v69 v70) kk w'):
 aI prog Sz Ψ (base 8) (qL (.slice (some ⟨b,o,none⟩) len cap) jh jm ji jq jk) (L8 op k ls vv j v10 v11 v22 v23 v24 v25 v26 v27 v28 v29 v30 v31 v33 v34 v35 v36 v37 v38 v39 v40 v42 v44 v45 v46 v47 v48 v50 v52 v53 v54 v55 v56 v57 v58 v59 v60 v61 v62 v63 v64 v65 v66 v67 v68 v69 v70) (.code (.region 10 (Vl f8) false)::kk) w1:=by
 have mixed:prog.follows η=true:=by kernel_rfl
 have HH:Hid _:=h;have Y0:Hid _:=YZ;clear h YZ;unfold L8;refine aI.region ?_;rw[YW,show ω 7=[0,1,2,3,4,5,6] from rfl];refine aI.mvS (Fh:=(qL (.slice (some ⟨b,o,none⟩) len cap) jh (.slice (some ⟨b,o,none⟩) len cap) ji jq jk)) yl.1 yl.4 (by decide) (X:=(.slice (some ⟨b,o,none⟩) len cap)) yl.2 (λB hB=>iW [] _ 0 _ rfl (by rw[hB];simp)) yl.3 (λB=>qx [(0,_),(32,_)] [(43,_),(49,_),(51,_)] 41 _ _ rfl B) ?_;refine aI.MO cj ym.1 ym.4 (by decide) (by kernel_rfl) (by kernel_rfl) (Γ Δ (j:Nat)) (λw' _=>by simp[ύ,ym.2,ι]) ym.3 rfl ?_;refine aI.aaG (Fh:=(qL (.slice (some ⟨b,o,none⟩) len cap) jh (.slice (some ⟨b,o,none⟩) len cap) (.pointer (some ⟨b,o+j,none⟩)) jq jk)) uI.1 uI.4 (by decide) (X:=(.pointer (some ⟨b,o+j,none⟩))) (λρ W=>?_) (λρ W=>?_) uI.3 (λB=>qx [(0,_),(32,_),(41,_)] [(49,_),(51,_)] 43 _ _ rfl B) ?_
 ·exact(MP uI.2 (iW [(0,_),(32,_)] _ 41 _ rfl (by rw[kR];simp[ξ])) (EN rfl (by simp[ι,ξ])) hlt W).1
 ·exact(MP uI.2 (iW [(0,_),(32,_)] _ 41 _ rfl (by rw[kR];simp[ξ])) (EN rfl (by simp[ι,ξ])) hlt W).2
 refine aI.YJ yn.1 yn.4 (by decide) yn.2 (ad:=⟨b,o+j,none⟩) (λρ=>iW [(0,_),(32,_),(41,_)] [(49,_),(51,_)] 43 _ rfl (by rw[kR];simp[ξ])) eF (λρ=>by simp[rv]) (SQ _ _) yn.3 rfl rfl ?_;refine aI.ops cj rfl ⟨_,wD⟩ rfl aa3 (by kernel_rfl) 4 ((Vl f8).toList.drop 4) (by rw[zax,zbM,YW];rfl) (λj=>by rw[zbs,zbq]) λn9 d'=>?_;have HE:Hid ((w1.re n9 d').heap=w1.heap):=rfl;clear eF;generalize w1.re n9 d'=w3 at *;dsimp only[Vl,l8B,l8C,Lv,BX,sJ,Ii,pA,qA,Ren.fh,Ren.bD,Ren.aZ,f8,ζ];simp only[zbh,zba];go_wp2_with fail;refine zae (Y0.out _) ?_;rintro e w' ⟨rfl,hw⟩;rw[hw];clear hw Y0;go_wp2_with fail;show aI _ _ _ _ _ _ _ _;exact HH.out _ _ _ _ _ HE.out
theorem aI.afo {v10 v11 v22 v23 v24 v25 v26 v27 v28 v29 v30 v31 v33 v34 v35 v36 v37 v38 v39 v40 v42 v44 v45 v46 v47 v48 v50 v52 v53 v54 v55 v56 v57 v58 v59 v60 v61 v62 v63 v64 v65 v66 v67 v68 v69 v70 jh jm ji jq jk vv:Ω}{b o len cap k j:Nat}{op z:Int}{q:Nat}{ls:List UInt8}{w1:Φ}{kk:List Item}(hlt:j<len)(hq:q<7)(eF:OX Sz Ψ w1 ⟨b,o+j,none⟩ (Γ Δ z))(YZ:∀w,π prog 17 #[Γ Δ z,Γ Δ 7] w λe w'=>e=.returned (Γ Δ (q:Nat))∧w'=w)
 (h:∀w' v50 v52 v53 v54,w'.heap=w1.heap→aI prog Sz Ψ (base 8) (qL (.slice (some ⟨b,o,none⟩) len cap) jh jm ji (.slice (some ⟨b,o,none⟩) len cap) (.pointer (some ⟨b,o+j,none⟩))) (L8 op k ls vv j (Γ Δ ((q:Int)-3)) v11 v22 v23 v24 v25 v26 v27 v28 v29 v30 v31 v33 v34 v35 v36 v37 v38 v39 v40 v42 v44 v45 v46 v47 v48 v50 v52 v53 v54 v55 v56 v57 v58 v59 v60 v61 v62 v63 v64 v65 v66 v67 v68 v69 v70) kk w'):
 aI prog Sz Ψ (base 8) (qL (.slice (some ⟨b,o,none⟩) len cap) jh jm ji jq jk) (L8 op k ls vv j v10 v11 v22 v23 v24 v25 v26 v27 v28 v29 v30 v31 v33 v34 v35 v36 v37 v38 v39 v40 v42 v44 v45 v46 v47 v48 v50 v52 v53 v54 v55 v56 v57 v58 v59 v60 v61 v62 v63 v64 v65 v66 v67 v68 v69 v70) (.code (.region 12 (PT f8) false)::kk) w1:=by
 have mixed:prog.follows η=true:=by kernel_rfl
 have HH:Hid _:=h;have Y0:Hid _:=YZ;clear h YZ;unfold L8;refine aI.region ?_;rw[YX,show ω 7=[0,1,2,3,4,5,6] from rfl];refine aI.mvS (Fh:=(qL (.slice (some ⟨b,o,none⟩) len cap) jh jm ji (.slice (some ⟨b,o,none⟩) len cap) jk)) yq.1 yq.4 (by decide) (X:=(.slice (some ⟨b,o,none⟩) len cap)) yq.2 (λB hB=>iW [] _ 0 _ rfl (by rw[hB];simp)) yq.3 (λB=>qx [(0,_),(32,_),(41,_),(43,_)] [(51,_)] 49 _ _ rfl B) ?_;refine aI.MO cj yu.1 yu.4 (by decide) (by kernel_rfl) (by kernel_rfl) (Γ Δ (j:Nat)) (λw' _=>by simp[ύ,yu.2,ι]) yu.3 rfl ?_;refine aI.aaG (Fh:=(qL (.slice (some ⟨b,o,none⟩) len cap) jh jm ji (.slice (some ⟨b,o,none⟩) len cap) (.pointer (some ⟨b,o+j,none⟩)))) uJ.1 uJ.4 (by decide) (X:=(.pointer (some ⟨b,o+j,none⟩))) (λρ W=>?_) (λρ W=>?_) uJ.3 (λB=>qx [(0,_),(32,_),(41,_),(43,_),(49,_)] [] 51 _ _ rfl B) ?_
 ·exact(MP uJ.2 (iW [(0,_),(32,_),(41,_),(43,_)] _ 49 _ rfl (by rw[kR];simp[ξ])) (EN rfl (by simp[ι,ξ])) hlt W).1
 ·exact(MP uJ.2 (iW [(0,_),(32,_),(41,_),(43,_)] _ 49 _ rfl (by rw[kR];simp[ξ])) (EN rfl (by simp[ι,ξ])) hlt W).2
 refine aI.YJ yw.1 yw.4 (by decide) yw.2 (ad:=⟨b,o+j,none⟩) (λρ=>iW [(0,_),(32,_),(41,_),(43,_),(49,_)] [] 51 _ rfl (by rw[kR];simp[ξ])) eF (λρ=>by simp[rv]) (SQ _ _) yw.3 rfl rfl ?_;refine aI.ops cj rfl ⟨_,wD⟩ rfl aa4 (by kernel_rfl) 4 ((PT f8).toList.drop 4) (by rw[zax,zbM,YX];rfl) (λj=>by rw[zbs,zbq]) λn9 d'=>?_;have HE:Hid ((w1.re n9 d').heap=w1.heap):=rfl;clear eF;generalize w1.re n9 d'=w3 at *;dsimp only[PT,l8B,l8C,Lv,BX,sJ,Ii,pA,qA,Ren.fh,Ren.bD,Ren.aZ,f8,ζ];simp only[zbh,zba];go_wp2_with fail;refine zae (Y0.out _) ?_;rintro e w' ⟨rfl,hw⟩;rw[hw];clear hw Y0;go_wp2_with fail;show aI _ _ _ _ _ _ _ _;exact HH.out _ _ _ _ _ HE.out
end
def ij (l:List Int):List Ω:=l.map (Ω.int .i64)
theorem adk:(prog.info? 3).map (λi=>(i.zero,i.size,i.bytes))=some (some (Γ Δ 0),1,8):=by kernel_rfl
theorem Jc {w w2 w6:Φ}{o:Obj}{row:Option Nat}(hb:ak w w2)(hg:(w2.alloc o).grownBy w6 row)(hr:∀k,row=some k→w.heap.size≤k):ak w w6:=by
 have h1:ak w (w2.alloc o):=hb.trans (ak.of ((zad _ _).alloc (zab _) _));have h2:φ w.heap.size (w2.alloc o) w6:=(zad _ _).grown hg (by have:=h1.1;omega) hr;exact⟨zah h1.1 h2.size,λr hlt=>(h2.block r hlt).trans (h1.2 r hlt)⟩
theorem gp {w w6 w7:Φ}(hb:ak w w6)(h:φ w6.heap.size w6 w7):ak w w7:=hb.trans (ak.of h)
section
variable {Ψ:aV}{w:Φ}
theorem aI.adl {X v11 v22 v23 v24 v25 v26 v27 v28 v29 v30 v31 v33 v34 v35 v36 v37 v38 v39 v40 v42 v44 v45 v46 v47 v48 v50 v52 v53 v54 v55 v56 v57 v58 v59 v60 v61 v62 v63 v64 v65 v66 v67 v68 v69 v70 jh jm ji jq jk vv:Ω}{k j:Nat}{op x:Int}{ls:List UInt8}{l:List Int}{w1:Φ}{kk:List Item}(hx1: -1000≤x)(hx2:x≤1000)(hj:j<12)(hls:ls.length≤300)(hrow:w1.ownsRow w.heap.size 3 1 vv j (ij l))(hb:ak w w1)
 (h:∀w' vv' v11 v55 v56 v57 v58 v59 v60 v61 v62 v63 v64 v65 v66 v67 v68 v69 v70,w'.ownsRow w.heap.size 3 1 vv' (j+1) (ij (l++[x]))→ak w w'→aI prog Sz Ψ (base 8) (qL X jh jm ji jq jk) (L8 op k (ls++32::Ξ x) vv' j (Γ Δ x) v11 v22 v23 v24 v25 v26 v27 v28 v29 v30 v31 v33 v34 v35 v36 v37 v38 v39 v40 v42 v44 v45 v46 v47 v48 v50 v52 v53 v54 v55 v56 v57 v58 v59 v60 v61 v62 v63 v64 v65 v66 v67 v68 v69 v70) kk w'):
 aI prog Sz Ψ (base 8) (qL X jh jm ji jq jk) (L8 op k ls vv j (Γ Δ x) v11 v22 v23 v24 v25 v26 v27 v28 v29 v30 v31 v33 v34 v35 v36 v37 v38 v39 v40 v42 v44 v45 v46 v47 v48 v50 v52 v53 v54 v55 v56 v57 v58 v59 v60 v61 v62 v63 v64 v65 v66 v67 v68 v69 v70) (.code (l8D f8)::kk) w1:=by
 have mixed:prog.follows η=true:=by kernel_rfl
 have ks:=xZ;obtain⟨a8,cA,rfl⟩:=bq hrow;obtain⟨i0,hi,hz0,hz1,hz2⟩:=info_parts adk;have HH:Hid _:=h;have HR:Hid (w1.ownsRow w.heap.size 3 1 (.slice a8 j cA) j (ij l)):=hrow;have HB:Hid (ak w w1):=hb;clear h hrow hb;unfold L8;refine aI.code cj (by kernel_rfl) (by kernel_rfl) rfl ⟨_,wD⟩ rfl λτ d=>?_;have CJ:Hid ((w1.re τ d).ownsRow w.heap.size 3 1 (.slice a8 j cA) j (ij l)):=HR.out;have iu:Hid (ak w (w1.re τ d)):=HB.out;clear HR HB;generalize w1.re τ d=w2 at *;have dP:∀k,(Ω.slice a8 j cA).ownBlock=some k→w.heap.size≤k∧k<w2.heap.size:=zcx CJ.out;have hsz:w.heap.size≤w2.heap.size:=iu.out.1;dsimp only[l8D,l8B,BX,sJ,Ii,pA,qA,Ren.bD,Ren.aZ,f8,ζ];go_wp2_with (at_builtin;refine fH rfl _ _ 43 rfl w.heap.size 3 i0 (Γ Δ 0) 8 underlying43 hi hz0 hz1 hz2 (by decide) rfl _ j (ij l) rfl (zcw CJ.out _) ⟨w2.heap.size,0,none⟩ 1 1 [Γ Δ x] rfl (by decide) rfl ?c1 ?c2 ?c3 ?c4 ?_)
 case c1=>
  intro i u hu
  match i,hu with
  |0,hu=>simp at hu;subst hu;simp[Addr.add]
 case c2=>intro u hu;simp at hu;subst hu;rfl
 case c3=>omega
 case c4=>simp;omega
 intro v' w6 hown hgrow _;have nV:Hid (ak w w6):=Jc iu.out hgrow λk hk=>(dP k hk).1;have Kw:Hid (w6.ownsRow w.heap.size 3 1 v' (j+1) (ij (l++[x]))):=by
  show Φ.ownsRow _ _ _ _ _ _ _;unfold ij at hown ⊢;rw[zck];exact hown
 clear hown hgrow iu CJ dP hi hz0 hz1 hz2 i0 hsz;obtain⟨a6,c6,rfl⟩:=bq Kw.out;by_cases OC:x<0
 ·obtain⟨u,rfl⟩:∃u:Nat,x=-(u:Int):=⟨x.natAbs,by omega⟩;have hlen:=gT u (by omega);have HI:Hid (Ξ (-(u:Int))=45::Λ u):=Lib.itoa_neg u (by omega);have HD1:Hid (∀w,π prog 21 #[Γ Δ (-(u:Int))] w λe w'=>DgN e∧φ w.heap.size w w'):=λw=>Ll u w (by omega) (by omega);have HD2:Hid (∀w,π prog 21 #[Γ Δ (u:Nat)] w λe w'=>e=.returned (.string ⟨⟨Λ u⟩⟩)∧φ w.heap.size w w'):=λw=>lU u w (by omega);go_wp2_with fail;refine zae (HD1.out _) ?_;rintro e w7 ⟨⟨ch,rfl⟩,xY⟩;have sA:Hid (ak w w7):=gp nV.out xY;have WU:Hid (w7.ownsRow w.heap.size 3 1 (.slice a6 (j+1) c6) (j+1) (ij (l++[-(u:Int)]))):=aX Kw.out (zab _) λb _ hlt=>xY.block b hlt;clear nV Kw xY HD1;go_wp2_with fail;refine zae (HD2.out _) ?_;rintro e w8 ⟨rfl,Hi⟩;have Si:Hid (ak w w8):=gp sA.out Hi;have Ys:Hid (w8.ownsRow w.heap.size 3 1 (.slice a6 (j+1) c6) (j+1) (ij (l++[-(u:Int)]))):=aX WU.out (zab _) λb _ hlt=>Hi.block b hlt;clear sA WU Hi HD2;go_wp2_with fail;show aI _ _ _ _ _ _ _ _;have:=HH.out;rw[HI.out]at this;exact this _ _ _ _ _ _ _ _ _ _ _ _ _ _ _ _ _ _ _ Ys.out Si.out
 ·obtain⟨u,rfl⟩:=zbD (show 0≤x by omega);have hlen:=gT u (by omega);have HI:Hid (Ξ (u:Int)=Λ u):=Lib.itoa_nonneg u;have HD2:Hid (∀w,π prog 21 #[Γ Δ (u:Nat)] w λe w'=>e=.returned (.string ⟨⟨Λ u⟩⟩)∧φ w.heap.size w w'):=λw=>lU u w (by omega);go_wp2_with fail;refine zae (HD2.out _) ?_;rintro e w8 ⟨rfl,Hi⟩;have Si:Hid (ak w w8):=gp nV.out Hi;have Ys:Hid (w8.ownsRow w.heap.size 3 1 (.slice a6 (j+1) c6) (j+1) (ij (l++[(u:Int)]))):=aX Kw.out (zab _) λb _ hlt=>Hi.block b hlt;clear nV Kw Hi HD2;go_wp2_with fail;show aI _ _ _ _ _ _ _ _;have:=HH.out;rw[HI.out]at this;exact this _ _ _ _ _ _ _ _ _ _ _ _ _ _ _ _ _ _ _ Ys.out Si.out
end
def PU (k:Nat)(z:Int):Int:=if k=2 then iX z 7-3 else iX z 2001-1000
def bZ (k:Nat)(zs:List Int):List Int:=(zs.take 12).map (PU k)
theorem Tg (k:Nat)(z:Int): -1000≤PU k z∧PU k z≤1000∧(k=2→-3≤PU k z∧PU k z≤3):=by
 have h1:=kj (c:=z) (n:=7);have h2:=qy (c:=z) (n:=7) (by omega);have h3:=kj (c:=z) (n:=2001);have h4:=qy (c:=z) (n:=2001) (by omega);unfold PU;split<;>omega
theorem A1 (k:Nat)(zs:List Int):(bZ k zs).length=min 12 zs.length:=by simp[bZ]
theorem Dl (k:Nat)(zs:List Int):∀x∈bZ k zs,-1000≤x∧x≤1000∧(k=2→-3≤x∧x≤3):=λx hx=>by
 obtain⟨z,_,rfl⟩:=zbc.1 hx;exact Tg k z
theorem Jd (k:Nat)(zs:List Int)(j:Nat)(h1:j<12)(h2:j<zs.length):(bZ k zs).take (j+1)=(bZ k zs).take j++[PU k (zs.getD j 0)]:=by
 have hk:(bZ k zs)[j]?=some (PU k (zs.getD j 0)):=by
  simp only[bZ,zbG,List.getElem?_take,zac h1,zbX,zaq h2];rfl
 rw[List.take_add_one,hk];rfl
theorem kU {w w':Φ}{lo:Nat}{v:Ω}{n:Nat}{xs:List Ω}(h:w.ownsRow lo 3 1 v n xs)(e:w'.heap=w.heap):w'.ownsRow lo 3 1 v n xs:=aX h (zab _) λb _ _=>by rw[e]
section
variable {Ψ:aV}{w:Φ}
theorem aI.afp {sa:Option Addr}{len cap k:Nat}{zs:List Int}{op:Int}(hlen:zs.length=len)(hz:∀j,j<len→-9223372036854775808≤zs.getD j 0∧zs.getD j 0≤9223372036854775807)
 (hcell:∀j,j<len→∃b o,sa=some ⟨b,o,none⟩∧∀w',ak w w'→OX Sz Ψ w' ⟨b,o+j,none⟩ (Γ Δ (zs.getD j 0)))
 (h:∀w' vv v10 v11 v22 v23 v24 v25 v26 v27 v28 v29 v30 v31 v33 v34 v35 v36 v37 v38 v39 v40 v42 v44 v45 v46 v47 v48 v50 v52 v53 v54 v55 v56 v57 v58 v59 v60 v61 v62 v63 v64 v65 v66 v67 v68 v69 v70 jh jm ji jq jk,w'.ownsRow w.heap.size 3 1 vv (bZ k zs).length (ij (bZ k zs))→ak w w'→aI prog Sz Ψ (base 8) (qL (.slice sa len cap) jh jm ji jq jk) (L8 op k (40::gU k::aN (bZ k zs)) vv (bZ k zs).length v10 v11 v22 v23 v24 v25 v26 v27 v28 v29 v30 v31 v33 v34 v35 v36 v37 v38 v39 v40 v42 v44 v45 v46 v47 v48 v50 v52 v53 v54 v55 v56 v57 v58 v59 v60 v61 v62 v63 v64 v65 v66 v67 v68 v69 v70) [.code (qA f8 7)] w'):
 ∀(m j:Nat) (v10 v11 v22 v23 v24 v25 v26 v27 v28 v29 v30 v31 v33 v34 v35 v36 v37 v38 v39 v40 v42 v44 v45 v46 v47 v48 v50 v52 v53 v54 v55 v56 v57 v58 v59 v60 v61 v62 v63 v64 v65 v66 v67 v68 v69 v70 vv jh jm ji jq jk:Ω) (w1:Φ),m+j=12→j≤len→w1.ownsRow w.heap.size 3 1 vv j (ij ((bZ k zs).take j))→ak w w1→aI prog Sz Ψ (base 8) (qL (.slice sa len cap) jh jm ji jq jk) (L8 op k (40::gU k::aN ((bZ k zs).take j)) vv j v10 v11 v22 v23 v24 v25 v26 v27 v28 v29 v30 v31 v33 v34 v35 v36 v37 v38 v39 v40 v42 v44 v45 v46 v47 v48 v50 v52 v53 v54 v55 v56 v57 v58 v59 v60 v61 v62 v63 v64 v65 v66 v67 v68 v69 v70) [.code (BX f8),.inLoop (BX f8),.inBlock 0,.code (qA f8 7)] w1:=by
 have Gu:∀(j:Nat) (v10 v11 v22 v23 v24 v25 v26 v27 v28 v29 v30 v31 v33 v34 v35 v36 v37 v38 v39 v40 v42 v44 v45 v46 v47 v48 v50 v52 v53 v54 v55 v56 v57 v58 v59 v60 v61 v62 v63 v64 v65 v66 v67 v68 v69 v70 vv jh jm ji jq jk:Ω) (w1:Φ),j=12∨j=len→j≤12→j≤len→w1.ownsRow w.heap.size 3 1 vv j (ij ((bZ k zs).take j))→ak w w1→aI prog Sz Ψ (base 8) (qL (.slice sa len cap) jh jm ji jq jk) (L8 op k (40::gU k::aN ((bZ k zs).take j)) vv j v10 v11 v22 v23 v24 v25 v26 v27 v28 v29 v30 v31 v33 v34 v35 v36 v37 v38 v39 v40 v42 v44 v45 v46 v47 v48 v50 v52 v53 v54 v55 v56 v57 v58 v59 v60 v61 v62 v63 v64 v65 v66 v67 v68 v69 v70) [.code (BX f8),.inLoop (BX f8),.inBlock 0,.code (qA f8 7)] w1:=by
  intro j v10 v11 v22 v23 v24 v25 v26 v27 v28 v29 v30 v31 v33 v34 v35 v36 v37 v38 v39 v40 v42 v44 v45 v46 v47 v48 v50 v52 v53 v54 v55 v56 v57 v58 v59 v60 v61 v62 v63 v64 v65 v66 v67 v68 v69 v70 vv jh jm ji jq jk w1 hj xR tC hrow hb;rw[Te];refine aI.seq ?_;refine aI.seq ?_;refine aI.adj xR λw2 _ _ _ _ _ _ he=>?_;refine aI.cond (t:=false) rfl (by simp[ι,L8];omega) ?_;refine aI.exit (k':=[.code (qA f8 7)]) rfl ?_;have hn:(bZ k zs).length=j:=by rw[A1];omega
  have ht:(bZ k zs).take j=bZ k zs:=zbC (by omega);rw[ht]at hrow ⊢;rw[hn]at h;exact h _ _ _ _ _ _ _ _ _ _ _ _ _ _ _ _ _ _ _ _ _ _ _ _ _ _ _ _ _ _ _ _ _ _ _ _ _ _ _ _ _ _ _ _ _ _ _ _ _ _ _ _ _ (kU hrow he) (ak.heap hb he)
 intro m
 induction m with
 |zero=>
  intro j v10 v11 v22 v23 v24 v25 v26 v27 v28 v29 v30 v31 v33 v34 v35 v36 v37 v38 v39 v40 v42 v44 v45 v46 v47 v48 v50 v52 v53 v54 v55 v56 v57 v58 v59 v60 v61 v62 v63 v64 v65 v66 v67 v68 v69 v70 vv jh jm ji jq jk w1 hm tC hrow hb;exact Gu j v10 v11 v22 v23 v24 v25 v26 v27 v28 v29 v30 v31 v33 v34 v35 v36 v37 v38 v39 v40 v42 v44 v45 v46 v47 v48 v50 v52 v53 v54 v55 v56 v57 v58 v59 v60 v61 v62 v63 v64 v65 v66 v67 v68 v69 v70 vv jh jm ji jq jk w1 (.inl (by omega)) (by omega) tC hrow hb
 |succ m ih=>
  intro j v10 v11 v22 v23 v24 v25 v26 v27 v28 v29 v30 v31 v33 v34 v35 v36 v37 v38 v39 v40 v42 v44 v45 v46 v47 v48 v50 v52 v53 v54 v55 v56 v57 v58 v59 v60 v61 v62 v63 v64 v65 v66 v67 v68 v69 v70 vv jh jm ji jq jk w1 hm tC hrow hb;by_cases hlt:j<len
  ·clear Gu;obtain⟨b,o,rfl,hc⟩:=hcell j hlt;have hzj:=hz j hlt;have HN:=Jd k zs j (by omega) (by omega);have hxb:=Tg k (zs.getD j 0);have hxd:PU k (zs.getD j 0)=if k=2 then iX (zs.getD j 0) 7-3 else iX (zs.getD j 0) 2001-1000:=rfl
   have hnl:(aN ((bZ k zs).take j)).length≤13*j:=by
    have h1:=(jK ((bZ k zs).take j) λx hx=>by have:=Dl k zs x (List.mem_of_mem_take hx);omega).2;have h2:((bZ k zs).take j).length≤j:=by rw[List.length_take];omega
    omega
   have HI:Hid (∀(v10 v11 v22 v23 v24 v25 v26 v27 v28 v29 v30 v31 v33 v34 v35 v36 v37 v38 v39 v40 v42 v44 v45 v46 v47 v48 v50 v52 v53 v54 v55 v56 v57 v58 v59 v60 v61 v62 v63 v64 v65 v66 v67 v68 v69 v70 vv jh jm ji jq jk:Ω) (w1:Φ),w1.ownsRow w.heap.size 3 1 vv (j+1) (ij ((bZ k zs).take j++[PU k (zs.getD j 0)]))→ak w w1→aI prog Sz Ψ (base 8) (qL (.slice (some ⟨b,o,none⟩) len cap) jh jm ji jq jk) (L8 op k ((40::gU k::aN ((bZ k zs).take j))++32::Ξ (PU k (zs.getD j 0))) vv (j+1) v10 v11 v22 v23 v24 v25 v26 v27 v28 v29 v30 v31 v33 v34 v35 v36 v37 v38 v39 v40 v42 v44 v45 v46 v47 v48 v50 v52 v53 v54 v55 v56 v57 v58 v59 v60 v61 v62 v63 v64 v65 v66 v67 v68 v69 v70) [.code (BX f8),.inLoop (BX f8),.inBlock 0,.code (qA f8 7)] w1):=λv10 v11 v22 v23 v24 v25 v26 v27 v28 v29 v30 v31 v33 v34 v35 v36 v37 v38 v39 v40 v42 v44 v45 v46 v47 v48 v50 v52 v53 v54 v55 v56 v57 v58 v59 v60 v61 v62 v63 v64 v65 v66 v67 v68 v69 v70 vv jh jm ji jq jk w1 hr hb=>by
    have:=ih (j+1) v10 v11 v22 v23 v24 v25 v26 v27 v28 v29 v30 v31 v33 v34 v35 v36 v37 v38 v39 v40 v42 v44 v45 v46 v47 v48 v50 v52 v53 v54 v55 v56 v57 v58 v59 v60 v61 v62 v63 v64 v65 v66 v67 v68 v69 v70 vv jh jm ji jq jk w1 (by omega) (by omega) (by rw[HN];exact hr) hb;rw[HN,Ln]at this;exact this
   clear ih h hcell hz;generalize (bZ k zs).take j=l at *;clear HN;generalize PU k (zs.getD j 0)=x at *;generalize zs.getD j 0=z at *;have mixed:prog.follows η=true:=by kernel_rfl
   generalize kV:BX f8=bd at HI ⊢;generalize hkq:([.inLoop bd,.inBlock 0,.code (qA f8 7)]:List Item)=kq at HI ⊢;have oX:∀(v10 v11 v22 v23 v24 v25 v26 v27 v28 v29 v30 v31 v33 v34 v35 v36 v37 v38 v39 v40 v42 v44 v45 v46 v47 v48 v50 v52 v53 v54 v55 v56 v57 v58 v59 v60 v61 v62 v63 v64 v65 v66 v67 v68 v69 v70 vv jh jm ji jq jk:Ω) (w1:Φ),w1.ownsRow w.heap.size 3 1 vv (j+1) (ij (l++[x]))→ak w w1→aI prog Sz Ψ (base 8) (qL (.slice (some ⟨b,o,none⟩) len cap) jh jm ji jq jk) (L8 op k ((40::gU k::aN l)++32::Ξ x) vv j v10 v11 v22 v23 v24 v25 v26 v27 v28 v29 v30 v31 v33 v34 v35 v36 v37 v38 v39 v40 v42 v44 v45 v46 v47 v48 v50 v52 v53 v54 v55 v56 v57 v58 v59 v60 v61 v62 v63 v64 v65 v66 v67 v68 v69 v70) (.inBlock 1::.code (l8n f8)::kq) w1:=by
    intro v10 v11 v22 v23 v24 v25 v26 v27 v28 v29 v30 v31 v33 v34 v35 v36 v37 v38 v39 v40 v42 v44 v45 v46 v47 v48 v50 v52 v53 v54 v55 v56 v57 v58 v59 v60 v61 v62 v63 v64 v65 v66 v67 v68 v69 v70 vv jh jm ji jq jk w1 hr hb;refine aI.inBlock ?_;unfold L8;refine aI.code cj (by kernel_rfl) (by kernel_rfl) rfl ⟨_,wD⟩ rfl λτ d=>?_;have HR:Hid ((w1.re τ d).ownsRow w.heap.size 3 1 vv (j+1) (ij (l++[x]))):=hr;have HB:Hid (ak w (w1.re τ d)):=ak.heap hb rfl;clear hr hb hc hzj hxb hxd hnl hrow;generalize w1.re τ d=w4 at *;dsimp only[l8n,BX,sJ,Ii,pA,qA,Ren.bD,Ren.aZ,f8,ζ];go_wp2_with fail;subst hkq;show aI _ _ _ _ _ _ _ _;refine aI.inLoop ?_;exact HI.out _ _ _ _ _ _ _ _ _ _ _ _ _ _ _ _ _ _ _ _ _ _ _ _ _ _ _ _ _ _ _ _ _ _ _ _ _ _ _ _ _ _ _ _ _ _ _ _ _ _ _ _ _ HR.out HB.out
   clear HI;rw[←kV,Te];clear kV hkq;refine aI.seq ?_;refine aI.seq ?_;refine aI.adj (by omega) λw2 u31 u33 u34 u35 u36 u37 he2=>?_;refine aI.cond (t:=true) rfl (by simp[ι,L8];omega) ?_;refine aI.skip ?_;refine aI.seq ?_;refine aI.block ?_;refine aI.seq ?_;have hb2:ak w w2:=ak.heap hb he2;have hrow2:=kU hrow he2;obtain⟨q,hq,eq⟩:∃q:Nat,q<2001∧iX z 2001=q:=⟨(iX z 2001).toNat,by have:=kj (c:=z) (n:=2001);have:=qy (c:=z) (n:=2001) (by omega);omega,by have:=kj (c:=z) (n:=2001);omega⟩;refine aI.afn hlt hq (hc w2 hb2) (λw=>by rw[←eq];exact qz _ 2001 w hzj.1 hzj.2 (by omega) (by omega)) λw3 t42 t44 t45 t46 he3=>?_;have hb3:ak w w3:=ak.heap hb2 he3;have hrow3:=kU hrow2 he3;refine aI.seq ?_;refine aI.seq ?_;unfold L8;refine aI.code cj (by kernel_rfl) (by kernel_rfl) rfl ⟨_,wD⟩ rfl λτ d=>?_;have Yg:Hid ((w3.re τ d).ownsRow w.heap.size 3 1 vv j (ij l)):=hrow3;have oB:Hid (ak w (w3.re τ d)):=ak.heap hb3 rfl;have HC:Hid _:=hc;have HNX:Hid _:=oX;clear hb hb2 hb3 hrow hrow2 hrow3 he2 he3 hc oX;generalize w3.re τ d=w4 at *;generalize en:([.code (.cond (.tmp 48) (.region 12 (PT f8) false) .skip),.code (l8D f8),.inBlock 1,.code (l8n f8)]++kq:List Item)=kr;have aa6:(Item.code (.cond (.tmp 48) (.region 12 (PT f8) false) .skip)::.code (l8D f8)::.inBlock 1::.code (l8n f8)::kq)=kr:=en;rw[aa6];clear en;dsimp only[l8e,l8C,l8B,BX,sJ,Ii,pA,qA,Ren.bD,Ren.aZ,f8,ζ];by_cases h2:k=2
   ·subst h2;rw[zac rfl]at hxd;go_wp2_with fail;subst aa6;show aI _ _ _ _ _ _ _ _;refine aI.cond (t:=true) rfl (by simp[ι]) ?_;obtain⟨q7,hq7,eq7⟩:∃q:Nat,q<7∧iX z 7=q:=⟨(iX z 7).toNat,by have:=kj (c:=z) (n:=7);have:=qy (c:=z) (n:=7) (by omega);omega,by have:=kj (c:=z) (n:=7);omega⟩;rw[eq7]at hxd;subst hxd;refine aI.afo (op:=op) (k:=2) (ls:=40::gU 2::aN l) (vv:=vv) hlt hq7 (HC.out w4 oB.out) (λw=>by rw[←eq7];exact qz _ 7 w hzj.1 hzj.2 (by omega) (by omega)) λw5 t50 t52 t53 t54 he5=>?_;exact aI.adl (by omega) (by omega) (by omega) (by simp;omega) (kU Yg.out he5) (ak.heap oB.out he5) λw6 vv6 v11 v55 v56 v57 v58 v59 v60 v61 v62 v63 v64 v65 v66 v67 v68 v69 v70 BI nz=>HNX.out _ _ _ _ _ _ _ _ _ _ _ _ _ _ _ _ _ _ _ _ _ _ _ _ _ _ _ _ _ _ _ _ _ _ _ _ _ _ _ _ _ _ _ _ _ _ _ _ _ _ _ _ _ BI nz
   ·rw[zaa h2]at hxd;have hk2:((k:Int)==2)=false:=by rw[zai];omega
    go_wp2_with fail;subst aa6;show aI _ _ _ _ _ _ _ _;refine aI.cond (t:=false) rfl (by simp[ι]) ?_;refine aI.skip ?_;rw[eq]at hxd;subst hxd;exact aI.adl (op:=op) (k:=k) (ls:=40::gU k::aN l) (by omega) (by omega) (by omega) (by simp;omega) Yg.out oB.out λw6 vv6 v11 v55 v56 v57 v58 v59 v60 v61 v62 v63 v64 v65 v66 v67 v68 v69 v70 BI nz=>HNX.out _ _ _ _ _ _ _ _ _ _ _ _ _ _ _ _ _ _ _ _ _ _ _ _ _ _ _ _ _ _ _ _ _ _ _ _ _ _ _ _ _ _ _ _ _ _ _ _ _ _ _ _ _ BI nz
  ·exact Gu j v10 v11 v22 v23 v24 v25 v26 v27 v28 v29 v30 v31 v33 v34 v35 v36 v37 v38 v39 v40 v42 v44 v45 v46 v47 v48 v50 v52 v53 v54 v55 v56 v57 v58 v59 v60 v61 v62 v63 v64 v65 v66 v67 v68 v69 v70 vv jh jm ji jq jk w1 (.inr (by omega)) (by omega) tC hrow hb
end
def np (k n t:Nat)(a x:Int):Int:=if k=0 then a+x else if k=2 then a*x else if t=0∧1<n then x else a-x
def uX (k:Nat)(l:List Int):Nat→Int
 |0=>if k=2 then 1 else 0
 |t+1=>np k l.length t (uX k l t) (l.getD t 0)
theorem take_one {l:List Int}{t:Nat}(h:t<l.length):l.take (t+1)=l.take t++[l.getD t 0]:=by
 rw[List.take_add_one,zaq h,zbX,zaq h];rfl
theorem Y1 (l:List Int):∀t,t≤l.length→uX 0 l t=(l.take t).foldl (· + ·) 0
 |0,_=>rfl
 |t+1,h=>by rw[uX,np,zac rfl,Y1 l t (by omega),take_one (by omega),zcs];rfl
theorem Y2 (l:List Int):∀t,t≤l.length→uX 2 l t=(l.take t).foldl (· * ·) 1
 |0,_=>rfl
 |t+1,h=>by rw[uX,np,zaa (by decide),zac rfl,Y2 l t (by omega),take_one (by omega),zcs];rfl
theorem Y3 (a b:Int)(r:List Int):∀t,t≤(b::r).length→uX 1 (a::b::r) (t+1)=((b::r).take t).foldl (· - ·) a
 |0,_=>by simp[uX,np]
 |t+1,h=>by
  rw[uX,Y3 a b r t (by omega),take_one (by omega),zcs];simp[np]
theorem aa7 (k:Nat)(hk:k<3)(l:List Int):uX k l l.length=kt k l:=by
 have hk3:k=0∨k=1∨k=2:=by omega
 rcases hk3 with rfl|rfl|rfl
 ·rw[Y1 l _ (zab _),List.take_length];rfl
 ·match l with
  |[]=>rfl
  |[a]=>simp[uX,np,kt]
  |a::b::r=>
   have:=Y3 a b r (b::r).length (zab _);rw[List.take_length]at this;exact this
 ·rw[Y2 l _ (zab _),List.take_length];rfl
theorem afq (t:Nat)(h:t≤12):(3:Int)^t≤531441:=by
 have:t=0∨t=1∨t=2∨t=3∨t=4∨t=5∨t=6∨t=7∨t=8∨t=9∨t=10∨t=11∨t=12:=by omega
 rcases this with e|e|e|e|e|e|e|e|e|e|e|e|e<;>rw[e]<;>decide
theorem fL {l:List Int}{t:Nat}(h:t<l.length):l.getD t 0∈l:=by
 rw[zbX,zaq h];exact zbd h
theorem aa8 (k:Nat)(hk:k<3)(l:List Int)(hl:l.length≤12)(hb:∀x∈l,-1000≤x∧x≤1000∧(k=2→-3≤x∧x≤3))(t:Nat)(ht:t≤l.length): -1000000≤uX k l t∧uX k l t≤1000000:=by
 by_cases h2:k=2
 ·subst h2;have key:∀t,t≤l.length→-(3^t)≤uX 2 l t∧uX 2 l t≤3^t:=by
   intro t
   induction t with
   |zero=>intro _;simp[uX]
   |succ t ih=>
    intro h;have hx:=(hb _ (fL (show t<l.length by omega))).2.2 rfl;have:=ih (by omega);obtain⟨m1,m2⟩:=aa0 this.1 this.2 hx.1 hx.2;rw[uX,np,zaa (by decide),zac rfl,Int.pow_succ];exact⟨m1,m2⟩
  have:=key t ht;have:=afq t (by omega);omega
 ·have key:∀t,t≤l.length→-(1000*(t:Int))≤uX k l t∧uX k l t≤1000*(t:Int):=by
   intro t
   induction t with
   |zero=>intro _;simp[uX,h2]
   |succ t ih=>
    intro h;have hx:=hb _ (fL (show t<l.length by omega));have:=ih (by omega);rw[uX,np];split
    ·omega
    ·split<;>omega
  have:=key t ht;omega
def M8 (op:Int)(k:Nat)(ls:List UInt8)(a8:Option Addr)(n cA:Nat)(wt:Int)(y9 y10 y11 y13 y22 y23 y24 y25 y26 y27 y28 y29 y30 y31 y33 y34 y35 y36 y37 y38 y39 y40 y42 y44 y45 y46 y47 y48 y50 y52 y53 y54 y55 y56 y57 y58 y59 y60 y61 y62 y63 y64 y65 y66 y67 y68 y69 y70 y71 y72 y73 y74 y75 y76 y77 y78 y79 y80 y81 y82 y83 y84 y85 y86 y87 y88 y89 y90 y91 y92 y93 y94 y95 y96 y97 y98 y99 Th Ti Tj Tk Tl Tn Tq Tr Ts Tt Tu Tv Tx Ty:Ω):Act:=⟨#[Θ,Γ Δ op,Θ,Θ,.bool false,.bool true,Γ Δ (k:Nat),.string ⟨⟨ls⟩⟩,.slice a8 n cA,y9,y10,y11,Γ Δ wt,y13,Θ,Θ,Θ,Θ,Θ,Θ,Θ,.bool true,y22,y23,y24,y25,y26,y27,y28,y29,y30,y31,Θ,y33,y34,y35,y36,y37,y38,y39,y40,Θ,y42,Θ,y44,y45,y46,y47,y48,Θ,y50,Θ,y52,y53,y54,y55,y56,y57,y58,y59,y60,y61,y62,y63,y64,y65,y66,y67,y68,y69,y70,y71,y72,y73,y74,y75,y76,y77,y78,y79,y80,y81,y82,y83,y84,y85,y86,y87,y88,y89,y90,y91,y92,y93,y94,y95,y96,y97,y98,y99,Th,Ti,Tj,Tk,Tl,Tn,Tq,Tr,Ts,Tt,Tu,Tv,Tx,Ty,Θ,Θ,Θ,Θ,Θ,Θ,Θ,Θ,Θ,Θ,Θ,Θ,Θ,Θ,Θ,Θ,Θ,Θ,Θ,Θ,Θ,Θ,Θ,Θ,Θ,Θ,Θ,Θ,Θ,Θ,Θ,Θ,Θ,Θ,Θ,Θ,Θ,Θ,Θ,Θ,Θ,Θ,Θ,Θ,Θ,Θ,Θ,Θ,Θ,Θ,Θ,Θ,Θ,Θ,Θ,Θ,Θ,Θ,Θ,Θ,Θ],[]⟩
section
variable {Ψ:aV}{w:Φ}
theorem aI.afr {X v10 v11 v22 v23 v24 v25 v26 v27 v28 v29 v30 v31 v33 v34 v35 v36 v37 v38 v39 v40 v42 v44 v45 v46 v47 v48 v50 v52 v53 v54 v55 v56 v57 v58 v59 v60 v61 v62 v63 v64 v65 v66 v67 v68 v69 v70 jh jm ji jq jk vv:Ω}{k j:Nat}{op:Int}{ls:List UInt8}{l:List Int}{w1:Φ}(hk:k<3)(hl:l.length≤12)(kV:∀x∈l,-1000≤x∧x≤1000∧(k=2→-3≤x∧x≤3))(hrow:w1.ownsRow w.heap.size 3 1 vv l.length (ij l))(hb:ak w w1)
 (h:∀w' a8 cA y9 y10 y11 y13 y22 y23 y24 y25 y26 y27 y28 y29 y30 y31 y33 y34 y35 y36 y37 y38 y39 y40 y42 y44 y45 y46 y47 y48 y50 y52 y53 y54 y55 y56 y57 y58 y59 y60 y61 y62 y63 y64 y65 y66 y67 y68 y69 y70 y71 y72 y73 y74 y75 y76 y77 y78 y79 y80 y81 y82 y83 y84 y85 y86 y87 y88 y89 y90 y91 y92 y93 y94 y95 y96 y97 y98 y99 Th Ti Tj Tk Tl Tn Tq Tr Ts Tt Tu Tv Tx Ty,ak w w'→aI prog Sz Ψ (base 8) (qL X jh jm ji jq jk) (M8 op k ls a8 l.length cA (kt k l) y9 y10 y11 y13 y22 y23 y24 y25 y26 y27 y28 y29 y30 y31 y33 y34 y35 y36 y37 y38 y39 y40 y42 y44 y45 y46 y47 y48 y50 y52 y53 y54 y55 y56 y57 y58 y59 y60 y61 y62 y63 y64 y65 y66 y67 y68 y69 y70 y71 y72 y73 y74 y75 y76 y77 y78 y79 y80 y81 y82 y83 y84 y85 y86 y87 y88 y89 y90 y91 y92 y93 y94 y95 y96 y97 y98 y99 Th Ti Tj Tk Tl Tn Tq Tr Ts Tt Tu Tv Tx Ty) [.code (qA f8 10)] w'):
 aI prog Sz Ψ (base 8) (qL X jh jm ji jq jk) (L8 op k ls vv j v10 v11 v22 v23 v24 v25 v26 v27 v28 v29 v30 v31 v33 v34 v35 v36 v37 v38 v39 v40 v42 v44 v45 v46 v47 v48 v50 v52 v53 v54 v55 v56 v57 v58 v59 v60 v61 v62 v63 v64 v65 v66 v67 v68 v69 v70) [.code (qA f8 7)] w1:=by
 have mixed:prog.follows η=true:=by kernel_rfl
 obtain⟨a8,cA,rfl⟩:=bq hrow;have HH:Hid _:=h;have ou:Hid (w1.ownsRow w.heap.size 3 1 (.slice a8 l.length cA) l.length (ij l)):=hrow;have je:Hid (ak w w1):=hb;have HW:Hid _:=aa8 k hk l hl kV;have HE:Hid _:=aa7 k hk l;have HD:Hid _:=kV;clear h hrow hb kV;unfold L8;rw[afj];refine aI.seq ?_;refine aI.code cj (by kernel_rfl) (by kernel_rfl) rfl ⟨_,wD⟩ rfl λτ d=>?_;have iu:Hid (ak w (w1.re τ d)):=ak.heap je.out rfl;have CJ:Hid ((w1.re τ d).ownsRow w.heap.size 3 1 (.slice a8 l.length cA) l.length (ij l)):=ou.out;clear je ou;generalize w1.re τ d=w2 at *;generalize en:([.code (qA f8 8)]:List Item)=kq;dsimp only[pA,qA,Ren.bD,Ren.aZ,f8,ζ];go_wp2_with fail;subst en;show aI _ _ _ _ _ _ _ _;rw[afk];refine aI.seq ?_;refine aI.code cj (by kernel_rfl) (by kernel_rfl) rfl ⟨_,wD⟩ rfl λτ d=>?_;have jl:Hid (ak w (w2.re τ d)):=ak.heap iu.out rfl;have Mu:Hid ((w2.re τ d).ownsRow w.heap.size 3 1 (.slice a8 l.length cA) l.length (ij l)):=CJ.out;clear iu CJ;generalize w2.re τ d=w3 at *;generalize en:([.code (qA f8 9)]:List Item)=kq;dsimp only[pA,qA,Ren.bD,Ren.aZ,f8,ζ];have hk3:k=0∨k=1∨k=2:=by omega
 obtain⟨kv,FK⟩:∃kv:Nat,kv=k:=⟨k,rfl⟩;clear hk;rcases hk3 with rfl|rfl|rfl
 all_goals
  go_wp2_with fail;subst en;show aI _ _ _ _ _ _ _ _;rw[afl];refine aI.seq ?_;refine aI.code cj (by kernel_rfl) (by kernel_rfl) rfl ⟨_,wD⟩ rfl λτ d=>?_;have oB:Hid (ak w (w3.re τ d)):=ak.heap jl.out rfl;have Yg:Hid ((w3.re τ d).ownsRow w.heap.size 3 1 (.slice a8 l.length cA) l.length (ij l)):=Mu.out;clear jl Mu;generalize w3.re τ d=w4 at *;generalize en:([.code (qA f8 10)]:List Item)=kq;dsimp only[pA,qA,Ren.bD,Ren.aZ,f8,ζ];go_wp2_with fail;go_loopw [12,13] (λwt i wr=>∃t:Nat,t≤l.length∧i=Γ Δ t∧wt=Γ Δ (uX kv l t)∧Hid (wr.heap=w4.heap)) (λ_ i _=>l.length-(ό i).toNat)
  case atStart=>exact⟨0,zaw _,rfl,by subst FK;rfl,rfl⟩
  case round=>
   obtain⟨t,ht,rfl,rfl,hwr⟩:=hrel;have HBr:Hid (ak w wr):=ak.heap oB.out hwr.out;by_cases hlt:t<l.length
   ·have px:wr.ownsRow w.heap.size 3 1 (.slice a8 l.length cA) l.length (ij l):=aX Yg.out (zab _) λb _ _=>by rw[hwr.out]
    obtain⟨g,cs,ty,rfl,hcell,-,hgb⟩:=lS px t (by simp[ij];exact hlt);obtain⟨g0,cs0,ty0,e0,aa9,-,-⟩:=lS px 0 (by simp[ij];omega);cases e0;have Jj:g<wr.heap.size:=(zaf.1 hgb).1;have ex:(ij l)[t]'(by simp[ij];exact hlt)=Γ Δ (l.getD t 0):=by
     simp[ij,List.getD_eq_getElem?_getD,List.getElem?_eq_getElem hlt]
    have ex0:(ij l)[0]'(by simp[ij];omega)=Γ Δ (l.getD 0 0):=by
     simp[ij,List.getD_eq_getElem?_getD,List.getElem?_eq_getElem (show 0<l.length by omega)]
    rw[ex]at hcell;rw[ex0]at aa9;have hx:=HD.out _ (fL hlt);have hx0:=HD.out _ (fL (show 0<l.length by omega));have UZ: -1000000≤uX kv l t∧uX kv l t≤1000000:=by rw[FK];exact HW.out t (by omega)
    have hw2: -1000000≤uX kv l (t+1)∧uX kv l (t+1)≤1000000:=by rw[FK];exact HW.out (t+1) (by omega)
    have hstep:uX kv l (t+1)=np kv l.length t (uX kv l t) (l.getD t 0):=rfl;have ht0:t=0→l.getD t 0=l.getD 0 0:=λe=>by rw[e]
    clear px hgb ex ex0;generalize hA:uX kv l t=va at *;generalize hA':uX kv l (t+1)=vb at *;generalize l.getD t 0=x at *;generalize l.getD 0 0=x0 at *;generalize hn:l.length=n at *;subst FK;simp only[np]at hstep;first
    |(simp at hstep
      rw[hstep]at hw2;go_wp2_with fail
      go_round
      case rel=>exact⟨t+1,by omega,by go_num,by rw[hA',hstep],hwr⟩
      case measure=>simp[ό];omega)
    |(by_cases h0:t=0
      ·subst h0;obtain rfl:=ht0 rfl;by_cases h1:1<n
       ·simp[h1]at hstep;go_wp2_with fail
        go_round
        case rel=>exact⟨1,by omega,by go_num,by rw[hA',hstep],hwr⟩
        case measure=>simp[ό];omega
       ·simp[h1]at hstep;rw[hstep]at hw2;go_wp2_with fail
        go_round
        case rel=>exact⟨1,by omega,by go_num,by rw[hA',hstep],hwr⟩
        case measure=>simp[ό];omega
      ·simp[h0]at hstep;rw[hstep]at hw2;have xM:((t:Int)==0)=false:=by rw[zai];omega
       go_wp2_with fail
       go_round
       case rel=>exact⟨t+1,by omega,by go_num,by rw[hA',hstep],hwr⟩
       case measure=>simp[ό];omega)
   ·obtain rfl:t=l.length:=by omega
    subst FK;go_wp2_with fail;subst en;show aI _ _ _ _ _ _ _ _;have:=HH.out;rw[←HE.out]at this;exact this _ _ _ _ _ _ _ _ _ _ _ _ _ _ _ _ _ _ _ _ _ _ _ _ _ _ _ _ _ _ _ _ _ _ _ _ _ _ _ _ _ _ _ _ _ _ _ _ _ _ _ _ _ _ _ _ _ _ _ _ _ _ _ _ _ _ _ _ _ _ _ _ _ _ _ _ _ _ _ _ _ _ _ _ _ _ _ _ _ _ _ _ _ _ HBr.out
end
end Go.Ren
