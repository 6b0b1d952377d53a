import Derived.Lib.AppendIntMem
import Derived.Deep.DeepCutAuto
import Derived.BigRegion
import Derived.Deep.OwnRows
import Derived.Test.YtlhimdjkkiflhaaGreatDoorRet11
set_option maxHeartbeats 8000000
set_option maxRecDepth 100000
open Go.Value renaming int→Γ
open Go.IntKind renaming i64→Δ
open Go renaming World→Θ,Value→Λ,Calls→ζ,madeCells→η,TypeId→ι
open Go.RowKit renaming Below→Ξ
open List renaming replicate→Φ,getD→ξ
open Go.Lib renaming byteCells→Ω,itoa→θ
namespace Go.Proofs.YtlhimdjkkiflhaaGreatDoor
open Go.Proofs.Tryz
open Go.RowKit Go.Loop
def Pow (w:Θ):Prop:=Lib.TabIs prog w "internal/strconv.uint64pow10" .u64 Lib.pow10Tab
theorem Pow.on {w w':Θ}(h:Pow w)(hb:Ξ w.heap.size w w'):Pow w':=Lib.tabBelow_of_tabIs h w' hb
theorem oW (n:Int)(w:Θ)(h1: -1000000000≤n)(h2:n≤1000000000)(hp:Pow w):ζ prog 100 #[Γ Δ n] w λe w'=>e=.returned (.string ⟨⟨θ n⟩⟩)∧Ξ w.heap.size w w':=by
 refine(Tryz.strconv_Itoa n (by omega) (by omega) w hp).mono ?_;rintro e w' ⟨rfl,k,os,rfl⟩;exact⟨rfl,Lib.below_grow _ w (zac _) k os⟩
def uD (n:Int):List UInt8:=if n=1 then[35,116]else[35,102]
theorem MG (n:Int)(w:Θ):ζ prog 158 #[Γ Δ n] w λe w'=>e=.returned (.string ⟨⟨uD n⟩⟩)∧w'=w:=by
 cases hn:(n==1)
 ·have HV:Hid (uD n=[35,102]):=by show _=_;unfold uD;rw[zah]at hn;rw[zaa hn]
  go_enter func158,ntmps158;go_wp2_with fail;go_ret;exact⟨fe HV.out.symm,rfl⟩
 ·have HV:Hid (uD n=[35,116]):=by show _=_;unfold uD;rw[zaJ]at hn;rw[zab hn]
  go_enter func158,ntmps158;go_wp2_with fail;go_ret;exact⟨fe HV.out.symm,rfl⟩
theorem Dq:∀k:Nat,k<128→Utf8.encode (k:Int)=⟨⟨[UInt8.ofNat k]⟩⟩:=by decide +kernel
theorem Qp (n:Int)(w:Θ)(hc:jf n=true):ζ prog 159 #[Γ Δ n] w λe w'=>e=.returned (.string ⟨⟨s7 n⟩⟩)∧w'=w:=by
 have ks:=wS;have HNm:Hid (s7 n=35::92::(if hasName n then nameOf n else[UInt8.ofNat n.toNat])):=rfl
 have hln:(nameOf n).length≤7:=by unfold nameOf;repeat' split
                                  all_goals simp
 cases hn:hasName n
 ·have hr:33≤n∧n≤126:=by unfold jf at hc;rw[hn]at hc;simpa using hc
  obtain⟨k,rfl⟩:∃k:Nat,n=k:=⟨n.toNat,by omega⟩;have he:=Dq k (by omega);go_enter func159,ntmps159;go_wp2_with (go_at_call 151;refine(ic _ _).mono ?_);rintro e w1 ⟨rfl,rfl⟩;rw[hn];go_wp2_with fail;go_ret;refine⟨fe ?_,rfl⟩;rw[HNm.out,hn];simp
 ·go_enter func159,ntmps159;go_wp2_with (go_at_call 151;refine(ic _ _).mono ?_);rintro e w1 ⟨rfl,rfl⟩;rw[hn];go_wp2_with fail;go_ret;refine⟨fe ?_,rfl⟩;rw[HNm.out,hn];simp
theorem I0 (n d:Int)(w:Θ)(n1: -1000000≤n)(n2:n≤1000000)(d1:1≤d)(d2:d≤1000000)(hp:Pow w):ζ prog 157 #[Γ Δ n,Γ Δ d] w λe w'=>e=.returned (.string ⟨⟨dV n d⟩⟩)∧Ξ w.heap.size w w':=by
 have rq:=s8 n (by omega) (by omega);have hl2:=s8 d (by omega) (by omega);have ks:=wS;have HP:Hid (Pow w):=hp;clear hp;cases hd:(d==1)
 ·have HN:Hid (dV n d=θ n++47::θ d):=by show _=_;rw[zah]at hd;unfold dV;rw[zaa hd]
  go_enter func157,ntmps157;go_wp2_with (go_at_call 100;refine(oW n _ (by omega) (by omega) HP.out).mono ?_);rintro e w1 ⟨rfl,hb1⟩;have jb:Hid (Ξ w.heap.size w w1):=hb1;clear hb1;go_wp2_with (go_at_call 100;refine(oW d _ (by omega) (by omega) (HP.out.on jb.out)).mono ?_);rintro e w2 ⟨rfl,hb2⟩;have iB:Hid (Ξ w.heap.size w w2):=jb.out.trans (hb2.mono jb.out.size);clear hb2;go_wp2_with fail;go_ret;refine⟨fe ?_,iB.out⟩;rw[HN.out];first|done|simp
 ·have HN:Hid (dV n d=θ n):=by show _=_;rw[zaJ]at hd;unfold dV;rw[zab hd]
  go_enter func157,ntmps157;go_wp2_with (go_at_call 100;refine(oW n _ (by omega) (by omega) HP.out).mono ?_);rintro e w1 ⟨rfl,hb1⟩;have jb:Hid (Ξ w.heap.size w w1):=hb1;clear hb1;go_wp2_with fail;go_ret;exact⟨fe HN.out.symm,jb.out⟩
theorem Za (x:Nd)(w:Θ)(hk:x.kind=0):ζ prog 104 #[dF x] w λe w'=>e=.returned (.string ⟨⟨eU x⟩⟩)∧Ξ w.heap.size w w':=by
 have HV:Hid (eU x=[40,41]):=by show _=_;unfold eU;rw[zab hk]
 have hb3:(x.kind==3)=false:=by rw[hk];decide
 have hb4:(x.kind==4)=false:=by rw[hk];decide
 have j8:(x.kind==5)=false:=by rw[hk];decide
 have nX:(x.kind==6)=false:=by rw[hk];decide
 have DT:(x.kind==7)=false:=by rw[hk];decide
 clear hk;unfold dF;go_enter func104,ntmps104;go_wp2_with fail;go_ret;exact⟨fe HV.out.symm,aD⟩
theorem Zb (x:Nd)(w:Θ)(ht:x.text.length≤400)(hk:x.kind=3):ζ prog 104 #[dF x] w λe w'=>e=.returned (.string ⟨⟨eU x⟩⟩)∧Ξ w.heap.size w w':=by
 have HV:Hid (eU x=lZ x.text):=by show _=_;unfold eU;rw[zaa (by omega),zab hk]
 have hb3:(x.kind==3)=true:=by rw[hk];decide
 have hb4:(x.kind==4)=false:=by rw[hk];decide
 have j8:(x.kind==5)=false:=by rw[hk];decide
 have nX:(x.kind==6)=false:=by rw[hk];decide
 have DT:(x.kind==7)=false:=by rw[hk];decide
 clear hk;unfold dF;go_enter func104,ntmps104;go_wp2_with (go_at_call 156;refine(IZ x.text _ ht).mono ?_);rintro e w1 ⟨rfl,hb⟩;have HB:Hid (Ξ w.heap.size w w1):=aD.trans (hb.mono (by simp));clear hb;go_wp2_with fail;go_ret;exact⟨fe HV.out.symm,HB.out⟩
theorem Zc (x:Nd)(w:Θ)(hk:x.kind=4):ζ prog 104 #[dF x] w λe w'=>e=.returned (.string ⟨⟨eU x⟩⟩)∧Ξ w.heap.size w w':=by
 have HV:Hid (eU x=x.text):=by show _=_;unfold eU;rw[zaa (by omega),zaa (by omega),zab hk]
 have hb3:(x.kind==3)=false:=by rw[hk];decide
 have hb4:(x.kind==4)=true:=by rw[hk];decide
 have j8:(x.kind==5)=false:=by rw[hk];decide
 have nX:(x.kind==6)=false:=by rw[hk];decide
 have DT:(x.kind==7)=false:=by rw[hk];decide
 clear hk;unfold dF;go_enter func104,ntmps104;go_wp2_with fail;go_ret;exact⟨fe HV.out.symm,aD⟩
theorem Zd (x:Nd)(w:Θ)(n1: -1000000≤x.n)(n2:x.n≤1000000)(d1:1≤x.d)(d2:x.d≤1000000)(hp:Pow w)(hk:x.kind=5):ζ prog 104 #[dF x] w λe w'=>e=.returned (.string ⟨⟨eU x⟩⟩)∧Ξ w.heap.size w w':=by
 have HV:Hid (eU x=dV x.n x.d):=by show _=_;unfold eU;rw[zaa (by omega),zaa (by omega),zaa (by omega),zab hk]
 have hb3:(x.kind==3)=false:=by rw[hk];decide
 have hb4:(x.kind==4)=false:=by rw[hk];decide
 have j8:(x.kind==5)=true:=by rw[hk];decide
 have nX:(x.kind==6)=false:=by rw[hk];decide
 have DT:(x.kind==7)=false:=by rw[hk];decide
 clear hk;have HPA:Hid (∀o:Obj,Pow (w.alloc o)):=λo=>hp.on aD;clear hp;unfold dF;go_enter func104,ntmps104;go_wp2_with (go_at_call 157;refine(I0 x.n x.d _ n1 n2 d1 d2 (HPA.out _)).mono ?_);rintro e w1 ⟨rfl,hb⟩;have HB:Hid (Ξ w.heap.size w w1):=aD.trans (hb.mono (by simp));clear hb;go_wp2_with fail;go_ret;exact⟨fe HV.out.symm,HB.out⟩
theorem Ze (x:Nd)(w:Θ)(hk:x.kind=6):ζ prog 104 #[dF x] w λe w'=>e=.returned (.string ⟨⟨eU x⟩⟩)∧Ξ w.heap.size w w':=by
 have HV:Hid (eU x=uD x.n):=by show _=_;unfold eU;rw[zaa (by omega),zaa (by omega),zaa (by omega),zaa (by omega),zab hk];rfl
 have hb3:(x.kind==3)=false:=by rw[hk];decide
 have hb4:(x.kind==4)=false:=by rw[hk];decide
 have j8:(x.kind==5)=false:=by rw[hk];decide
 have nX:(x.kind==6)=true:=by rw[hk];decide
 have DT:(x.kind==7)=false:=by rw[hk];decide
 clear hk;unfold dF;go_enter func104,ntmps104;go_wp2_with (go_at_call 158;refine(MG x.n _).mono ?_);rintro e w1 ⟨rfl,rfl⟩;go_wp2_with fail;go_ret;exact⟨fe HV.out.symm,aD⟩
theorem Zf (x:Nd)(w:Θ)(hc:jf x.n=true)(hk:x.kind=7):ζ prog 104 #[dF x] w λe w'=>e=.returned (.string ⟨⟨eU x⟩⟩)∧Ξ w.heap.size w w':=by
 have HV:Hid (eU x=s7 x.n):=by show _=_;unfold eU;rw[zaa (by omega),zaa (by omega),zaa (by omega),zaa (by omega),zaa (by omega)]
 have hb3:(x.kind==3)=false:=by rw[hk];decide
 have hb4:(x.kind==4)=false:=by rw[hk];decide
 have j8:(x.kind==5)=false:=by rw[hk];decide
 have nX:(x.kind==6)=false:=by rw[hk];decide
 have DT:(x.kind==7)=true:=by rw[hk];decide
 clear hk;unfold dF;go_enter func104,ntmps104;go_wp2_with (go_at_call 159;refine(Qp x.n _ hc).mono ?_);rintro e w1 ⟨rfl,rfl⟩;go_wp2_with fail;go_ret;exact⟨fe HV.out.symm,aD⟩
theorem I1 (S:Nat→List Nat)(f:Nat)(t:WS)(l:List Nat)(k:Nat)(h:k<l.length):(l.take (k+1)).foldl (bf S f) t=bf S f ((l.take k).foldl (bf S f) t) l[k]:=by
 rw[zcv h,List.foldl_append];rfl
theorem KA {n:Nat}{S:Nat→List Nat}(hS:∀x,x<n→∀y∈S x,y<n)(f:Nat):∀(l:List Nat) (t:WS),(∀y∈l,y<n)→t.Ok n→(l.foldl (bf S f) t).Ok n
 |[],_,_,ht=>ht
 |y::r,t,hl,ht=>KA hS f r _ (λz hz=>hl z (zaQ _ hz)) (Ok.meet hS f t y ht (hl y zaD))
theorem F9 {n:Nat}{S:Nat→List Nat}(hS:∀x,x<n→∀y∈S x,y<n)(g:Nat→Nat)(f:Nat):∀(l:List Nat) (t:WS),(∀y∈l,y<n)→t.Ok n→(l.foldl (bf S f) t).pQ g≤t.pQ g
 |[],_,_,_=>zac _
 |y::r,t,hl,ht=>zag (F9 hS g f r _ (λz hz=>hl z (zaQ _ hz)) (Ok.meet hS f t y ht (hl y zaD))) (oV hS g f t y ht (hl y zaD))
theorem KB {n:Nat}{S:Nat→List Nat}(hS:∀x,x<n→∀y∈S x,y<n)(f:Nat):∀(l:List Nat) (t:WS) (k:Nat),(∀y∈l,y<n)→t.Ok n→t.Bd S k→(l.foldl (bf S f) t).Bd S (k+l.length)
 |[],_,_,_,_,hk=>hk
 |y::r,t,k,hl,ht,hk=>by
  have:=KB hS f r (bf S f t y) (k+1) (λz hz=>hl z (zaQ _ hz)) (Ok.meet hS f t y ht (hl y zaD)) (Bd.meet hS f t y k ht (hl y zaD) hk);simp only[List.foldl_cons,zar];rw[show k+(r.length+1)=k+1+r.length by omega];exact this
theorem rB {N:Nat}{S:Nat→List Nat}(hS:∀x,x<N→∀y∈S x,y<N)(f:Nat)(s:WS)(n c k:Nat)(cG:s.Ok N)(hn:n<N)(hf:s.pQ (λ_=>1)<f+1)(vL:s.Bd S c)(hm:s.met.getD n 0=0)(hk:k≤(S n).length):(((S n).take k).foldl (bf S f) ((s.hit n).enter n)).Ok N∧(((S n).take k).foldl (bf S f) ((s.hit n).enter n)).pQ (λ_=>1)<f∧(((S n).take k).foldl (bf S f) ((s.hit n).enter n)).Bd S (c+1-(S n).length + k)∧(S n).length≤c:=by
 have h2:((s.hit n).enter n).Ok N:=(cG.hit hn).enter hn (iW cG hn);have hl:∀y∈(S n).take k,y<N:=λy hy=>hS n hn y (List.mem_of_mem_take hy);have hp:=pS cG hn (λ_=>1);have PF:=pS cG hn (λx=>(S x).length);rw[zab hm]at hp PF;have hc:(S n).length≤c:=by have:=vL n;omega
 refine⟨KA hS f _ _ hl h2,?_,?_,hc⟩
 ·have:=F9 hS (λ_=>1) f _ _ hl h2;have e:((s.hit n).enter n).pQ (λ_=>1)=(s.hit n).pQ (λ_=>1):=rfl;omega
 ·have hb2:((s.hit n).enter n).Bd S (c+1-(S n).length):=by
   intro i;show(s.hit n).met.getD i 0+((s.hit n).pQ (λx=>(S x).length):Nat)≤_;rw[dJ cG hn];have h1:=vL i;have h3:=vL n;split<;>omega
  have:=KB hS f _ _ _ hl h2 hb2;rwa[List.length_take,Nat.min_eq_left hk]at this
theorem iX (G:List Nd)(x:Nat)(h:x<G.length):ai G x=G[x].subs.map Int.toNat:=by
 unfold ai;rw[zat h]
theorem mC (l:List Int)(all:Int)(h:eT l all=true)(k:Nat)(hk:k<l.length):0≤l.getD k 0∧l.getD k 0<all:=by
 unfold eT at h;have:=zaC.1 h _ (zbx hk);simp[ξ,List.getElem?_eq_getElem hk]at this ⊢;exact this
theorem k9 (G:List Nd)(ia:∀x (h:x<G.length),eT G[x].subs G.length=true):∀x,x<G.length→∀y∈ai G x,y<G.length:=by
 intro x hx y hy;rw[iX G x hx]at hy;obtain⟨v,hv,rfl⟩:=zbo.1 hy;have:=zaC.1 (ia x hx) v hv;simp at this;omega
theorem Qq (G:List Nd)(b o cap:Nat)(W0:Θ)(hG:Hid (bK W0 b o G))(_hn:G.length≤150)(ia:Hid (∀x (h:x<G.length),eT G[x].subs G.length=true))(p bo bm bw:Nat)(A:Apart W0.heap.size p bo bm bw):∀(f:Nat) (s:WS) (a:Int) (w:Θ) (c:Nat),s.Ok G.length→0≤a→a<G.length→s.pQ (λ_=>1)<f→s.Bd (ai G) c→c+1≤1000000→Ξ W0.heap.size W0 w→fI w p bo bm bw G.length (.slice (some ⟨b,o,none⟩) G.length cap) s→ζ prog 45 #[.pointer (some ⟨p,0,none⟩),Γ Δ a] w λe w'=>e=.returned (.tuple #[])∧fI w' p bo bm bw G.length (.slice (some ⟨b,o,none⟩) G.length cap) (bf (ai G) f s a.toNat)∧Ξ W0.heap.size W0 w':=by
 intro f
 induction f with
 |zero=>intro s a w c _ _ _ h;omega
 |succ f ih=>
  intro s a w c cG ha0 ha hf vL hc hb hw;have IH:Hid _:=ih;clear ih;obtain⟨n,rfl⟩:=zbq ha0;rw[zbn];have jM:n<G.length:=by omega
  have Xs:n<s.met.length:=by rw[cG.lm];exact jM
  have hbn:=vL n;have hnn:=cG.nn n;have GZ:=hw.hit A Xs;have hb1:Ξ W0.heap.size W0 (w.setCell ⟨bm,n,none⟩ (Γ Δ (s.met.getD n 0+1))):=hb.setCell A.hm _;obtain⟨c0,c1,c2,c3,rm,Xt,ro⟩:=hw;have hmc:=(rm n Xs).1;have hmf:=(rm n Xs).2;have DU:Hid _:=cG;have HBD:Hid _:=vL;have hval:∃m:Int,Hid (m=s.met.getD n 0):=⟨_,rfl⟩;obtain⟨m,hm⟩:=hval;have Xu:(s.hit n).met.getD n 0=m+1:=by rw[dJ cG jM,zab rfl,hm.out]
  rw[←hm.out]at hmc hnn hbn hb1 GZ;have TC:m≤1000000:=by omega
  have jb:Hid _:=hb1;have I2:Hid _:=GZ;have HM1:Hid _:=Xu;clear GZ cG vL hb1 rm Xt ro Xs hbn Xu;go_enter func45,ntmps45
  go_upto_region 1 with fail
  generalize w.setCell ⟨bm,n,none⟩ (Γ Δ (m+1))=w1 at *;clear c0 c1 c2 c3 hmc hmf;obtain⟨d0,d1,d2,d3,rm,Xt,ro⟩:=I2.out;have Xs:n<(s.hit n).met.length:=by rw[(DU.out.hit jM).lm];exact jM
  have hwl:n<(s.hit n).wi.length:=by rw[(DU.out.hit jM).lw];exact jM
  have I3:n<(s.hit n).op.length:=by rw[(DU.out.hit jM).lo];exact jM
  have e0:=(rm n Xs).1;rw[HM1.out]at e0;by_cases P7:0<m
  ·have e1:=(Xt n hwl).1;have e2:=(Xt n hwl).2;have e3:=(ro n I3).1;have HA:Hid _:=I2.out.again A hwl;have HBa:Hid _:=λv=>jb.out.setCell (p:=⟨bw,n,none⟩) A.hw v;have HF:Hid (bf (ai G) (f+1) s n=(s.hit n).again n):=by show _=_;simp only[bf];rw[zab (by rw[←hm.out];exact P7)]
   rw[show(s.hit n).wi=s.wi from rfl]at e1 HA;rw[show(s.hit n).op=s.op from rfl]at e3 HA;clear rm Xt ro Xs hwl I3 IH;cases NR:s.wi.getD n false
   ·cases hop:s.op.getD n false
    ·rw[NR]at e1;rw[hop]at e3;rw[NR,hop]at HA;clear NR hop;go_wp2_with fail;go_region;go_wp2_with fail;refine zao (results_none rfl _ _ _) rfl ?_;refine⟨rfl,?_,?_⟩
     ·rw[HF.out];exact HA.out.drew
     ·exact(HBa.out _).drew
    ·rw[NR]at e1;rw[hop]at e3;rw[NR,hop]at HA;clear NR hop;go_wp2_with fail;go_region;go_wp2_with fail;refine zao (results_none rfl _ _ _) rfl ?_;refine⟨rfl,?_,?_⟩
     ·rw[HF.out];exact HA.out.drew
     ·exact(HBa.out _).drew
   ·rw[NR]at e1;rw[NR,Bool.true_or]at HA;clear NR e3;go_wp2_with fail;go_region;go_wp2_with fail;refine zao (results_none rfl _ _ _) rfl ?_;refine⟨rfl,?_,?_⟩
    ·rw[HF.out];exact HA.out.drew
    ·exact(HBa.out _).drew
  ·have DN:m≤0:=by omega
   have e3:=(ro n I3).1;have e4:=(ro n I3).2;have HE:Hid _:=I2.out.Qn A I3 true;have HBe:Hid _:=jb.out.setCell (p:=⟨bo,n,none⟩) A.ho (.bool true);have HF:Hid (bf (ai G) (f+1) s n=((ai G n).foldl (bf (ai G) f) ((s.hit n).enter n)).leave n):=by show _=_;simp only[bf];rw[zaa (by rw[←hm.out];exact P7)]
   have HM0:Hid (s.met.getD n 0=0):=by show _=_;rw[←hm.out];omega
   have HS:Hid _:=k9 G ia.out;have abL:=(hG.out n jM).below HBe.out;have HSN:Hid _:=iX G n jM;have HSB:Hid _:=ia.out n jM;have HI0:Hid _:=(hG.out n jM).ints;clear rm Xt ro Xs hwl I3 hm P7
   go_upto_region 4 with fail
   generalize w1.setCell ⟨bo,n,none⟩ (.bool true)=w2 at *;obtain⟨c0,c1,c2,c3,c4,hi,ht,hs⟩:=abL;have HI:Hid _:=hi;have HL:Hid _:=hs;obtain⟨f0,f1,f2,f3,rm,Xt,ro⟩:=HE.out;clear d0 d1 d2 d3 e0 e3 e4 c0 c1 c2 c3 hi ht hs f1 f2 f3 rm Xt ro jb I2 HM1;generalize G[n]=x at *;rcases HI0.out with h|⟨sb,so,Nu,hc⟩
   ·have HE0:Hid _:=h;clear h;go_wp2_with fail;go_loopw [64] (λi wr=>∃k:Nat,k≤x.subs.length∧i=Γ Δ k∧Hid (fI wr p bo bm bw G.length (.slice (some ⟨b,o,none⟩) G.length cap) (((ai G n).take k).foldl (bf (ai G) f) ((s.hit n).enter n)))∧Hid (Ξ W0.heap.size W0 wr)) (λi _=>x.subs.length-(intOf i).toNat)
    case atStart=>exact⟨0,zaq _,rfl,HE.out,HBe.out⟩
    case round=>
     obtain⟨k,hk,rfl,yU,G1⟩:=hrel;have Uu:(ai G n).length=x.subs.length:=by rw[HSN.out];simp
     have NT:Hid _:=Uu;clear Uu;by_cases hlt:k<x.subs.length
     ·exfalso;rw[HE0.out]at hlt;simp at hlt
     ·have S3:k=x.subs.length:=by omega
      have hw4:=yU.out;rw[zbJ (by rw[NT.out];omega)]at hw4;have Dp:=(rB HS.out f s n c (ai G n).length DU.out jM hf HBD.out HM0.out (zac _)).1;rw[zbJ (zac _)]at Dp;have I3:n<((ai G n).foldl (bf (ai G) f) ((s.hit n).enter n)).op.length:=by rw[Dp.lo];exact jM
      have jL:Hid _:=hw4.Qn A I3 false;have qJ:Hid _:=G1.out.setCell (p:=⟨bo,n,none⟩) A.ho (.bool false);have g1:=hw4.c1;obtain⟨g2,g3⟩:=hw4.ro n I3;clear hw4 I3 Dp yU G1;generalize ((ai G n).foldl (bf (ai G) f) ((s.hit n).enter n))=t at *;generalize t.op.getD n false=ob at *;go_wp2_with fail
      go_end0
      refine⟨rfl,?_,qJ.out⟩;rw[HF.out];exact jL.out
   ·have HC:Hid _:=hc;rw[Nu]at c4;clear hc Nu;go_wp2_with fail;go_loopw [64] (λi wr=>∃k:Nat,k≤x.subs.length∧i=Γ Δ k∧Hid (fI wr p bo bm bw G.length (.slice (some ⟨b,o,none⟩) G.length cap) (((ai G n).take k).foldl (bf (ai G) f) ((s.hit n).enter n)))∧Hid (Ξ W0.heap.size W0 wr)) (λi _=>x.subs.length-(intOf i).toNat)
    case atStart=>exact⟨0,zaq _,rfl,HE.out,HBe.out⟩
    case round=>
     obtain⟨k,hk,rfl,yU,G1⟩:=hrel;have Uu:(ai G n).length=x.subs.length:=by rw[HSN.out];simp
     have NT:Hid _:=Uu;clear Uu;by_cases hlt:k<x.subs.length
     ·have hcell:=cd G1.out (HC.out k hlt);obtain⟨tok,abM,tbd,tc⟩:=rB HS.out f s n c k DU.out jM hf HBD.out HM0.out (by rw[NT.out];omega);obtain⟨v0,v1⟩:=mC _ _ HSB.out k hlt;have Xv:(ai G n)[k]'(by rw[NT.out];exact hlt)=(x.subs.getD k 0).toNat:=by
       have e:∀(l:List Nat) (hl:k<l.length),l=x.subs.map Int.toNat→l[k]=(x.subs.getD k 0).toNat:=by
        intro l hl e;subst e;simp[ξ,List.getElem?_eq_getElem hlt]
       exact e _ _ HSN.out
      have Xw:Hid _:=I1 (ai G) f ((s.hit n).enter n) (ai G n) k (by rw[NT.out];exact hlt);rw[Xv]at Xw;have fK:c+1-(ai G n).length + k+1≤1000000:=by have:=NT.out;omega
      have Xo:Hid _:=fK;have hsl:x.subs.length≤1000000:=by have:=NT.out;omega
      have TOK:Hid _:=tok;have adX:Hid _:=abM;have TBD:Hid _:=tbd;clear tok abM tbd tc Xv fK;generalize x.subs.getD k 0=v at *;go_wp2_with fail;refine(IH.out _ v _ _ TOK.out v0 v1 adX.out TBD.out Xo.out G1.out yU.out).mono ?_;rintro e w3 ⟨rfl,hw3,hb3⟩;rw[←Xw.out]at hw3;have Aj:Hid _:=hw3;have iT:Hid _:=hb3;clear hw3 hb3 yU G1 hcell;go_wp2_with fail;go_roundw
      case rel=>exact⟨k+1,by omega,by go_num,Aj,iT⟩
      case measure=>simp[intOf];omega
     ·have S3:k=x.subs.length:=by omega
      have hw4:=yU.out;rw[zbJ (by rw[NT.out];omega)]at hw4;have Dp:=(rB HS.out f s n c (ai G n).length DU.out jM hf HBD.out HM0.out (zac _)).1;rw[zbJ (zac _)]at Dp;have I3:n<((ai G n).foldl (bf (ai G) f) ((s.hit n).enter n)).op.length:=by rw[Dp.lo];exact jM
      have jL:Hid _:=hw4.Qn A I3 false;have qJ:Hid _:=G1.out.setCell (p:=⟨bo,n,none⟩) A.ho (.bool false);have g1:=hw4.c1;obtain⟨g2,g3⟩:=hw4.ro n I3;clear hw4 I3 Dp yU G1;generalize ((ai G n).foldl (bf (ai G) f) ((s.hit n).enter n))=t at *;generalize t.op.getD n false=ob at *;go_wp2_with fail
      go_end0
      refine⟨rfl,?_,qJ.out⟩;rw[HF.out];exact jL.out
end Go.Proofs.YtlhimdjkkiflhaaGreatDoor
namespace Go.Proofs.YtlhimdjkkiflhaaGreatDoor
open Go.RowKit Go.Loop
structure Kept (p q:Nat) (w w':Θ):Prop where
 os:w'.os=w.os
 tape:w'.tape=w.tape
 output:w'.output=w.output
 size:w.heap.size≤w'.heap.size
 block:∀k,k<w.heap.size→k≠p→k≠q→w'.heap[k]?=w.heap[k]?
theorem Kept.refl (p q:Nat)(w:Θ):Kept p q w w:=⟨rfl,rfl,rfl,zac _,λ_ _ _ _=>rfl⟩
def aJ (G:List Nd)(x:Nat):Int:=match G[x]? with|some y=>y.kind|none=>0
def jD (G:List Nd)(x:Nat):List UInt8:=match G[x]? with|some y=>eU y|none=>[]
theorem ld (G:List Nd)(x:Nat)(h:x<G.length):aJ G x=G[x].kind:=by unfold aJ;rw[zat h]
theorem I4 (G:List Nd)(x:Nat)(h:x<G.length):jD G x=eU G[x]:=by unfold jD;rw[zat h]
theorem oX (G:List Nd)(x:Nat)(h:x<G.length)(k:Nat)(hk:k<G[x].subs.length):(ai G x).getD k 0=(G[x].subs.getD k 0).toNat:=by
 rw[iX G x h];simp[ξ,List.getElem?_eq_getElem hk]
theorem yV (G:List Nd)(y:Nat)(hy:y<G.length)(hb:aQ G[y]=true)(hk:aJ G y=1):(ai G y).length=2:=by
 rw[iX G y hy,zby];rw[ld G y hy]at hk;unfold aQ at hb;rw[zaa (by omega),zab hk]at hb;simp at hb;exact hb.1
theorem Ga {t:TS}(h:t.long=false)(ho:t.out.length≤400)(a:Nat):need (t.put a)<need t:=by
 have:need (t.put a)=need (t.add (35::(θ t.next++[61]))):=rfl;rw[this];exact sY h ho (by simp)
end Go.Proofs.YtlhimdjkkiflhaaGreatDoor
namespace Go.Proofs.YtlhimdjkkiflhaaGreatDoor
open Go.Proofs.Tryz
open Go.RowKit Go.Loop
structure dm (w:Θ) (B p bl bL n:Nat) (nv:Λ) (t:TS) (v:Λ):Prop where
 hB:B≤p
 blk:∃q,(q=.pointer none∨q=.pointer (some ⟨p,4,none⟩))∧
  w.heap[p]?=some (.cells #[nv,.slice (some ⟨bL,0,none⟩) n n,.slice (some ⟨bl,0,none⟩) n n,Γ Δ t.next,q,v,.bool t.long] 118 (0,0))
 own:w.ownsRow B 5 1 v (Ω t.out).length (Ω t.out)
 rl:lx w bl t.cE
 nb:v.ownBlock≠some bl
 ol:t.out.length≤400
 bl:bl<w.heap.size
structure bA (w w':Θ) (p bl:Nat) (v v':Λ):Prop where
 os:w'.os=w.os
 tape:w'.tape=w.tape
 output:w'.output=w.output
 size:w.heap.size≤w'.heap.size
 block:∀k,k<w.heap.size→k≠p→k≠bl→some k≠v.ownBlock→w'.heap[k]?=w.heap[k]?
 buf:v'.ownBlock=v.ownBlock∨∃k,v'.ownBlock=some k∧w.heap.size≤k
theorem bA.refl (w:Θ)(p bl:Nat)(v:Λ):bA w w p bl v v:=⟨rfl,rfl,rfl,zac _,λ_ _ _ _ _=>rfl,Or.inl rfl⟩
theorem bA.trans {w w' w'':Θ}{p bl:Nat}{v v' v'':Λ}(h:bA w w' p bl v v')(k:bA w' w'' p bl v' v''):bA w w'' p bl v v'':=by
 refine⟨k.os.trans h.os,k.tape.trans h.tape,k.output.trans h.output,zag h.size k.size,λi hi hb hl hv=>?_,?_⟩
 ·have hne:some i≠v'.ownBlock:=by
   rcases h.buf with e|⟨g,e,hg⟩
   ·rw[e];exact hv
   ·rw[e];intro x;simp only[zaE]at x;omega
  exact(k.block i (zaI hi h.size) hb hl hne).trans (h.block i hi hb hl hv)
 ·rcases k.buf with e|⟨g,e,hg⟩
  ·rw[e];exact h.buf
  ·exact Or.inr ⟨g,e,zag h.size hg⟩
theorem bA.aG {w w':Θ}{p bl:Nat}{v:Λ}(h:Ξ w.heap.size w w'):bA w w' p bl v v:=⟨h.os,h.tape,h.output,h.size,λk hk _ _ _=>h.block k hk,Or.inl rfl⟩
theorem bA.abN {w w':Θ}{p bl:Nat}{v v':Λ}(h:iu w w' p v v'):bA w w' p bl v v':=⟨h.os,h.tape,h.output,h.size,λk hk hp _ hv=>h.block k hk hp hv,h.buf⟩
theorem bA.set {w:Θ}{p bl:Nat}{v:Λ}{x:Addr}(hx:x.block=p∨x.block=bl)(u:Λ):bA w (w.setCell x u) p bl v v:=
 ⟨rfl,rfl,rfl,by simp[Θ.setCell],λk _ h1 h2 _=>zax _ _ _ _ (by rcases hx with h|h<;>omega),Or.inl rfl⟩
theorem bA.below {w w':Θ}{B p bl:Nat}{v v':Λ}(h:bA w w' p bl v v')(hB:B≤w.heap.size)(hp:B≤p)(hl:B≤bl)(hv:∀k,v.ownBlock=some k→B≤k):Ξ B w w':=
 ⟨h.os,h.tape,h.output,h.size,λk hk=>h.block k (by omega) (by omega) (by omega) (λe=>by have:=hv k e.symm;omega)⟩
theorem lx.of_block {w w':Θ}{b:Nat}{l:List Int}(h:lx w b l)(e:w'.heap[b]?=w.heap[b]?):lx w' b l:=λi hi=>by
 rw[Θ.cell?_of_block (w:=w) (w':=w') (a:=⟨b,i,none⟩) e,Θ.frozen?_of_block (w:=w) (w':=w') (a:=⟨b,i,none⟩) e];exact h i hi
theorem dm.Qr {w:Θ}{B p bl bL n:Nat}{nv:Λ}{t:TS}{v:Λ}(h:dm w B p bl bL n nv t v):∀k,v.ownBlock=some k→B≤k:=λk hk=>(h.own.lt k hk).1
theorem wT:118≠5:=by decide
theorem dm.bld {w:Θ}{B p bl bL n:Nat}{nv:Λ}{t:TS}{v:Λ}(h:dm w B p bl bL n nv t v):∃q,(q=.pointer none∨q=.pointer (some ⟨p,4,none⟩))∧fu w 118 4 B p #[nv,.slice (some ⟨bL,0,none⟩) n n,.slice (some ⟨bl,0,none⟩) n n,Γ Δ t.next,q,v,.bool t.long] v (Ω t.out):=by
 obtain⟨q,hq,hb⟩:=h.blk;exact⟨q,hq,h.hB,hb,by rcases hq with rfl|rfl<;>simp,rfl,h.own⟩
theorem dm.mark {w:Θ}{B p bl bL n:Nat}{nv:Λ}{t:TS}{v:Λ}(h:dm w B p bl bL n nv t v)(hne:p≠bl):dm (w.setCell ⟨p,6,none⟩ (.bool true)) B p bl bL n nv { t with long:=true } v:=by
 obtain⟨q,hq,hb⟩:=h.blk;have hn:=Lib.ownBlock_ne h.own hb wT;refine⟨h.hB,⟨q,hq,?_⟩,?_,?_,h.nb,h.ol,?_⟩
 ·have:=heap_setCell_same w p 6 _ _ (.bool true) hb;exact this
 ·exact h.own.kept (row:=some p) ⟨rfl,rfl,rfl,by simp[Θ.setCell],λk _ hk=>zax _ _ _ _ (λe=>hk (by simp[e]))⟩ (Or.inr hn)
 ·exact h.rl.of_block (zax _ _ _ _ (λe=>hne e.symm))
 ·have:=h.bl;simpa[Θ.setCell]using this
theorem dm.wrote {w w':Θ}{B p bl bL n:Nat}{nv:Λ}{t:TS}{v v':Λ}{s:List UInt8}{q:Λ}(h:dm w B p bl bL n nv t v)(hne:p≠bl)(hl:t.long=false)(hs:t.out.length+s.length≤400)
 (h1:fu w' 118 4 B p ((kR 4 p #[nv,.slice (some ⟨bL,0,none⟩) n n,.slice (some ⟨bl,0,none⟩) n n,Γ Δ t.next,q,v,.bool t.long]).setIfInBounds (4+1) v') v' (Ω t.out++Lib.strCells ⟨⟨s⟩⟩))
 (h2:iu w w' p v v'):dm w' B p bl bL n nv (t.add s) v'∧bA w w' p bl v v':=by
 rw[k8 hl hs];have e1:Ω (t.out++s)=Ω t.out++Lib.strCells ⟨⟨s⟩⟩:=by rw[Lib.byteCells_append];rfl
 refine⟨⟨h.hB,⟨_,Or.inr rfl,h1.blk⟩,?_,?_,?_,?_,zaI h.bl h2.size⟩,bA.abN h2⟩
 ·show Θ.ownsRow _ _ _ _ _ (Ω (t.out++s)).length (Ω (t.out++s));rw[e1];exact h1.own
 ·exact h.rl.of_block (h2.block bl h.bl (λe=>hne e.symm) (λe=>h.nb e.symm))
 ·rcases h2.buf with e|⟨k,e,hk⟩
  ·rw[e];exact h.nb
  ·rw[e];intro x;simp only[zaE]at x;have:=h.bl;omega
 ·show(t.out++s).length≤400;rw[zaR];exact hs
theorem fJ {w:Θ}{B p bl bL n:Nat}{nv:Λ}{t:TS}{v:Λ}(h:dm w B p bl bL n nv t v)(hne:p≠bl)(Uj:B≤w.heap.size)(s:List UInt8):ζ prog 99 #[.pointer (some ⟨p,0,none⟩),.string ⟨⟨s⟩⟩] w λe w'=>e=.returned (.tuple #[])∧∃v',dm w' B p bl bL n nv (t.add s) v'∧bA w w' p bl v v':=by
 obtain⟨q,hq,I5⟩:=h.bld;have HBL:Hid _:=I5;have HW:Hid (dm w B p bl bL n nv t v):=h;have I3:=h.ol;have e0:(Ω t.out).length=t.out.length:=Lib.byteCells_length _;have c6:w.cell? ⟨p,6,none⟩=some (.bool t.long):=I5.cell 6;have f6:w.frozen? ⟨p,6,none⟩=false:=I5.frozen 6;clear I5 h hq;by_cases hov:400<t.out.length+s.length
 ·have HM:Hid _:=HW.out.mark hne;have HA:Hid (t.add s={ t with long:=true }):=by
   show _=_;cases hl:t.long
   ·rw[kZ hl hov]
   ·rw[dW hl,←hl]
  go_enter func99,ntmps99;go_wp2_with (go_at_call 153;refine(rp HBL.out).mono ?_);rintro e w1 ⟨rfl,rfl⟩;rw[e0];go_wp2_with fail
  go_end0
  exact⟨rfl,v,by rw[HA.out];exact HM.out,bA.set (Or.inl rfl) _⟩
 ·cases hl:t.long
  ·rw[hl]at c6;go_enter func99,ntmps99;go_wp2_with (go_at_call 153;refine(rp HBL.out).mono ?_);rintro e w1 ⟨rfl,rfl⟩;rw[e0];go_wp2_with (go_at_call 154;refine(nP Fj wT HBL.out ⟨⟨s⟩⟩ (by show _+s.length≤_;omega) Uj).mono ?_);rintro e w2 ⟨rfl,v',h1,h2⟩;have HR:Hid _:=HW.out.wrote hne hl (by omega) h1 h2;clear h1 h2;go_wp2_with fail
   go_end0
   exact⟨rfl,v',HR.out⟩
  ·rw[hl]at c6;have HA:Hid (t.add s=t):=dW hl s;go_enter func99,ntmps99;go_wp2_with (go_at_call 153;refine(rp HBL.out).mono ?_);rintro e w1 ⟨rfl,rfl⟩;rw[e0];go_wp2_with fail
   go_end0
   exact⟨rfl,v,by rw[HA.out];exact HW.out,bA.refl _ _ _ _⟩
def TS.lay (t:TS)(a:Nat):TS:={ t with cE:=t.cE.set a t.next,next:=t.next+1 }
theorem UK (t:TS)(a:Nat):(TS.lay t a).add (35::(θ t.next++[61]))=t.put a:=by
 cases hl:t.long
 ·by_cases h:400<t.out.length+(35::(θ t.next++[61])).length
  ·rw[kZ (t:=TS.lay t a) hl h];unfold TS.put;rw[kZ hl h];rfl
  ·rw[k8 (t:=TS.lay t a) hl (by show t.out.length+_≤400;omega)];unfold TS.put;rw[k8 hl (by omega)];rfl
 ·rw[dW (t:=TS.lay t a) hl];unfold TS.put;rw[dW hl];rfl
theorem dm.lay {w:Θ}{B p bl bL n:Nat}{nv:Λ}{t:TS}{v:Λ}(h:dm w B p bl bL n nv t v)(hne:p≠bl){a:Nat}(ha:a<t.cE.length):dm ((w.setCell ⟨bl,a,none⟩ (Γ Δ t.next)).setCell ⟨p,3,none⟩ (Γ Δ (t.next+1))) B p bl bL n nv (TS.lay t a) v:=by
 obtain⟨q,hq,hb⟩:=h.blk;have hn:=Lib.ownBlock_ne h.own hb wT;have hb1:(w.setCell ⟨bl,a,none⟩ (Γ Δ t.next)).heap[p]?=some (.cells #[nv,.slice (some ⟨bL,0,none⟩) n n,.slice (some ⟨bl,0,none⟩) n n,Γ Δ t.next,q,v,.bool t.long] 118 (0,0)):=
  (zax _ _ _ _ hne).trans hb
 have o1:=h.own.kept (w':=w.setCell ⟨bl,a,none⟩ (Γ Δ t.next)) (row:=some bl) ⟨rfl,rfl,rfl,by simp[Θ.setCell],λk _ hk=>zax _ _ _ _ (λe=>hk (by simp[e]))⟩ (Or.inr h.nb);refine⟨h.hB,⟨q,hq,?_⟩,?_,?_,h.nb,h.ol,?_⟩
 ·have:=heap_setCell_same (w.setCell ⟨bl,a,none⟩ (Γ Δ t.next)) p 3 _ _ (Γ Δ (t.next+1)) hb1;exact this
 ·exact o1.kept (row:=some p) ⟨rfl,rfl,rfl,by simp[Θ.setCell],λk _ hk=>zax _ _ _ _ (λe=>hk (by simp[e]))⟩ (Or.inr hn)
 ·exact(h.rl.set a ha t.next).of_block (zax _ _ _ _ (λe=>hne e.symm))
 ·have:=h.bl;simpa[Θ.setCell]using this
def abO (B:Nat)(w:Θ):Prop:=∀w',Ξ B w w'→Pow w'
theorem dm.drew {w:Θ}{B p bl bL n:Nat}{nv:Λ}{t:TS}{v:Λ}(h:dm w B p bl bL n nv t v):dm w.drew B p bl bL n nv t v:=⟨h.hB,h.blk,h.own,h.rl,h.nb,h.ol,h.bl⟩
theorem dm.lt {w:Θ}{B p bl bL n:Nat}{nv:Λ}{t:TS}{v:Λ}(h:dm w B p bl bL n nv t v):p<w.heap.size:=by
 obtain⟨q,hq,hb⟩:=h.blk;exact(zaj.1 hb).1
theorem dm.below {w w':Θ}{B p bl bL n:Nat}{nv:Λ}{t:TS}{v:Λ}(h:dm w B p bl bL n nv t v)(hb:Ξ w.heap.size w w'):dm w' B p bl bL n nv t v:=by
 obtain⟨q,hq,hk⟩:=h.blk;refine⟨h.hB,⟨q,hq,(hb.block p h.lt).trans hk⟩,?_,h.rl.of_block (hb.block bl h.bl),h.nb,h.ol,zaI h.bl hb.size⟩;exact h.own.kept (row:=none) ⟨hb.os,hb.tape,hb.output,hb.size,λk hk _=>hb.block k hk⟩ (by cases v.ownBlock<;>simp)
theorem UL {w:Θ}{B p bl bL n:Nat}{nv:Λ}{t:TS}{v:Λ}(h:dm w B p bl bL n nv t v)(hne:p≠bl)(Uj:B≤w.heap.size)(hn:t.cE.length=n)(qa:t.next≤401)(a:Nat)(ha:a<n)(hBl:B≤bl)(hp:abO B w):ζ prog 101 #[.pointer (some ⟨p,0,none⟩),Γ Δ a] w λe w'=>e=.returned (.tuple #[])∧∃v',dm w' B p bl bL n nv (t.put a) v'∧bA w w' p bl v v':=by
 have HL:Hid _:=h.lay hne (a:=a) (by omega);have HKL:Hid (bA w ((w.setCell ⟨bl,a,none⟩ (Γ Δ t.next)).setCell ⟨p,3,none⟩ (Γ Δ (t.next+1))) p bl v v):=
  (bA.set (x:=⟨bl,a,none⟩) (Or.inr rfl) _).trans (bA.set (x:=⟨p,3,none⟩) (Or.inl rfl) _)
 obtain⟨q,hq,hb⟩:=h.blk;have c2:w.cell? ⟨p,2,none⟩=some (.slice (some ⟨bl,0,none⟩) n n):=zbw hb 2;have c3:w.cell? ⟨p,3,none⟩=some (Γ Δ t.next):=zbw hb 3;have f3:w.frozen? ⟨p,3,none⟩=false:=Lib.frozen_of_heap hb 3;obtain⟨ca,fa⟩:=h.rl a (by omega);have HP:Hid (abO B w):=hp;have HLW:Hid (dm w B p bl bL n nv t v):=h;have hlen:=s8 t.next (by omega) (by omega);have ks:=wS;clear hp hb hq h;go_enter func101,ntmps101;go_wp2_with fail;go_region;all_goals
  go_wp2_with (go_at_call 100;refine(oW t.next _ (by omega) (by omega) (HP.out _ (HKL.out.below Uj HLW.out.hB hBl HLW.out.Qr).drew)).mono ?_);rintro e w1 ⟨rfl,hb1⟩;have jb:Hid (dm w1 B p bl bL n nv (TS.lay t a) v):=HL.out.drew.below hb1;have BJ:Hid (bA w w1 p bl v v):=HKL.out.trans (bA.aG (((zad _ _).drew).trans hb1));clear hb1;go_wp2_with (go_at_call 99;refine(fJ jb.out hne (zag Uj BJ.out.size) (35::(θ t.next++[61]))).mono ?_);rintro e w2 ⟨rfl,v',h2,h3⟩;have H2:Hid (dm w2 B p bl bL n nv (t.put a) v'):=by rw[UK]at h2;exact h2
  have H3:Hid (bA w w2 p bl v v'):=BJ.out.trans h3;clear h2 h3;go_wp2_with fail
  go_end0
  exact⟨rfl,v',H2.out,H3.out⟩
structure Gb (G:List Nd) (b o:Nat) (W0:Θ) (p bl bL:Nat) (L:Nat→Bool) (Rc:Nat→Prop) (rk:Nat→Nat):Prop where
 hG:bK W0 b o G
 hk:∀x (h:x<G.length),aQ G[x]=true
 hs:∀x (h:x<G.length),eT G[x].subs G.length=true
 hn:G.length≤150
 hp:W0.heap.size≤p
 hl:W0.heap.size≤bl
 pl:p≠bl
 hL:∀i,i<G.length→W0.cell? ⟨bL,i,none⟩=some (.bool (L i))
 pw:Pow W0
 rc:∀x,Rc x→∀y∈ai G x,Rc y
 rr:∀x,Rc x→∀y∈ai G x,aJ G y=1→L y=false→rk y<rk x
def Gc (G:List Nd)(b o cap:Nat)(W0:Θ)(p bl bL:Nat)(L:Nat→Bool)(Rc:Nat→Prop)(f:Nat):Prop:=
 ∀(t:TS) (a:Int) (w:Θ) (v:Λ),t.Ok G.length L→0≤a→a<G.length→Rc a.toNat→need t≤f→Ξ W0.heap.size W0 w→dm w W0.heap.size p bl bL G.length (.slice (some ⟨b,o,none⟩) G.length cap) t v→
  ζ prog 62 #[.pointer (some ⟨p,0,none⟩),Γ Δ a] w λe w'=>e=.returned (.tuple #[])∧
   ∃v',dm w' W0.heap.size p bl bL G.length (.slice (some ⟨b,o,none⟩) G.length cap) (WF (aJ G) (ai G) (jD G) L f false t a.toNat) v'∧bA w w' p bl v v'
theorem oY (G:List Nd)(x:Nat)(h:x<G.length)(k:Nat)(hk:k<G[x].subs.length):(G[x].subs.getD k 0).toNat∈ai G x:=by
 rw[iX G x h];simp only[zbo];exact⟨G[x].subs.getD k 0,by simp[ξ,List.getElem?_eq_getElem hk],rfl⟩
theorem bA.box {w w':Θ}{p bl:Nat}{v v':Λ}{cs:Array Λ}{T:ι}(h:bA (w.alloc (.cells cs T)) w' p bl v v')(hp:p<w.heap.size)(hl:bl<w.heap.size)(hv:∀k,v.ownBlock=some k→k<w.heap.size):∀i z,cs[i]?=some z→w'.cell? ⟨w.heap.size,i,none⟩=some z:=λi z hz=>by
 have:=h.block w.heap.size (by simp) (by omega) (by omega) (λe=>by have:=hv _ e.symm;omega);rw[zbw (this.trans (zav w _))];exact hz
theorem dm.Xx {w:Θ}{B p bl bL n:Nat}{nv:Λ}{t:TS}{v:Λ}(h:dm w B p bl bL n nv t v):∀k,v.ownBlock=some k→k<w.heap.size:=λk hk=>(h.own.lt k hk).2
theorem vq (G:List Nd)(b o cap:Nat)(W0:Θ)(p bl bL:Nat)(L:Nat→Bool)(Rc:Nat→Prop)(rk:Nat→Nat)(C:Gb G b o W0 p bl bL L Rc rk)(f:Nat)(IA:Hid (Gc G b o cap W0 p bl bL L Rc f))
 (n:Nat)(jM:n<G.length)(Qs:Rc n)(k2:G[n].kind=2)(t:TS)(w:Θ)(v:Λ)(ht:t.Ok G.length L)(hf:need (t.add [35,40])≤f)(hb:Ξ W0.heap.size W0 w)
 (Zg:∀x,x<G.length→∀y∈ai G x,y<G.length)(Oq:∀x,x<G.length→aJ G x=1→(ai G x).length=2)
 (hw:dm w W0.heap.size p bl bL G.length (.slice (some ⟨b,o,none⟩) G.length cap) t v):
 ζ prog 103 #[.pointer (some ⟨p,0,none⟩),dF G[n]] w λe w'=>e=.returned (.tuple #[])∧
  ∃v',dm w' W0.heap.size p bl bL G.length (.slice (some ⟨b,o,none⟩) G.length cap) ((fY (WF (aJ G) (ai G) (jD G) L f false) (ai G n) (ai G n).length (t.add [35,40])).add [41]) v'∧bA w w' p bl v v':=by
 have HC:Hid (Gb G b o W0 p bl bL L Rc rk):=C;have HB:Hid (Ξ W0.heap.size W0 w):=hb;have HXI:Hid _:=(C.hG n jM).ints;have HXS:Hid _:=C.hs n jM;have Xy:Hid _:=C.hk n jM;have HSG:Hid (∀k,k<G[n].subs.length→(ai G n).getD k 0=(G[n].subs.getD k 0).toNat):=λk hk=>oX G n jM k hk;have HRC:Hid (∀k,k<G[n].subs.length→Rc (G[n].subs.getD k 0).toNat):=λk hk=>C.rc n Qs _ (oY G n jM k hk);have NT:Hid ((ai G n).length=G[n].subs.length):=by show _=_;rw[iX G n jM];simp
 generalize G[n]=x at *;have Xk:Hid (∀k,need (fY (WF (aJ G) (ai G) (jD G) L f false) (ai G n) k (t.add [35,40]))≤f):=λk=>zag (s6 (λt y=>gY f false t y) _ _ _) hf;have HOV:Hid (∀k,k≤x.subs.length→(fY (WF (aJ G) (ai G) (jD G) L f false) (ai G n) k (t.add [35,40])).Ok G.length L):=λk hk=>
  IY (λt y ht hy=>nS Zg Oq f false t y ht hy) (ai G n) (Zg n jM) k _ (by rw[NT.out];exact hk) (ht.add _)
 have hlen:x.subs.length≤20:=by have:=Xy.out;unfold aQ at this;rw[zaa (by omega),zaa (by omega),zab k2]at this;simp at this;exact this.1
 have HBX:Hid (dm (w.alloc (.cells #[Γ Δ x.kind,.string ⟨⟨x.text⟩⟩,Γ Δ x.n,Γ Δ x.d,.slice x.sa x.subs.length x.cap] 45)) W0.heap.size p bl bL G.length (.slice (some ⟨b,o,none⟩) G.length cap) t v):=hw.below aD;have AW:Hid _:=(⟨hw.lt,hw.bl,hw.Xx⟩:p<w.heap.size∧bl<w.heap.size∧∀k,v.ownBlock=some k→k<w.heap.size);have hsz:=hb.size;have hne:=C.pl;have G4:Hid (∀w' v',bA w w' p bl v v'→Ξ W0.heap.size W0 w'):=λw' v' h=>hb.trans (h.below hsz C.hp C.hl hw.Qr);clear k2 C hb ht hf hw Zg Oq Qs;unfold dF;go_enter func103,ntmps103;go_wp2_with (go_at_call 99;refine(fJ HBX.out hne (by simp;omega) [35,40]).mono ?_);rintro e w1 ⟨rfl,v1,h1,h2⟩;have r4:=h2.box AW.out.1 AW.out.2.1 AW.out.2.2 4 _ rfl;have H1:Hid (dm w1 W0.heap.size p bl bL G.length (.slice (some ⟨b,o,none⟩) G.length cap) (t.add [35,40]) v1):=h1;have H2:Hid (bA w w1 p bl v v1):=(bA.aG aD).trans h2;clear h1 h2;rcases HXI.out with h|⟨sb,so,Nu,hc⟩
 ·have HE0:Hid (x.subs.length=0):=by show _=_;rw[h];rfl
  clear h HXI;go_wp2_with fail;go_loopw [11] (λi wr=>∃(k:Nat) (vk:Λ),k≤x.subs.length∧i=Γ Δ k∧Hid (dm wr W0.heap.size p bl bL G.length (.slice (some ⟨b,o,none⟩) G.length cap) (fY (WF (aJ G) (ai G) (jD G) L f false) (ai G n) k (t.add [35,40])) vk)∧Hid (bA w wr p bl v vk)) (λi _=>x.subs.length-(intOf i).toNat)
  case atStart=>exact⟨0,v1,zaq _,rfl,H1.out,H2.out⟩
  case round=>
   obtain⟨k,vk,hk,rfl,yU,eF⟩:=hrel;have Zh:Hid (Ξ W0.heap.size W0 wr):=G4.out _ _ eF.out;have Dr:W0.heap.size≤wr.heap.size:=Zh.out.size;by_cases hlt:k<x.subs.length
   ·exfalso;have:=HE0.out;omega
   ·have S3:k=x.subs.length:=by omega
    go_wp2_with (go_at_call 99;refine(fJ yU.out hne Dr [41]).mono ?_);rintro e w5 ⟨rfl,v5,I6,rK⟩;rw[S3,←NT.out]at I6;have vn:Hid _:=I6;have G2:Hid _:=eF.out.trans rK;clear I6 rK yU eF;go_wp2_with fail
    go_end0
    exact⟨rfl,v5,vn.out,G2.out⟩
 ·have HCE:Hid (∀w':Θ,Ξ W0.heap.size W0 w'→∀k,k<x.subs.length→w'.cell? ⟨sb,so+k,none⟩=some (Γ Δ (x.subs.getD k 0))):=λw' hb' k hk=>cd hb' (hc k hk);clear hc HXI;rw[Nu]at r4;go_wp2_with fail;go_loopw [11] (λi wr=>∃(k:Nat) (vk:Λ),k≤x.subs.length∧i=Γ Δ k∧Hid (dm wr W0.heap.size p bl bL G.length (.slice (some ⟨b,o,none⟩) G.length cap) (fY (WF (aJ G) (ai G) (jD G) L f false) (ai G n) k (t.add [35,40])) vk)∧Hid (bA w wr p bl v vk)) (λi _=>x.subs.length-(intOf i).toNat)
  case atStart=>exact⟨0,v1,zaq _,rfl,H1.out,H2.out⟩
  case round=>
   obtain⟨k,vk,hk,rfl,yU,eF⟩:=hrel;have Zh:Hid (Ξ W0.heap.size W0 wr):=G4.out _ _ eF.out;have Dr:W0.heap.size≤wr.heap.size:=Zh.out.size;by_cases hlt:k<x.subs.length
   ·have hcell:=HCE.out _ Zh.out k hlt;have hv:=mC _ _ HXS.out k hlt;have HR:Hid _:=HRC.out k hlt;have HGK:Hid _:=HSG.out k hlt;have DU:Hid _:=HOV.out k hk;have HND:Hid _:=Xk.out k;by_cases G0:k=0
    ·have HST:Hid (fY (WF (aJ G) (ai G) (jD G) L f false) (ai G n) (k+1) (t.add [35,40])=WF (aJ G) (ai G) (jD G) L f false (fY (WF (aJ G) (ai G) (jD G) L f false) (ai G n) k (t.add [35,40])) (x.subs.getD k 0).toNat):=by
      show _=_;rw[←HGK.out];simp only[fY];rw[zab G0]
     generalize fY (WF (aJ G) (ai G) (jD G) L f false) (ai G n) k (t.add [35,40])=tk at *;generalize x.subs.getD k 0=sv at *;have hkz:(k:Int)≤0:=by omega
     have vo:Hid _:=G0;clear G0;go_wp2_with (go_at_call 62;refine(IA.out _ sv _ _ DU.out hv.1 hv.2 HR.out HND.out Zh.out yU.out).mono ?_);rintro e w4 ⟨rfl,v4,hw4,hk4⟩;rw[←HST.out]at hw4;have vh:Hid _:=hw4;have rJ:Hid _:=eF.out.trans hk4;clear hw4 hk4 yU eF hcell Zh;go_wp2_with fail;go_roundw
     case rel=>exact⟨k+1,v4,by omega,by go_num,vh,rJ⟩
     case measure=>simp[intOf];omega
    ·have HST:Hid (fY (WF (aJ G) (ai G) (jD G) L f false) (ai G n) (k+1) (t.add [35,40])=WF (aJ G) (ai G) (jD G) L f false ((fY (WF (aJ G) (ai G) (jD G) L f false) (ai G n) k (t.add [35,40])).add [32]) (x.subs.getD k 0).toNat):=by
      show _=_;rw[←HGK.out];simp only[fY];rw[zaa G0]
     generalize fY (WF (aJ G) (ai G) (jD G) L f false) (ai G n) k (t.add [35,40])=tk at *;generalize x.subs.getD k 0=sv at *;have hkz:(0:Int)<(k:Int):=by omega
     have adY:Hid _:=DU.out.add [32];have adZ:Hid _:=zag (eP tk [32]) HND.out;go_wp2_with (go_at_call 99;refine(fJ yU.out hne Dr [32]).mono ?_);rintro e w3 ⟨rfl,v3,hw3,hk3⟩;have Aj:Hid _:=hw3;have nZ:Hid _:=eF.out.trans hk3;have iT:Hid (Ξ W0.heap.size W0 w3):=G4.out _ _ nZ.out;clear hw3 hk3 yU eF hcell Zh;go_wp2_with (go_at_call 62;refine(IA.out _ sv _ _ adY.out hv.1 hv.2 HR.out adZ.out iT.out Aj.out).mono ?_);rintro e w4 ⟨rfl,v4,hw4,hk4⟩;rw[←HST.out]at hw4;have vh:Hid _:=hw4;have rJ:Hid _:=nZ.out.trans hk4;clear hw4 hk4;go_wp2_with fail;go_roundw
     case rel=>exact⟨k+1,v4,by omega,by go_num,vh,rJ⟩
     case measure=>simp[intOf];omega
   ·have S3:k=x.subs.length:=by omega
    go_wp2_with (go_at_call 99;refine(fJ yU.out hne Dr [41]).mono ?_);rintro e w5 ⟨rfl,v5,I6,rK⟩;rw[S3,←NT.out]at I6;have vn:Hid _:=I6;have G2:Hid _:=eF.out.trans rK;clear I6 rK yU eF;go_wp2_with fail
    go_end0
    exact⟨rfl,v5,vn.out,G2.out⟩
end Go.Proofs.YtlhimdjkkiflhaaGreatDoor
namespace Go.Proofs.YtlhimdjkkiflhaaGreatDoor
open Go.RowKit Go.Loop
theorem Qt (l:List Bool)(a:Nat):l.set a (l.getD a false)=l:=by
 apply List.ext_getElem?
 intro i;rw[List.getElem?_set];by_cases e:a=i
 ·subst e;rw[zab rfl];by_cases h:a<l.length
  ·rw[zab h,zat h];simp[ξ,List.getElem?_eq_getElem h]
  ·rw[zaa h,zcp (by omega)]
 ·rw[zaa e]
end Go.Proofs.YtlhimdjkkiflhaaGreatDoor
namespace Go.Proofs.YtlhimdjkkiflhaaGreatDoor
open Go.Proofs.Tryz
open Go.RowKit Go.Loop
theorem Gd:(prog.info? 4).map (λi=>(i.zero,i.size,i.bytes))=some (some (.bool false),1,1):=by kernel_rfl
theorem KC:(prog.info? 3).map (λi=>(i.zero,i.size,i.bytes))=some (some (Γ Δ 0),1,8):=by kernel_rfl
theorem pT (w:Θ):w.drew.heap=w.heap:=rfl
theorem ni (w:Θ)(o:Obj)(k:Nat):(w.alloc o).heap[k]?=if k=w.heap.size then some o else w.heap[k]?:=by
 show(w.heap.push o)[k]?=_;rw[zbY]
theorem uE {w:Θ}{k n:Nat}{t:ι}(h:w.heap[k]?=some (.cells (η #[.bool false] n) t)):iA w k (Φ n false):=by
 intro i hi;rw[List.length_replicate]at hi;have hl:(η #[Λ.bool false] n)[i]?=some (.bool false):=by
  rw[←zbz,toList_madeCells_one,zcF,zab hi]
 refine⟨?_,?_⟩
 ·unfold Θ.cell?;simp only[h];rw[ez];simpa using hl
 ·unfold Θ.frozen?;simp[h]
theorem BO {w:Θ}{k n:Nat}{t:ι}(h:w.heap[k]?=some (.cells (η #[Γ Δ 0] n) t)):lx w k (Φ n 0):=by
 intro i hi;rw[List.length_replicate]at hi;have hl:(η #[Λ.int .i64 0] n)[i]?=some (Γ Δ 0):=by
  rw[←zbz,toList_madeCells_one,zcF,zab hi]
 refine⟨?_,?_⟩
 ·unfold Θ.cell?;simp only[h];rw[ez];simpa using hl
 ·unfold Θ.frozen?;simp[h]
theorem MH {w:Θ}{p bo bm bw n:Nat}{nv:Λ}{t1 t2 t3 t4:ι}
 (hp:w.heap[p]?=some (.cells #[nv,.slice (some ⟨bo,0,none⟩) n n,.slice (some ⟨bm,0,none⟩) n n,.slice (some ⟨bw,0,none⟩) n n] t1))
 (ho:w.heap[bo]?=some (.cells (η #[.bool false] n) t2))(hm:w.heap[bm]?=some (.cells (η #[Γ Δ 0] n) t3))(hw:w.heap[bw]?=some (.cells (η #[.bool false] n) t4)):
 fI w p bo bm bw n nv (WS.start n):=by
 refine⟨?_,?_,?_,?_,BO hm,uE hw,uE ho⟩;all_goals (unfold Θ.cell?;simp[hp])
theorem Qu (S:Nat→List Nat)(n:Nat):(WS.start n).Bd S ((WS.start n).pQ (λx=>(S x).length)):=by
 intro i;show(Φ n (0:Int)).getD i 0+_≤_;rw[ez];omega
theorem KD (g:Nat→Nat)(M:Nat)(h:∀x,g x≤M):∀(n i:Nat),sW g i (Φ n 0)≤n*M
 |0,_=>by simp[sW]
 |n+1,i=>by
  have:=KD g M h n (i+1);have:=h i;simp only[List.replicate_succ,sW,if_true];rw[Nat.succ_mul];omega
theorem MJ (S:Nat→List Nat)(M:Nat)(h:∀x,(S x).length≤M)(n:Nat):(WS.start n).pQ (λx=>(S x).length)≤n*M:=KD _ M h n 0
theorem oZ (G:List Nd)(b o cap:Nat)(w:Θ)(hG:bK w b o G)(hn:G.length≤150)(h1:1≤G.length)(ia:∀x (h:x<G.length),eT G[x].subs G.length=true)(G5:∀x,(ai G x).length≤20):ζ prog 27 #[.slice (some ⟨b,o,none⟩) G.length cap] w λe w'=>∃bm bw,e=.returned (.agg #[.slice (some ⟨bm,0,none⟩) G.length G.length,.slice (some ⟨bw,0,none⟩) G.length G.length])∧lx w' bm (fj (ai G) G.length).met∧iA w' bw (fj (ai G) G.length).wi∧Ξ w.heap.size w w':=by
 have HG:Hid _:=hG;have HS:Hid _:=ia;clear hG ia;have mkb:=run_make_row' (P:=prog) 66 4 (.bool false) 1 underlying66 Gd rfl .i64 .i64 G.length (by omega) (by omega);have mki:=run_make_row' (P:=prog) 43 3 (Γ Δ 0) 8 underlying43 KC rfl .i64 .i64 G.length (by omega) (by omega);go_enter func27,ntmps27
 go_upto_region 1 with fail
 go_cut [3,7,10,13] (λx3 x7 x10 x13 wc=>∃p bo bm bw:Nat,x3=.pointer (some ⟨p,0,none⟩)∧x7=.slice (some ⟨bo,0,none⟩) G.length G.length∧x10=.slice (some ⟨bm,0,none⟩) G.length G.length∧x13=.slice (some ⟨bw,0,none⟩) G.length G.length∧
  Hid (Apart (w.heap.size+1) p bo bm bw∧fI wc p bo bm bw G.length (.slice (some ⟨b,o,none⟩) G.length cap) (WS.start G.length)∧Ξ (w.heap.size+1) (w.alloc (.cells #[.slice none 0 0,.slice none 0 0] 68)) wc))
 case first=>
  go_region;all_goals
   go_wp2_with fail
   go_meet
   case rel=>
    refine⟨_,_,_,_,rfl,rfl,rfl,rfl,?_⟩;refine⟨⟨by omega,by omega,by omega,by omega,by omega,by omega,by omega,by omega,by omega,by omega⟩,MH (t1:=90) (t2:=4) (t3:=3) (t4:=4) ?_ ?_ ?_ ?_,?_⟩
    ·rw[pT];simp only[ni,Θ.size_alloc];repeat' (first|rfl|(exfalso;omega)|split)
    ·rw[pT];simp only[ni,Θ.size_alloc];repeat' (first|rfl|(exfalso;omega)|split)
    ·rw[pT];simp only[ni,Θ.size_alloc];repeat' (first|rfl|(exfalso;omega)|split)
    ·rw[pT];simp only[ni,Θ.size_alloc];repeat' (first|rfl|(exfalso;omega)|split)
    ·exact(((((zad _ _).alloc (by simp) _).alloc (by simp) _).alloc (by simp) _).alloc (by simp) _).drew
 case rest=>
  obtain⟨p,bo,bm,bw,rfl,rfl,rfl,rfl,hcu⟩:=hcut;have hbx:bK (w.alloc (.cells #[.slice none 0 0,.slice none 0 0] 68)) b o G:=bK.below HG.out aD;have hsz:(w.alloc (.cells #[.slice none 0 0,.slice none 0 0] 68)).heap.size=w.heap.size+1:=Θ.size_alloc ..;have HA:Hid (Apart (w.alloc (.cells #[.slice none 0 0,.slice none 0 0] 68)).heap.size p bo bm bw):=by show Apart _ _ _ _ _;rw[hsz];exact hcu.out.1
  have HW:Hid (fI wc p bo bm bw G.length (.slice (some ⟨b,o,none⟩) G.length cap) (WS.start G.length)):=hcu.out.2.1;have HB:Hid (Ξ (w.alloc (.cells #[.slice none 0 0,.slice none 0 0] 68)).heap.size (w.alloc (.cells #[.slice none 0 0,.slice none 0 0] 68)) wc):=by show Ξ _ _ _;rw[hsz];exact hcu.out.2.2
  have HX:Hid (bK (w.alloc (.cells #[.slice none 0 0,.slice none 0 0] 68)) b o G):=hbx;have ad0:=MJ (ai G) 20 G5 G.length;have HP:Hid ((WS.start G.length).pQ (λx=>(ai G x).length)+1≤1000000):=by show _≤_;omega
  have HSS:Hid (∀x (h:x<G.length),eT G[x].subs G.length=true):=HS.out;clear hcu hbx mkb mki ad0 G5 HS;go_wp2_with fail;refine(Qq G b o cap _ HX hn HSS p bo bm bw HA.out (G.length+1) (WS.start G.length) 0 wc _
   (kY _) (by omega) (by omega) (by show sW (λ_=>1) 0 (Φ G.length 0)<_;rw[yT];omega) (Qu _ _) HP.out HB.out HW.out).mono ?_
  rintro e w2 ⟨rfl,hw2,hb2⟩;obtain⟨hcell,Oe⟩:=BN hb2;have iB:Hid _:=hb2;have wP:Hid _:=hw2;obtain⟨q0,q1,q2,q3,_,_,_⟩:=hw2;clear hb2 q0 q1;go_wp2_with fail;refine zao (by simp[results,results27,go_sem,hcell];rfl) rfl ?_;have a1:=HA.out.hm;have a2:=HA.out.hw;rw[hsz]at a1 a2;have b1:(⟨w.heap.size,0,none⟩:Addr).block≠bm:=by show w.heap.size≠bm;omega
  have b2:(⟨w.heap.size,0,none⟩:Addr).block≠bw:=by show w.heap.size≠bw;omega
  have b3:(⟨w.heap.size,1,none⟩:Addr).block≠bm:=by show w.heap.size≠bm;omega
  have b4:(⟨w.heap.size,1,none⟩:Addr).block≠bw:=by show w.heap.size≠bw;omega
  have NC:Ξ w.heap.size w w2:=aD.trans (iB.out.mono (by simp));exact⟨bm,bw,rfl,(wP.out.rm.far b1 _).far b3 _,(wP.out.rw.far b2 _).far b4 _,(NC.setCell (zac _) _).setCell (zac _) _⟩
end Go.Proofs.YtlhimdjkkiflhaaGreatDoor
namespace Go.Proofs.YtlhimdjkkiflhaaGreatDoor
open Go.RowKit Go.Loop
def iY (G:List Nd)(mode:Int)(i:Nat):Bool:=
 if mode=1 then(fj (ai G) G.length).wi.getD i false
 else if mode=2 then decide (1<(fj (ai G) G.length).met.getD i 0)&&decide (1≤aJ G i∧aJ G i≤3)else false
def qj (G:List Nd):Bool:=(List.range G.length).any λi=>(fj (ai G) G.length).wi.getD i false
def bu (n:Nat):TS:=⟨Φ n (-1),0,[],false⟩
def dw (G:List Nd)(mode:Int)(F:Nat):TS:=WF (aJ G) (ai G) (jD G) (iY G mode) F false (bu G.length) 0
def bJ (G:List Nd)(mode:Int)(F:Nat):List UInt8×Int:=
 if mode<0∨2<mode then([],1)else if ey G=false then([],8)else if mode=0∧qj G=true then([],9)else if(dw G mode F).long=true then([],2)else((dw G mode F).out,0)
theorem pU (n:Nat)(L:Nat→Bool):(bu n).Ok n L:=
 ⟨by simp[bu],λ_=>by simp[bu],λi=>by show -1≤(Φ n (-1:Int)).getD i (-1)∧(Φ n (-1:Int)).getD i (-1)<_;rw[ez];simp[bu],λi hi=>by
   change 0≤(Φ n (-1:Int)).getD i (-1)at hi;rw[ez]at hi;omega,λ_=>by simp[bu],by simp[bu]⟩
theorem lI (G:List Nd)(h:ey G=true):1≤G.length∧G.length≤150∧(∀x (hx:x<G.length),aQ G[x]=true)∧(∀x (hx:x<G.length),eT G[x].subs G.length=true)∧(∀x,(ai G x).length≤20):=by
 unfold ey at h;simp only[zae,zaK]at h;obtain⟨⟨h1,h2⟩,h3⟩:=h;have hk:∀x (hx:x<G.length),aQ G[x]=true∧eT G[x].subs G.length=true:=λx hx=>by
  have:=zaC.1 h3 G[x] (zbx hx);simpa using this
 refine⟨h1,h2,λx hx=>(hk x hx).1,λx hx=>(hk x hx).2,λx=>?_⟩;by_cases hx:x<G.length
 ·rw[iX G x hx,zby];have hb:=(hk x hx).1;unfold aQ at hb;by_cases k0:G[x].kind=0
  ·rw[zab k0]at hb;simp at hb;rw[hb.2.2.2];simp
  rw[zaa k0]at hb;by_cases k1:G[x].kind=1
  ·rw[zab k1]at hb;simp at hb;omega
  rw[zaa k1]at hb;by_cases k2:G[x].kind=2
  ·rw[zab k2]at hb;simp at hb;omega
  rw[zaa k2]at hb;by_cases k3:G[x].kind=3
  ·rw[zab k3]at hb;simp at hb;rw[hb.2.2.2];simp
  rw[zaa k3]at hb;by_cases k4:G[x].kind=4
  ·rw[zab k4]at hb;simp at hb;rw[hb.1.2.2];simp
  rw[zaa k4]at hb;by_cases k5:G[x].kind=5
  ·rw[zab k5]at hb;simp at hb;rw[hb.2.2];simp
  rw[zaa k5]at hb;by_cases k6:G[x].kind=6
  ·rw[zab k6]at hb;simp at hb;rw[hb.2.2.2];simp
  rw[zaa k6]at hb;by_cases k7:G[x].kind=7
  ·rw[zab k7]at hb;simp at hb;rw[hb.2.2.2];simp
  rw[zaa k7]at hb;exact absurd hb (by simp)
 ·unfold ai;rw[zcp (by omega)];simp
theorem kx {a a':List UInt8}{n n':Int}(h1:a=a')(h2:n=n'):Ending.returned (.tuple #[.string ⟨⟨a⟩⟩,Γ Δ n])=.returned (.tuple #[.string ⟨⟨a'⟩⟩,Γ Δ n']):=by rw[h1,h2]
end Go.Proofs.YtlhimdjkkiflhaaGreatDoor
