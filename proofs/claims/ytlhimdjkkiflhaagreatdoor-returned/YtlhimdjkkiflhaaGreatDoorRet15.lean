import Derived.Test.YtlhimdjkkiflhaaGreatDoorRet14
set_option maxHeartbeats 8000000
set_option maxRecDepth 100000
open Go.RowKit renaming Below→Γ
open Go renaming maxLen→Δ,World→Θ,Calls→Λ
namespace Go.Proofs.YtlhimdjkkiflhaaGreatDoor
open Go.Proofs.Tryz
open Go.RowKit Go.Loop
theorem YD (s:ByteArray)(a b:Nat):s.extract a b=⟨⟨dL s.data.toList a b⟩⟩:=by
 have h:=oJ s a b;generalize s.extract a b=x at *;obtain⟨⟨l⟩⟩:=x;rw[←h]
theorem C7 (s:ByteArray)(a:Nat)(w:Θ)(hs:s.size≤1000000)(ha:a<s.size)(hw:bq (s[a].toNat :Int)=true):Λ prog 171 #[.string s,.int .i64 a] w λe w'=>e=.returned (bP (fN s.data.toList a))∧Γ w.heap.size w w':=by
 have hle:=jC bq (s.data.toList.drop a);rw[zau,bR]at hle;have jT:0<aT bq (s.data.toList.drop a):=by rw[drop_cons s a ha];unfold aT;rw[zab hw];omega
 have hT:Hid (fN s.data.toList a=if dL s.data.toList a (a+aT bq (s.data.toList.drop a))=[46]then aH 7 a (a+aT bq (s.data.toList.drop a))else if !bX (dL s.data.toList a (a+aT bq (s.data.toList.drop a)))then { aH 14 a (a+aT bq (s.data.toList.drop a))with text:=dL s.data.toList a (a+aT bq (s.data.toList.drop a)) } else match dH (dL s.data.toList a (a+aT bq (s.data.toList.drop a)))with|none=>bt a|some (n,d,f)=>{ aH 13 a (a+aT bq (s.data.toList.drop a))with n:=n,d:=d,fault:=f }):=rfl;clear hw;generalize hk:aT bq (s.data.toList.drop a)=k at *;have HK:Hid _:=hk;clear hk;have hx:=YD s a (a+k);have hlen:(dL s.data.toList a (a+k)).length=k:=by unfold dL;rw[List.length_take,zau,bR];omega
 have hsz:(s.extract a (a+k)).size≤1000000:=lD _ _ _ _ hs;generalize hW:dL s.data.toList a (a+k)=W at *;have hne:W≠[]:=by intro h;rw[h]at hlen;simp at hlen;omega
 clear hW hlen;have hd:(s.extract a (a+k)).data.toList=W:=by rw[hx]
 have ht:(s.extract a (a+k)).toList=W:=by rw[pL,hd]
 have HXW:Hid _:=hx;clear hx;by_cases c1:W=[46]
 ·have e:Hid (fN s.data.toList a=aH 7 a (a+k)):=by show _=_;rw[hT.out,zab c1]
  have q1:((s.extract a (a+k)).toList==[46])=true:=by rw[ht,c1];rfl
  clear hT c1 hd ht;go_enter func171,ntmps171;go_wp2_with (go_at_call 148;refine(ei _ _ _ (by unfold Δ;omega) (by omega) (by omega)).mono ?_;rintro e w' ⟨rfl,rfl⟩;rw[show((a:Int)).toNat=a by omega,HK.out]);refine zao (v:=bP (aH 7 a (a+k))) (by simp[results,results171,bP,aH,go_sem]) rfl ⟨by rw[e.out],?_⟩
  (repeat (first|with_reducible refine zaG ?_ (by simp) _|with_reducible refine zbf ?_ _|with_reducible refine zaH ?_ (by simp) _));with_reducible exact zad _ _
 have q1:((s.extract a (a+k)).toList==[46])=false:=by rw[ht,zah];exact c1
 have PO:Hid ((s.extract a (a+k)).data.toList≠[]):=by rw[hd];exact hne
 cases hm:bX W
 ·have e:Hid (fN s.data.toList a={ aH 14 a (a+k)with text:=W }):=by show _=_;rw[hT.out,zaa c1,hm];rfl
  have ND:Hid (bX (s.extract a (a+k)).data.toList=false):=by rw[hd];exact hm
  have hv:Hid (s.extract a (a+k)=⟨⟨W⟩⟩):=HXW.out;clear hT c1 hd ht hm;go_enter func171,ntmps171;go_wp2_with (go_at_call 148;refine(ei _ _ _ (by unfold Δ;omega) (by omega) (by omega)).mono ?_;rintro e w' ⟨rfl,rfl⟩;rw[show((a:Int)).toNat=a by omega,HK.out]);refine(ur _ _ hsz PO.out).mono ?_;rw[ND.out];rintro e w' ⟨rfl,rfl⟩;go_wp2_with fail;rw[hv.out];refine zao (v:=bP { aH 14 a (a+k)with text:=W }) (by simp[results,results171,bP,aH,go_sem]) rfl ⟨by rw[e.out],?_⟩
  (repeat (first|with_reducible refine zaG ?_ (by simp) _|with_reducible refine zbf ?_ _|with_reducible refine zaH ?_ (by simp) _));with_reducible exact zad _ _
 ·have ND:Hid (bX (s.extract a (a+k)).data.toList=true):=by rw[hd];exact hm
  have cO:Hid (dH (s.extract a (a+k)).data.toList=dH W):=by show _=_;rw[hd]
  cases hn:dH W with
  |none=>
   have e:Hid (fN s.data.toList a=bt a):=by show _=_;rw[hT.out,zaa c1,hm,hn];rfl
   clear hT c1 hd ht hm;go_enter func171,ntmps171;go_wp2_with (go_at_call 148;refine(ei _ _ _ (by unfold Δ;omega) (by omega) (by omega)).mono ?_;rintro e w' ⟨rfl,rfl⟩;rw[show((a:Int)).toNat=a by omega,HK.out]);refine(ur _ _ hsz PO.out).mono ?_;rw[ND.out];rintro e w' ⟨rfl,rfl⟩;go_wp2_with fail;refine(Fi _ _ hsz PO.out).mono ?_;rw[cO.out,hn];rintro e w1 ⟨rfl,hb⟩;obtain⟨⟨x0,x1,x2,x3,x4,x5,x6⟩,f0,f1,f2,f3,f4,f5,f6⟩:=dt (b:=w.heap.size) hb (zav w _);have hb1:Γ w.heap.size w w1:=((zad _ w).alloc (zac _) _).trans (hb.mono (by simp));have hs1:w.heap.size<w1.heap.size:=by have:=hb.size;simp at this;omega
   have Yw:¬w.heap.size=w1.heap.size:=by omega
   have wJ:¬w1.heap.size=w.heap.size:=by omega
   have HB:Hid (Γ w.heap.size w w1):=hb1;have pM:Hid _:=(hb.block w.heap.size (by simp)).trans (zav w _);clear hb hb1;unfold bP Ip;go_wp2_with fail;refine(jy _ _).mono ?_;rintro e w2 ⟨rfl,hb2⟩;clear x0 x1 x2 x3 x4 x5 x6 f0 f1 f2 f3 f4 f5 f6;obtain⟨⟨x0,x1,x2,x3,x4,x5,x6⟩,f0,f1,f2,f3,f4,f5,f6⟩:=dt (b:=w.heap.size) hb2 ((zaT _ _ _ hs1).trans pM.out);have iB:Hid (Γ w.heap.size w w2):=(HB.out.alloc (by omega) _).trans (hb2.mono (by simp;omega));clear hb2;unfold bP;go_wp2_with fail;exact zao (v:=bP (bt a)) (by simp[results,results171,bP,aH,bt,go_sem, *]) rfl ⟨by rw[e.out],gh iB.out _ _ _ _ _ _ _⟩
  |some p=>
   obtain⟨n,d,f⟩:=p;have e:Hid (fN s.data.toList a={ aH 13 a (a+k)with n:=n,d:=d,fault:=f }):=by show _=_;rw[hT.out,zaa c1,hm,hn];rfl
   clear hT c1 hd ht hm;go_enter func171,ntmps171;go_wp2_with (go_at_call 148;refine(ei _ _ _ (by unfold Δ;omega) (by omega) (by omega)).mono ?_;rintro e w' ⟨rfl,rfl⟩;rw[show((a:Int)).toNat=a by omega,HK.out]);refine(ur _ _ hsz PO.out).mono ?_;rw[ND.out];rintro e w' ⟨rfl,rfl⟩;go_wp2_with fail;refine(Fi _ _ hsz PO.out).mono ?_;rw[cO.out,hn];rintro e w1 ⟨rfl,hb⟩;obtain⟨⟨x0,x1,x2,x3,x4,x5,x6⟩,f0,f1,f2,f3,f4,f5,f6⟩:=dt (b:=w.heap.size) hb (zav w _);have hb1:Γ w.heap.size w w1:=((zad _ w).alloc (zac _) _).trans (hb.mono (by simp));have hs1:w.heap.size<w1.heap.size:=by have:=hb.size;simp at this;omega
   have Yw:¬w.heap.size=w1.heap.size:=by omega
   have wJ:¬w1.heap.size=w.heap.size:=by omega
   have HB:Hid (Γ w.heap.size w w1):=hb1;have pM:Hid _:=(hb.block w.heap.size (by simp)).trans (zav w _);clear hb hb1;unfold bP Ip;go_wp2_with fail;refine zao (v:=bP { aH 13 a (a+k)with n:=n,d:=d,fault:=f }) (by simp[results,results171,bP,aH,go_sem, *]) rfl ⟨by rw[e.out],?_⟩
   (repeat (first|with_reducible refine zaG ?_ (by first|(simp;done)|(simp;omega)) _|with_reducible refine zbf ?_ _|with_reducible refine zaH ?_ (by first|omega|(simp;done)|(simp;omega)) _));with_reducible exact HB.out
theorem oK (p:Int→Bool):∀l:List UInt8,(l.take (aT p l)).all (λc=>p (c.toNat:Int))=true
 |[]=>rfl
 |c::r=>by
  unfold aT;by_cases h:p (c.toNat:Int)=true
  ·rw[zab h,List.take_succ_cons,zap,h,zbI];exact oK p r
  ·rw[zaa h];rfl
def yw:Tok:=⟨0,0,0,[],0,0,0⟩
theorem lV (s:ByteArray)(a:Nat)(w:Θ)(hs:s.size≤1000000)(ha:a<s.size):Λ prog 199 #[.string s,.int .i64 a] w λe w'=>e=.returned (.tuple #[bP ((bZ s.data.toList a).getD yw),.bool (bZ s.data.toList a).isSome])∧Γ w.heap.size w w':=by
 have hle:=jC cF (s.data.toList.drop (a+1));rw[zau,bR]at hle;have hall:Hid ((s.extract (a+1) (a+1+aT cF (s.data.toList.drop (a+1)))).data.toList.all (λc=>cF (c.toNat:Int))=true):=by
  show _=_;rw[oJ];unfold dL;rw[show a+1+aT cF (s.data.toList.drop (a+1))-(a+1)=aT cF (s.data.toList.drop (a+1)) by omega];exact oK _ _
 have hT:Hid (bZ s.data.toList a=if aT cF (s.data.toList.drop (a+1))=0∨3<aT cF (s.data.toList.drop (a+1))then none else match s.data.toList.drop (a+1+aT cF (s.data.toList.drop (a+1)))with|[]=>none|c::_=>if c.toNat=61 then some { aH 10 a (a+1+aT cF (s.data.toList.drop (a+1))+1)with n:=aK (dL s.data.toList (a+1) (a+1+aT cF (s.data.toList.drop (a+1)))) } else if c.toNat=35 then some { aH 11 a (a+1+aT cF (s.data.toList.drop (a+1))+1)with n:=aK (dL s.data.toList (a+1) (a+1+aT cF (s.data.toList.drop (a+1)))) } else none):=rfl;generalize hk:aT cF (s.data.toList.drop (a+1))=k at *;have HK:Hid _:=hk;clear hk;have Ps:Hid ((s.extract (a+1) (a+1+k)).data.toList=dL s.data.toList (a+1) (a+1+k)):=oJ _ _ _;have hsz:(s.extract (a+1) (a+1+k)).size≤1000000:=lD _ _ _ _ hs;by_cases h0:k=0
 ·have e:Hid (bZ s.data.toList a=none):=by show _=_;rw[hT.out,zab (.inl h0)]
  have q1:(((a:Int)+1+(k:Int))==(a:Int)+1)=true:=by rw[zaJ];omega
  clear hT;go_enter func199,ntmps199;go_wp2_with (go_at_call 148;refine(fD _ _ _ (by unfold Δ;omega) (by omega) (by omega)).mono ?_;rintro e w' ⟨rfl,rfl⟩;rw[show((a:Int)+1).toNat=a+1 by omega,HK.out]);refine zao (v:= .tuple #[bP yw,.bool false]) (by simp[results,results199,bP,yw,go_sem]) rfl ⟨by rw[e.out];rfl,?_⟩
  (repeat (first|with_reducible refine zaG ?_ (by simp) _|with_reducible refine zaH ?_ (by simp) _));with_reducible exact zad _ _
 have q1:(((a:Int)+1+(k:Int))==(a:Int)+1)=false:=by rw[zah];omega
 by_cases h3:3<k
 ·have e:Hid (bZ s.data.toList a=none):=by show _=_;rw[hT.out,zab (.inr h3)]
  clear hT;go_enter func199,ntmps199;go_wp2_with (go_at_call 148;refine(fD _ _ _ (by unfold Δ;omega) (by omega) (by omega)).mono ?_;rintro e w' ⟨rfl,rfl⟩;rw[show((a:Int)+1).toNat=a+1 by omega,HK.out]);refine zao (v:= .tuple #[bP yw,.bool false]) (by simp[results,results199,bP,yw,go_sem]) rfl ⟨by rw[e.out];rfl,?_⟩
  (repeat (first|with_reducible refine zaG ?_ (by simp) _|with_reducible refine zaH ?_ (by simp) _));with_reducible exact zad _ _
 have hn:¬(k=0∨3<k):=by omega
 by_cases hE:a+1+k=s.size
 ·have e:Hid (bZ s.data.toList a=none):=by show _=_;rw[hT.out,zaa hn,show s.data.toList.drop (a+1+k)=[] from zbS (by rw[bR];omega)]
  have q2:(((a:Int)+1+(k:Int))==(s.size:Int))=true:=by rw[zaJ];omega
  clear hT hn;go_enter func199,ntmps199;go_wp2_with (go_at_call 148;refine(fD _ _ _ (by unfold Δ;omega) (by omega) (by omega)).mono ?_;rintro e w' ⟨rfl,rfl⟩;rw[show((a:Int)+1).toNat=a+1 by omega,HK.out]);refine zao (v:= .tuple #[bP yw,.bool false]) (by simp[results,results199,bP,yw,go_sem]) rfl ⟨by rw[e.out];rfl,?_⟩
  (repeat (first|with_reducible refine zaG ?_ (by simp) _|with_reducible refine zaH ?_ (by simp) _));with_reducible exact zad _ _
 have q2:(((a:Int)+1+(k:Int))==(s.size:Int))=false:=by rw[zah];omega
 have hlt:a+1+k<s.size:=by omega
 have Yh:1≤k:=by omega
 have hk3:k≤3:=by omega
 have hd:=drop_cons s (a+1+k) hlt;clear h0 h3 hE;by_cases h61:(s[a+1+k].toNat :Int)=61
 ·have e:Hid (bZ s.data.toList a=some { aH 10 a (a+1+k+1)with n:=aK (dL s.data.toList (a+1) (a+1+k)) }):=by show _=_;rw[hT.out,zaa hn,hd];exact zab (by omega)
  clear hT hd hn;go_enter func199,ntmps199;go_wp2_with (go_at_call 148;refine(fD _ _ _ (by unfold Δ;omega) (by omega) (by omega)).mono ?_;rintro e w' ⟨rfl,rfl⟩;rw[show((a:Int)+1).toNat=a+1 by omega,HK.out]);refine(fE _ _ hsz hall.out).mono ?_;rw[Ps.out];rintro e w' ⟨rfl,rfl⟩;go_wp2_with fail;refine zao (v:= .tuple #[bP { aH 10 a (a+1+k+1)with n:=aK (dL s.data.toList (a+1) (a+1+k)) },.bool true]) (by simp[results,results199,bP,aH,go_sem]) rfl ⟨by rw[e.out];rfl,?_⟩
  (repeat (first|with_reducible refine zaG ?_ (by simp) _|with_reducible refine zaH ?_ (by simp) _));with_reducible exact zad _ _
 by_cases h35:(s[a+1+k].toNat :Int)=35
 ·have e:Hid (bZ s.data.toList a=some { aH 11 a (a+1+k+1)with n:=aK (dL s.data.toList (a+1) (a+1+k)) }):=by show _=_;rw[hT.out,zaa hn,hd];exact(zaa (by omega)).trans (zab (by omega))
  clear hT hd hn;go_enter func199,ntmps199;go_wp2_with (go_at_call 148;refine(fD _ _ _ (by unfold Δ;omega) (by omega) (by omega)).mono ?_;rintro e w' ⟨rfl,rfl⟩;rw[show((a:Int)+1).toNat=a+1 by omega,HK.out]);refine(fE _ _ hsz hall.out).mono ?_;rw[Ps.out];rintro e w' ⟨rfl,rfl⟩;go_wp2_with fail;refine zao (v:= .tuple #[bP { aH 11 a (a+1+k+1)with n:=aK (dL s.data.toList (a+1) (a+1+k)) },.bool true]) (by simp[results,results199,bP,aH,go_sem]) rfl ⟨by rw[e.out];rfl,?_⟩
  (repeat (first|with_reducible refine zaG ?_ (by simp) _|with_reducible refine zaH ?_ (by simp) _));with_reducible exact zad _ _
 ·have e:Hid (bZ s.data.toList a=none):=by show _=_;rw[hT.out,zaa hn,hd];exact(zaa (by omega)).trans (zaa (by omega))
  clear hT hd hn;go_enter func199,ntmps199;go_wp2_with (go_at_call 148;refine(fD _ _ _ (by unfold Δ;omega) (by omega) (by omega)).mono ?_;rintro e w' ⟨rfl,rfl⟩;rw[show((a:Int)+1).toNat=a+1 by omega,HK.out]);refine(fE _ _ hsz hall.out).mono ?_;rw[Ps.out];rintro e w' ⟨rfl,rfl⟩;go_wp2_with fail;refine zao (v:= .tuple #[bP yw,.bool false]) (by simp[results,results199,bP,yw,go_sem]) rfl ⟨by rw[e.out];rfl,?_⟩
  (repeat (first|with_reducible refine zaG ?_ (by simp) _|with_reducible refine zaH ?_ (by simp) _));with_reducible exact zad _ _
theorem AO {w:Θ}{b:Nat}(hb:w.heap[b]?=some (.cells #[.pointer none,.slice none 0 0] 116 (0,0))):Λ prog 63 #[.pointer (some ⟨b,0,none⟩)] w λe w'=>e=.returned (.string ⟨#[]⟩)∧w'=w.drew:=by
 have c1:w.drew.cell? ⟨b,1,none⟩=some (.slice none 0 0):=by
  have:w.drew.heap[b]?=some (.cells #[.pointer none,.slice none 0 0] 116 (0,0)):=hb;simp[Θ.cell?,this]
 have hSD:(Builtin.unsafeSliceData_ #[80] 190 #[.slice none 0 0]).run prog w.drew=.ok (.pointer none) w.drew:=Lib.run_unsafeSliceData_nil _ _ _ _ _;have hUS:(Builtin.unsafeString_ #[190,3] 9 #[.pointer none,.int .i64 0]).run prog w.drew=.ok (.string ⟨#[]⟩) w.drew:=
  Lib.run_unsafeString_none _ _ _ _ _
 clear hb;go_enter func63,ntmps63
 go_wp2
 go_region;all_goals (go_wp2;go_ret;exact⟨rfl,rfl⟩)
def NG (W w:Θ)(N:Nat)(l:List UInt8):Prop:=N=W.heap.size∧∃cs v,cs.size=2∧fu w 116 0 N N cs v (Lib.byteCells l)∧Γ N W w∧(l=[]→cs=#[.pointer none,.slice none 0 0])
theorem NG.start (W:Θ):NG W (W.alloc (.cells #[.pointer none,.slice none 0 0] 116)) W.heap.size []:=
 ⟨rfl,_,_,rfl,⟨zac _,zav W _,Or.inl rfl,rfl,zck _ _ _ _⟩,(zad _ _).alloc (zac _) _,λ_=>rfl⟩
theorem NG.fT {W w:Θ}{N:Nat}{l:List UInt8}(h:NG W w N l)(c:UInt8)(hl:l.length≤2000000):Λ prog 191 #[.pointer (some ⟨N,0,none⟩),.int .u8 c.toNat] w λe w'=>e=.returned .nilIface∧NG W w' N (l++[c]):=by
 obtain⟨rfl,cs,v,hs,hb,hw,_⟩:=h;have hsz:=hw.size;refine(qH (hs▸yz) (by decide) hb c.toNat (by rw[Lib.byteCells_length];omega) hsz).mono ?_;rintro e w' ⟨rfl,v',h1,h2⟩;refine⟨rfl,rfl,_,v',?_,by rw[Lib.byteCells_append];exact h1,hw.trans (h2.below hsz (zac _) λk hk=>(hb.own.lt k hk).1),λh=>by simp at h⟩;simp[kR,hs]
theorem NG.string {W w:Θ}{N:Nat}{l:List UInt8}(h:NG W w N l):Λ prog 63 #[.pointer (some ⟨N,0,none⟩)] w λe w'=>e=.returned (.string ⟨⟨l⟩⟩)∧Γ W.heap.size W w':=by
 obtain⟨rfl,cs,v,hs,hb,hw,h0⟩:=h;by_cases hl:l=[]
 ·subst hl;have hblk:=hb.blk;rw[h0 rfl]at hblk;refine(AO hblk).mono ?_;rintro e w' ⟨rfl,rfl⟩;exact⟨rfl,hw.drew⟩
 ·refine(lW hb hl).mono ?_;rintro e w' ⟨rfl,h2⟩;exact⟨rfl,hw.trans (h2.below hw.size (zac _) λk hk=>(hb.own.lt k hk).1)⟩
theorem NG.below {W w:Θ}{N:Nat}{l:List UInt8}(h:NG W w N l):Γ W.heap.size W w:=by
 obtain⟨rfl,_,_,_,_,hw,_⟩:=h;exact hw
theorem ru {k:Nat}{o:List UInt8}{c:UInt8}{r:List UInt8}(h:c=34):dD k o (c::r)=.ok (k+1) o:=by
 cases r<;>simp[dD,h]
theorem YE {k:Nat}{o:List UInt8}:dD k o [92]=.fin:=rfl
theorem C9 {k:Nat}{o:List UInt8}{x:UInt8}{r:List UInt8}(h:AB x=none):dD k o (92::x::r)=.bad:=by
 rw[dD,zaa (by decide),zab rfl,h]
theorem oL {k:Nat}{o:List UInt8}{x b:UInt8}{r:List UInt8}(h:AB x=some b):dD k o (92::x::r)=dD (k+2) (o++[b]) r:=by
 rw[dD,zaa (by decide),zab rfl,h]
theorem pN {k:Nat}{o:List UInt8}{c:UInt8}{r:List UInt8}(h1:¬c=34)(h2:¬c=92):dD k o (c::r)=dD (k+1) (o++[c]) r:=by
 cases r with
 |nil=>simp[dD,h1]
 |cons e r=>rw[dD,zaa h1,zaa h2]
def T0:Obj:= .cells #[.int .i64 0,.int .i64 0,.int .i64 0,.string ⟨#[]⟩,.int .i64 0,.int .i64 0,.int .i64 0] 131
theorem Kh {c:UInt8}{n:Nat}(hn:n<256):(c.toNat:Int)=(n:Int)↔c=n.toUInt8:=by
 rw[←UInt8.toNat_inj];simp[Nat.mod_eq_of_lt hn];omega
theorem Da (s:ByteArray)(a:Nat)(w:Θ)(hs:s.size≤1000000)(ha:a<s.size):Λ prog 169 #[.string s,.int .i64 a] w λe w'=>e=.returned (bP (jh s.data.toList a))∧Γ w.heap.size w w':=by
 have hT:Hid (jh s.data.toList a=match dD (a+1) [] (s.data.toList.drop (a+1))with|.fin=>nW s.data.toList|.bad=>bt a|.ok e b=>{ aH 8 a e with text:=b }):=rfl;have H0:Hid (NG (w.alloc T0) ((w.alloc T0).alloc (.cells #[.pointer none,.slice none 0 0] 116)) (w.heap.size+1) []):=by
  have:=NG.start (w.alloc T0);rw[show(w.alloc T0).heap.size=w.heap.size+1 by simp]at this;exact this
 have hblk:Hid ((w.alloc T0).heap[w.heap.size]?=some T0):=zav w _;have hw0:Hid (Γ w.heap.size w (w.alloc T0)):=(zad _ w).alloc (zac _) _;go_enter func169,ntmps169;go_wp2_with fail;go_loopw [6] (λi wr=>∃(k:Nat) (o:List UInt8),a+1≤k∧k≤s.size∧i=.int .i64 k∧o.length≤k∧Hid (NG (w.alloc T0) wr (w.heap.size+1) o)∧Hid (dD (a+1) [] (s.data.toList.drop (a+1))=dD k o (s.data.toList.drop k))) (λi _=>s.size-(intOf i).toNat)
 case atStart=>exact⟨a+1,[],zac _,by omega,by go_num,by simp,H0.out,rfl⟩
 case round=>
  obtain⟨k,o,G0,hk,rfl,AJ,H2,hr⟩:=hrel;by_cases hlt:k<s.size
  ·have hd:Hid _:=drop_cons s k hlt;by_cases h34:(s[k].toNat :Int)=34
   ·have he:Hid (jh s.data.toList a={ aH 8 a (k+1)with text:=o }):=by
     show _=_;rw[hT.out,hr.out,hd.out,ru ((Kh (by decide:34<256)).1 h34)]
    go_wp2_with fail;refine(H2.out.string).mono ?_;rintro e w1 ⟨rfl,hb⟩;obtain⟨⟨x0,x1,x2,x3,x4,x5,x6⟩,f0,f1,f2,f3,f4,f5,f6⟩:=dt (b:=w.heap.size) hb hblk.out;have HB:Hid (Γ w.heap.size w w1):=hw0.out.trans (hb.mono (by simp));clear hb;go_wp2_with fail;exact zao (v:=bP { aH 8 a (k+1)with text:=o }) (by simp[results,results169,bP,aH,go_sem, *]) rfl ⟨by rw[he.out],gh HB.out _ _ _ _ _ _ _⟩
   by_cases h92:(s[k].toNat :Int)=92
   ·have YF:Hid (s[k]=92):=(Kh (by decide:92<256)).1 h92;by_cases Uk:k+1<s.size
    ·have hd2:Hid _:=drop_cons s (k+1) Uk;cases hes:AB s[k+1]with
     |none=>
      have he:Hid (jh s.data.toList a=bt a):=by
       show _=_;rw[hT.out,hr.out,hd.out,YF.out,hd2.out,C9 hes]
      have YG:Hid _:=hes;go_wp2_with fail;refine(vd _ _).mono ?_;rw[YG.out];rintro e w' ⟨rfl,rfl⟩;go_wp2_with fail;refine(jy _ _).mono ?_;rintro e w1 ⟨rfl,hb1⟩;have hb:=H2.out.below.trans (hb1.mono H2.out.below.size);obtain⟨⟨x0,x1,x2,x3,x4,x5,x6⟩,f0,f1,f2,f3,f4,f5,f6⟩:=dt (b:=w.heap.size) hb hblk.out;have HB:Hid (Γ w.heap.size w w1):=hw0.out.trans (hb.mono (by simp));clear hb hb1;unfold bP;go_wp2_with fail;exact zao (v:=bP (bt a)) (by simp[results,results169,bP,aH,bt,go_sem, *]) rfl ⟨by rw[he.out],gh HB.out _ _ _ _ _ _ _⟩
     |some b=>
      have qa:Hid (dD (a+1) [] (s.data.toList.drop (a+1))=dD (k+2) (o++[b]) (s.data.toList.drop (k+2))):=by
       show _=_;rw[hr.out,hd.out,YF.out,hd2.out,oL hes]
      have YG:Hid _:=hes;go_wp2_with fail;refine(vd _ _).mono ?_;rw[YG.out];rintro e w' ⟨rfl,rfl⟩;go_wp2_with fail;refine(H2.out.fT b (by omega)).mono ?_;rintro e w2 ⟨rfl,h2⟩;have H3:Hid _:=h2;clear h2 H2;go_wp2_with fail;go_roundw
      case rel=>exact⟨k+2,o++[b],by omega,by omega,by go_num,by simp;omega,H3.out,qa.out⟩
      case measure=>simp[intOf];omega
    ·have Yh:k+1=s.size:=by omega
     have he:Hid (jh s.data.toList a=nW s.data.toList):=by
      show _=_;rw[hT.out,hr.out,hd.out,YF.out,show s.data.toList.drop (k+1)=[] from zbS (by rw[bR];omega),YE]
     have q:(((k:Int)+1)==(s.size:Int))=true:=by rw[zaJ];omega
     go_wp2_with fail;refine(uo _ _).mono ?_;rintro e w1 ⟨rfl,hb1⟩;have hb:=H2.out.below.trans (hb1.mono H2.out.below.size);obtain⟨⟨x0,x1,x2,x3,x4,x5,x6⟩,f0,f1,f2,f3,f4,f5,f6⟩:=dt (b:=w.heap.size) hb hblk.out;have HB:Hid (Γ w.heap.size w w1):=hw0.out.trans (hb.mono (by simp));clear hb hb1;unfold bP;go_wp2_with fail;exact zao (v:=bP (nW s.data.toList)) (by simp[results,results169,bP,aH,nW,go_sem, *]) rfl ⟨by rw[he.out],gh HB.out _ _ _ _ _ _ _⟩
   ·have qa:Hid (dD (a+1) [] (s.data.toList.drop (a+1))=dD (k+1) (o++[s[k]]) (s.data.toList.drop (k+1))):=by
     show _=_;rw[hr.out,hd.out,pN (λe=>h34 ((Kh (by decide:34<256)).2 e)) (λe=>h92 ((Kh (by decide:92<256)).2 e))]
    have q1:((s[k].toNat :Int)==34)=false:=by rw[zah];exact h34
    have q2:((s[k].toNat :Int)==92)=false:=by rw[zah];exact h92
    go_wp2_with fail;refine(H2.out.fT s[k] (by omega)).mono ?_;rintro e w2 ⟨rfl,h2⟩;have H3:Hid _:=h2;clear h2 H2;go_wp2_with fail;go_roundw
    case rel=>exact⟨k+1,o++[s[k]],by omega,by omega,by go_num,by simp;omega,H3.out,qa.out⟩
    case measure=>simp[intOf];omega
  ·have he:Hid (jh s.data.toList a=nW s.data.toList):=by
    show _=_;rw[hT.out,hr.out,show s.data.toList.drop k=[] from zbS (by rw[bR];omega)];rfl
   go_wp2_with fail;refine(uo _ _).mono ?_;rintro e w1 ⟨rfl,hb1⟩;have hb:=H2.out.below.trans (hb1.mono H2.out.below.size);obtain⟨⟨x0,x1,x2,x3,x4,x5,x6⟩,f0,f1,f2,f3,f4,f5,f6⟩:=dt (b:=w.heap.size) hb hblk.out;have HB:Hid (Γ w.heap.size w w1):=hw0.out.trans (hb.mono (by simp));clear hb hb1;unfold bP;go_wp2_with fail;exact zao (v:=bP (nW s.data.toList)) (by simp[results,results169,bP,aH,nW,go_sem, *]) rfl ⟨by rw[he.out],gh HB.out _ _ _ _ _ _ _⟩
theorem Db (s:ByteArray)(a:Nat)(w:Θ)(hs:s.size≤1000000)(ha:a+2≤s.size):Λ prog 198 #[.string s,.int .i64 a] w λe w'=>e=.returned (bP (fM s.data.toList a))∧Γ w.heap.size w w':=by
 have hle:=jC fA (s.data.toList.drop (a+2));rw[zau,bR]at hle;have hT:Hid (fM s.data.toList a=if 1<aT fA (s.data.toList.drop (a+2))then(match nN (dL s.data.toList (a+2) (a+2+aT fA (s.data.toList.drop (a+2))))with|none=>bt a|some k=>{ aH 9 a (a+2+aT fA (s.data.toList.drop (a+2)))with n:=k })else match s.data.toList.drop (a+2)with|[]=>bt a|c::_=>if 33≤c.toNat∧c.toNat≤126 then { aH 9 a (a+3)with n:=(c.toNat:Int) } else bt a):=rfl;generalize hk:aT fA (s.data.toList.drop (a+2))=k at *;have HK:Hid _:=hk;clear hk;by_cases h1:1<k
 ·have Ps:Hid ((s.extract (a+2) (a+2+k)).data.toList=dL s.data.toList (a+2) (a+2+k)):=oJ _ _ _;cases hc:nN (dL s.data.toList (a+2) (a+2+k))with
  |none=>
   have e:Hid (fM s.data.toList a=bt a):=by show _=_;rw[hT.out,zab h1,hc]
   clear hT;go_enter func198,ntmps198;go_wp2_with (go_at_call 148;refine(gM _ _ _ (by unfold Δ;omega) (by omega) (by omega)).mono ?_;rintro e w' ⟨rfl,rfl⟩;rw[show((a:Int)+2).toNat=a+2 by omega,HK.out]);refine(yn _ _).mono ?_;rw[Ps.out,hc];rintro e w' ⟨rfl,rfl⟩;go_wp2_with fail;refine(jy _ _).mono ?_;rintro e w1 ⟨rfl,hb⟩;obtain⟨⟨x0,x1,x2,x3,x4,x5,x6⟩,f0,f1,f2,f3,f4,f5,f6⟩:=dt (b:=w.heap.size) hb (zav w _);have HB:Hid (Γ w.heap.size w w1):=((zad _ w).alloc (zac _) _).trans (hb.mono (by simp));clear hb;unfold bP;go_wp2_with fail;exact zao (v:=bP (bt a)) (by simp[results,results198,bP,aH,bt,go_sem, *]) rfl ⟨by rw[e.out],gh HB.out _ _ _ _ _ _ _⟩
  |some n=>
   have e:Hid (fM s.data.toList a={ aH 9 a (a+2+k)with n:=n }):=by show _=_;rw[hT.out,zab h1,hc]
   clear hT;go_enter func198,ntmps198;go_wp2_with (go_at_call 148;refine(gM _ _ _ (by unfold Δ;omega) (by omega) (by omega)).mono ?_;rintro e w' ⟨rfl,rfl⟩;rw[show((a:Int)+2).toNat=a+2 by omega,HK.out]);refine(yn _ _).mono ?_;rw[Ps.out,hc];rintro e w' ⟨rfl,rfl⟩;go_wp2_with fail;refine zao (v:=bP { aH 9 a (a+2+k)with n:=n }) (by simp[results,results198,bP,aH,go_sem]) rfl ⟨by rw[e.out],?_⟩
   (repeat (first|with_reducible refine zaG ?_ (by simp) _|with_reducible refine zaH ?_ (by simp) _));with_reducible exact zad _ _
 by_cases hlt:a+2<s.size
 ·have hd:=drop_cons s (a+2) hlt;have hwr:wrap64 (s[a+2].toNat :Int)=(s[a+2].toNat :Int):=by have:=s[a+2].toNat_lt;unfold wrap64;omega
  by_cases hp:33≤(s[a+2].toNat :Int)∧(s[a+2].toNat :Int)≤126
  ·have e:Hid (fM s.data.toList a={ aH 9 a (a+3)with n:=(s[a+2].toNat :Int) }):=by show _=_;rw[hT.out,zaa h1,hd];exact zab ⟨by omega,by omega⟩
   have wN:Hid (decide (33≤(s[a+2].toNat :Int)∧(s[a+2].toNat :Int)≤126)=true):=zaY hp;clear hT hd hp;go_enter func198,ntmps198;go_wp2_with (go_at_call 148;refine(gM _ _ _ (by unfold Δ;omega) (by omega) (by omega)).mono ?_;rintro e w' ⟨rfl,rfl⟩;rw[show((a:Int)+2).toNat=a+2 by omega,HK.out]);refine(lU _ _).mono ?_;rw[wN.out];rintro e w' ⟨rfl,rfl⟩;go_wp2_with fail;refine zao (v:=bP { aH 9 a (a+3)with n:=(s[a+2].toNat :Int) }) (by simp[results,results198,bP,aH,go_sem];try omega) rfl ⟨by rw[e.out],?_⟩
   (repeat (first|with_reducible refine zaG ?_ (by simp) _|with_reducible refine zaH ?_ (by simp) _));with_reducible exact zad _ _
  ·have e:Hid (fM s.data.toList a=bt a):=by show _=_;rw[hT.out,zaa h1,hd];exact zaa (by omega)
   have wN:Hid (decide (33≤(s[a+2].toNat :Int)∧(s[a+2].toNat :Int)≤126)=false):=zaS hp;clear hT hd hp;go_enter func198,ntmps198;go_wp2_with (go_at_call 148;refine(gM _ _ _ (by unfold Δ;omega) (by omega) (by omega)).mono ?_;rintro e w' ⟨rfl,rfl⟩;rw[show((a:Int)+2).toNat=a+2 by omega,HK.out]);refine(lU _ _).mono ?_;rw[wN.out];rintro e w' ⟨rfl,rfl⟩;go_wp2_with fail;refine(jy _ _).mono ?_;rintro e w1 ⟨rfl,hb⟩;obtain⟨⟨x0,x1,x2,x3,x4,x5,x6⟩,f0,f1,f2,f3,f4,f5,f6⟩:=dt (b:=w.heap.size) hb (zav w _);have HB:Hid (Γ w.heap.size w w1):=((zad _ w).alloc (zac _) _).trans (hb.mono (by simp));clear hb;unfold bP;go_wp2_with fail;exact zao (v:=bP (bt a)) (by simp[results,results198,bP,aH,bt,go_sem, *]) rfl ⟨by rw[e.out],gh HB.out _ _ _ _ _ _ _⟩
 ·have hd:s.data.toList.drop (a+2)=[]:=zbS (by rw[bR];omega);have e:Hid (fM s.data.toList a=bt a):=by show _=_;rw[hT.out,zaa h1,hd]
  clear hT hd;go_enter func198,ntmps198;go_wp2_with (go_at_call 148;refine(gM _ _ _ (by unfold Δ;omega) (by omega) (by omega)).mono ?_;rintro e w' ⟨rfl,rfl⟩;rw[show((a:Int)+2).toNat=a+2 by omega,HK.out]);refine(jy _ _).mono ?_;rintro e w1 ⟨rfl,hb⟩;obtain⟨⟨x0,x1,x2,x3,x4,x5,x6⟩,f0,f1,f2,f3,f4,f5,f6⟩:=dt (b:=w.heap.size) hb (zav w _);have HB:Hid (Γ w.heap.size w w1):=((zad _ w).alloc (zac _) _).trans (hb.mono (by simp));clear hb;unfold bP;go_wp2_with fail;exact zao (v:=bP (bt a)) (by simp[results,results198,bP,aH,bt,go_sem, *]) rfl ⟨by rw[e.out],gh HB.out _ _ _ _ _ _ _⟩
theorem Iu {s:ByteArray}{a:Nat}(h:∀c r,s.data.toList.drop (a+1)=c::r→¬c.toNat=40∧¬c.toNat=59∧¬c.toNat=92):ed s.data.toList a=(bZ s.data.toList a).getD (bW s.data.toList a):=by
 unfold ed;split
 ·rfl
 ·rename_i c r hd;obtain⟨h1,h2,h3⟩:=h c r hd;rw[zaa h1,zaa h2,zaa h3]
theorem Dc (s:ByteArray)(a:Nat)(w:Θ)(hs:s.size≤1000000)(ha:a<s.size):Λ prog 170 #[.string s,.int .i64 a] w λe w'=>e=.returned (bP (ed s.data.toList a))∧Γ w.heap.size w w':=by
 by_cases hlt:a+1<s.size
 ·have hd:=drop_cons s (a+1) hlt;have hT:Hid (ed s.data.toList a=if s[a+1].toNat=40 then aH 5 a (a+2)else if s[a+1].toNat=59 then aH 6 a (a+2)else if s[a+1].toNat=92 then fM s.data.toList a else(bZ s.data.toList a).getD (bW s.data.toList a)):=by
   show _=_;unfold ed;rw[hd]
  clear hd;by_cases h40:(s[a+1].toNat :Int)=40
  ·have e:Hid (ed s.data.toList a=aH 5 a (a+2)):=by show _=_;rw[hT.out,zab (by omega)]
   go_enter func170,ntmps170;go_wp2_with fail;refine zao (v:=bP (aH 5 a (a+2))) (by simp[results,results170,bP,aH,go_sem]) rfl ⟨by rw[e.out],?_⟩
   (repeat (first|with_reducible refine zaG ?_ (by simp) _|with_reducible refine zaH ?_ (by simp) _));with_reducible exact zad _ _
  have q1:((s[a+1].toNat :Int)==40)=false:=by rw[zah];exact h40
  by_cases Uh:(s[a+1].toNat :Int)=59
  ·have e:Hid (ed s.data.toList a=aH 6 a (a+2)):=by show _=_;rw[hT.out,zaa (by omega),zab (by omega)]
   clear q1;go_enter func170,ntmps170;go_wp2_with fail;refine zao (v:=bP (aH 6 a (a+2))) (by simp[results,results170,bP,aH,go_sem]) rfl ⟨by rw[e.out],?_⟩
   (repeat (first|with_reducible refine zaG ?_ (by simp) _|with_reducible refine zaH ?_ (by simp) _));with_reducible exact zad _ _
  have q2:((s[a+1].toNat :Int)==59)=false:=by rw[zah];exact Uh
  by_cases h92:(s[a+1].toNat :Int)=92
  ·have e:Hid (ed s.data.toList a=fM s.data.toList a):=by show _=_;rw[hT.out,zaa (by omega),zaa (by omega),zab (by omega)]
   clear q1 q2;go_enter func170,ntmps170;go_wp2_with fail;refine(Db _ _ _ hs (by omega)).mono ?_;rintro e w1 ⟨rfl,hb⟩;obtain⟨⟨x0,x1,x2,x3,x4,x5,x6⟩,f0,f1,f2,f3,f4,f5,f6⟩:=dt (b:=w.heap.size) hb (zav w _);have HB:Hid (Γ w.heap.size w w1):=((zad _ w).alloc (zac _) _).trans (hb.mono (by simp));clear hb;unfold bP;go_wp2_with fail;exact zao (v:=bP (fM s.data.toList a)) (by simp[results,results170,bP,go_sem, *]) rfl ⟨by rw[e.out],gh HB.out _ _ _ _ _ _ _⟩
  have q3:((s[a+1].toNat :Int)==92)=false:=by rw[zah];exact h92
  have e0:Hid (ed s.data.toList a=(bZ s.data.toList a).getD (bW s.data.toList a)):=by show _=_;rw[hT.out,zaa (by omega),zaa (by omega),zaa (by omega)]
  clear hT h40 Uh h92;cases hl:bZ s.data.toList a with
  |some t=>
   have e:Hid (ed s.data.toList a=t):=by show _=_;rw[e0.out,hl];rfl
   have hl':Hid _:=hl;clear hl e0;go_enter func170,ntmps170;go_wp2_with fail;refine(lV _ _ _ hs (by omega)).mono ?_;rw[hl'.out];rintro e w1 ⟨rfl,hb⟩;obtain⟨⟨x0,x1,x2,x3,x4,x5,x6⟩,f0,f1,f2,f3,f4,f5,f6⟩:=dt (b:=w.heap.size) hb (zav w _);have HB:Hid (Γ w.heap.size w w1):=((zad _ w).alloc (zac _) _).trans (hb.mono (by simp));have hs1:w.heap.size<w1.heap.size:=by have:=hb.size;simp at this;omega
   have Yw:¬w.heap.size=w1.heap.size:=by omega
   have wJ:¬w1.heap.size=w.heap.size:=by omega
   clear hb;simp only[zbg,Option.isSome_some];unfold bP;go_wp2_with fail;refine zao (v:=bP t) (by simp[results,results170,bP,go_sem, *]) rfl ⟨by rw[e.out],?_⟩
   (repeat (first|with_reducible refine zaG ?_ (by first|(simp;done)|(simp;omega)) _|with_reducible refine zaH ?_ (by first|omega|(simp;done)|(simp;omega)) _));with_reducible exact HB.out
  |none=>
   have e:Hid (ed s.data.toList a=bW s.data.toList a):=by show _=_;rw[e0.out,hl];rfl
   have hl':Hid _:=hl;clear hl e0;go_enter func170,ntmps170;go_wp2_with fail;refine(lV _ _ _ hs (by omega)).mono ?_;rw[hl'.out];rintro e w1 ⟨rfl,hb⟩;have pM:Hid _:=(hb.block w.heap.size (by simp)).trans (zav w _);have HB:Hid (Γ w.heap.size w w1):=((zad _ w).alloc (zac _) _).trans (hb.mono (by simp));have hs1:w.heap.size<w1.heap.size:=by have:=hb.size;simp at this;omega
   clear hb;simp only[zbH,Option.isSome_none];unfold bP yw;go_wp2_with fail;refine(qE _ _ _ hs (by omega)).mono ?_;rintro e w2 ⟨rfl,hb2⟩;obtain⟨⟨x0,x1,x2,x3,x4,x5,x6⟩,f0,f1,f2,f3,f4,f5,f6⟩:=dt (b:=w.heap.size) hb2 ((zaT _ _ _ hs1).trans pM.out);have iB:Hid (Γ w.heap.size w w2):=(HB.out.alloc (by omega) _).trans (hb2.mono (by simp;omega));clear hb2;unfold bP;go_wp2_with fail;exact zao (v:=bP (bW s.data.toList a)) (by simp[results,results170,bP,go_sem, *]) rfl ⟨by rw[e.out],gh iB.out _ _ _ _ _ _ _⟩
 ·have e0:Hid (ed s.data.toList a=(bZ s.data.toList a).getD (bW s.data.toList a)):=Iu λc r h=>by
   have:=zak List.length h;rw[zau,bR]at this;simp at this;omega
  cases hl:bZ s.data.toList a with
  |some t=>
   exfalso;unfold bZ at hl;simp only[show s.data.toList.drop (a+1)=[] from zbS (by rw[bR];omega),aT]at hl;simp at hl
  |none=>
   have e:Hid (ed s.data.toList a=bW s.data.toList a):=by show _=_;rw[e0.out,hl];rfl
   have hl':Hid _:=hl;clear hl e0;go_enter func170,ntmps170;go_wp2_with fail;refine(lV _ _ _ hs (by omega)).mono ?_;rw[hl'.out];rintro e w1 ⟨rfl,hb⟩;have pM:Hid _:=(hb.block w.heap.size (by simp)).trans (zav w _);have HB:Hid (Γ w.heap.size w w1):=((zad _ w).alloc (zac _) _).trans (hb.mono (by simp));have hs1:w.heap.size<w1.heap.size:=by have:=hb.size;simp at this;omega
   clear hb;simp only[zbH,Option.isSome_none];unfold bP yw;go_wp2_with fail;refine(qE _ _ _ hs (by omega)).mono ?_;rintro e w2 ⟨rfl,hb2⟩;obtain⟨⟨x0,x1,x2,x3,x4,x5,x6⟩,f0,f1,f2,f3,f4,f5,f6⟩:=dt (b:=w.heap.size) hb2 ((zaT _ _ _ hs1).trans pM.out);have iB:Hid (Γ w.heap.size w w2):=(HB.out.alloc (by omega) _).trans (hb2.mono (by simp;omega));clear hb2;unfold bP;go_wp2_with fail;exact zao (v:=bP (bW s.data.toList a)) (by simp[results,results170,bP,go_sem, *]) rfl ⟨by rw[e.out],gh iB.out _ _ _ _ _ _ _⟩
theorem PQ (s:ByteArray)(a:Nat)(w:Θ)(hs:s.size≤1000000)(ha:a≤s.size):Λ prog 120 #[.string s,.int .i64 a] w λe w'=>e=.returned (bP (aR s.data.toList a))∧Γ w.heap.size w w':=by
 have hsk:=EW (s:=s.data.toList) (a:=a) (by rw[bR];exact ha);rw[bR]at hsk;have hT:Hid (aR s.data.toList a=cM s.data.toList (jg s.data.toList a)):=rfl;have G0:Hid ((a:Int)+(u7 true (s.data.toList.drop a)).1=(jg s.data.toList a:Nat)):=by
  show _=_;unfold jg u7;omega
 obtain⟨b,hk⟩:∃b,Hid (u7 true (s.data.toList.drop a)=(jg s.data.toList a-a,b)):=⟨(u7 true (s.data.toList.drop a)).2,by
  show _=_;have:=G0.out;apply Prod.ext
  ·show(u7 true (s.data.toList.drop a)).1=_;omega
  ·rfl⟩
 generalize jg s.data.toList a=k at *;clear G0;have hka:((a:Int)+((k-a:Nat):Int))=k:=by omega
 by_cases hlt:k<s.size
 ·have hd:=drop_cons s k hlt;have Ah:Hid (aR s.data.toList a=if s[k].toNat=40 then aH 2 k (k+1)else if s[k].toNat=41 then aH 3 k (k+1)else if s[k].toNat=39 then aH 4 k (k+1)else if s[k].toNat=34 then jh s.data.toList k else if s[k].toNat=35 then ed s.data.toList k else if bq (s[k].toNat :Int)then fN s.data.toList k else bt k):=by
   show _=_;rw[hT.out];unfold cM;rw[hd]
  clear hT hd;have qe:((k:Int)==(s.size:Int))=false:=by rw[zah];omega
  by_cases h40:(s[k].toNat :Int)=40
  ·have e:Hid (aR s.data.toList a=aH 2 k (k+1)):=by show _=_;rw[Ah.out,zab (by omega)]
   clear Ah;go_enter func120,ntmps120;go_wp2_with fail;refine(jK _ _ _ hs ha).mono ?_;rw[hk.out];rintro e w' ⟨rfl,rfl⟩;go_wp2_with fail;refine zao (v:=bP (aH 2 k (k+1))) (by simp[results,results120,bP,aH,go_sem]) rfl ⟨by rw[e.out],?_⟩
   (repeat (first|with_reducible refine zaG ?_ (by simp) _|with_reducible refine zaH ?_ (by simp) _));with_reducible exact zad _ _
  have q40:((s[k].toNat :Int)==40)=false:=by rw[zah];exact h40
  by_cases h41:(s[k].toNat :Int)=41
  ·have e:Hid (aR s.data.toList a=aH 3 k (k+1)):=by show _=_;rw[Ah.out,zaa (by omega),zab (by omega)]
   clear Ah;clear q40;go_enter func120,ntmps120;go_wp2_with fail;refine(jK _ _ _ hs ha).mono ?_;rw[hk.out];rintro e w' ⟨rfl,rfl⟩;go_wp2_with fail;refine zao (v:=bP (aH 3 k (k+1))) (by simp[results,results120,bP,aH,go_sem]) rfl ⟨by rw[e.out],?_⟩
   (repeat (first|with_reducible refine zaG ?_ (by simp) _|with_reducible refine zaH ?_ (by simp) _));with_reducible exact zad _ _
  have q41:((s[k].toNat :Int)==41)=false:=by rw[zah];exact h41
  by_cases h39:(s[k].toNat :Int)=39
  ·have e:Hid (aR s.data.toList a=aH 4 k (k+1)):=by show _=_;rw[Ah.out,zaa (by omega),zaa (by omega),zab (by omega)]
   clear Ah;clear q40 q41;go_enter func120,ntmps120;go_wp2_with fail;refine(jK _ _ _ hs ha).mono ?_;rw[hk.out];rintro e w' ⟨rfl,rfl⟩;go_wp2_with fail;refine zao (v:=bP (aH 4 k (k+1))) (by simp[results,results120,bP,aH,go_sem]) rfl ⟨by rw[e.out],?_⟩
   (repeat (first|with_reducible refine zaG ?_ (by simp) _|with_reducible refine zaH ?_ (by simp) _));with_reducible exact zad _ _
  have q39:((s[k].toNat :Int)==39)=false:=by rw[zah];exact h39
  by_cases h34:(s[k].toNat :Int)=34
  ·have e:Hid (aR s.data.toList a=jh s.data.toList k):=by show _=_;rw[Ah.out,zaa (by omega),zaa (by omega),zaa (by omega),zab (by omega)]
   clear Ah q40 q41 q39;go_enter func120,ntmps120;go_wp2_with fail;refine(jK _ _ _ hs ha).mono ?_;rw[hk.out];rintro e w' ⟨rfl,rfl⟩;go_wp2_with fail;refine(Da _ _ _ hs hlt).mono ?_;rintro e w1 ⟨rfl,hb⟩;obtain⟨⟨x0,x1,x2,x3,x4,x5,x6⟩,f0,f1,f2,f3,f4,f5,f6⟩:=dt (b:=w.heap.size) hb (zav w _);have HB:Hid (Γ w.heap.size w w1):=((zad _ w).alloc (zac _) _).trans (hb.mono (by simp));clear hb;unfold bP;go_wp2_with fail;exact zao (v:=bP (jh s.data.toList k)) (by simp[results,results120,bP,go_sem, *]) rfl ⟨by rw[e.out],gh HB.out _ _ _ _ _ _ _⟩
  have q34:((s[k].toNat :Int)==34)=false:=by rw[zah];exact h34
  by_cases h35:(s[k].toNat :Int)=35
  ·have e:Hid (aR s.data.toList a=ed s.data.toList k):=by show _=_;rw[Ah.out,zaa (by omega),zaa (by omega),zaa (by omega),zaa (by omega),zab (by omega)]
   clear Ah q40 q41 q39 q34;go_enter func120,ntmps120;go_wp2_with fail;refine(jK _ _ _ hs ha).mono ?_;rw[hk.out];rintro e w' ⟨rfl,rfl⟩;go_wp2_with fail;refine(Dc _ _ _ hs hlt).mono ?_;rintro e w1 ⟨rfl,hb⟩;obtain⟨⟨x0,x1,x2,x3,x4,x5,x6⟩,f0,f1,f2,f3,f4,f5,f6⟩:=dt (b:=w.heap.size) hb (zav w _);have HB:Hid (Γ w.heap.size w w1):=((zad _ w).alloc (zac _) _).trans (hb.mono (by simp));clear hb;unfold bP;go_wp2_with fail;exact zao (v:=bP (ed s.data.toList k)) (by simp[results,results120,bP,go_sem, *]) rfl ⟨by rw[e.out],gh HB.out _ _ _ _ _ _ _⟩
  have q35:((s[k].toNat :Int)==35)=false:=by rw[zah];exact h35
  cases hw:bq (s[k].toNat :Int)
  ·have e:Hid (aR s.data.toList a=bt k):=by show _=_;rw[Ah.out,zaa (by omega),zaa (by omega),zaa (by omega),zaa (by omega),zaa (by omega),hw];rfl
   have hw':Hid _:=hw;clear Ah hw;go_enter func120,ntmps120;go_wp2_with fail;refine(jK _ _ _ hs ha).mono ?_;rw[hk.out];rintro e w' ⟨rfl,rfl⟩;go_wp2_with fail;refine(iQ _ _ (by omega) (by have:=s[k].toNat_lt;omega)).mono ?_;rw[hw'.out];rintro e w' ⟨rfl,rfl⟩;go_wp2_with fail;refine(jy _ _).mono ?_;rintro e w1 ⟨rfl,hb⟩;obtain⟨⟨x0,x1,x2,x3,x4,x5,x6⟩,f0,f1,f2,f3,f4,f5,f6⟩:=dt (b:=w.heap.size) hb (zav w _);have HB:Hid (Γ w.heap.size w w1):=((zad _ w).alloc (zac _) _).trans (hb.mono (by simp));clear hb;unfold bP;go_wp2_with fail;exact zao (v:=bP (bt k)) (by simp[results,results120,bP,go_sem, *]) rfl ⟨by rw[e.out],gh HB.out _ _ _ _ _ _ _⟩
  ·have e:Hid (aR s.data.toList a=fN s.data.toList k):=by show _=_;rw[Ah.out,zaa (by omega),zaa (by omega),zaa (by omega),zaa (by omega),zaa (by omega),hw];rfl
   have hw':Hid _:=hw;clear Ah hw;go_enter func120,ntmps120;go_wp2_with fail;refine(jK _ _ _ hs ha).mono ?_;rw[hk.out];rintro e w' ⟨rfl,rfl⟩;go_wp2_with fail;refine(iQ _ _ (by omega) (by have:=s[k].toNat_lt;omega)).mono ?_;rw[hw'.out];rintro e w' ⟨rfl,rfl⟩;go_wp2_with fail;refine(C7 _ _ _ hs hlt hw'.out).mono ?_;rintro e w1 ⟨rfl,hb⟩;obtain⟨⟨x0,x1,x2,x3,x4,x5,x6⟩,f0,f1,f2,f3,f4,f5,f6⟩:=dt (b:=w.heap.size) hb (zav w _);have HB:Hid (Γ w.heap.size w w1):=((zad _ w).alloc (zac _) _).trans (hb.mono (by simp));clear hb;unfold bP;go_wp2_with fail;exact zao (v:=bP (fN s.data.toList k)) (by simp[results,results120,bP,go_sem, *]) rfl ⟨by rw[e.out],gh HB.out _ _ _ _ _ _ _⟩
 ·have eF:k=s.size:=by omega
  have e:Hid (aR s.data.toList a=nW s.data.toList):=by
   show _=_;rw[hT.out];unfold cM;rw[show s.data.toList.drop k=[] from zbS (by rw[bR];omega)]
  have qe:((k:Int)==(s.size:Int))=true:=by rw[zaJ];omega
  clear hT;go_enter func120,ntmps120;go_wp2_with fail;refine(jK _ _ _ hs ha).mono ?_;rw[hk.out];rintro e w' ⟨rfl,rfl⟩;go_wp2_with fail;refine(uo _ _).mono ?_;rintro e w1 ⟨rfl,hb⟩;obtain⟨⟨x0,x1,x2,x3,x4,x5,x6⟩,f0,f1,f2,f3,f4,f5,f6⟩:=dt (b:=w.heap.size) hb (zav w _);have HB:Hid (Γ w.heap.size w w1):=((zad _ w).alloc (zac _) _).trans (hb.mono (by simp));clear hb;unfold bP;go_wp2_with fail;exact zao (v:=bP (nW s.data.toList)) (by simp[results,results120,bP,go_sem, *]) rfl ⟨by rw[e.out],gh HB.out _ _ _ _ _ _ _⟩
end Go.Proofs.YtlhimdjkkiflhaaGreatDoor
