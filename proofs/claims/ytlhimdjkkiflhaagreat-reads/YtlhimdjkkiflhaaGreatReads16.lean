import Derived.Test.YtlhimdjkkiflhaaGreatReads15
set_option maxHeartbeats 8000000
set_option maxRecDepth 100000
open Go.RowKit renaming Below→Γ
namespace Go.Proofs.YtlhimdjkkiflhaaGreat
open Go.Proofs.Tryz
open Go.RowKit Go.Loop
theorem FP {s:ByteArray}{a:Nat}(h:∀c r,s.data.toList.drop (a+1)=c::r→¬c.toNat=40∧¬c.toNat=59∧¬c.toNat=92):fK s.data.toList a=(dQ s.data.toList a).getD (dA s.data.toList a):=by
 unfold fK;split
 ·rfl
 ·rename_i c r hd;obtain⟨h1,h2,h3⟩:=h c r hd;rw[zaa h1,zaa h2,zaa h3]
theorem Bh (s:ByteArray)(a:Nat)(w:World)(hs:s.size≤1000000)(ha:a<s.size):Calls prog 77 #[.string s,.int .i64 a] w λe w'=>e=.returned (bC (fK s.data.toList a))∧Γ w.heap.size w w':=by
 by_cases hlt:a+1<s.size
 ·have hd:=drop_cons s (a+1) hlt;have hT:Hid (fK s.data.toList a=if s[a+1].toNat=40 then aQ 5 a (a+2)else if s[a+1].toNat=59 then aQ 6 a (a+2)else if s[a+1].toNat=92 then jz s.data.toList a else(dQ s.data.toList a).getD (dA s.data.toList a)):=by
   show _=_;unfold fK;rw[hd]
  clear hd;by_cases Mt:(s[a+1].toNat :Int)=40
  ·have e:Hid (fK s.data.toList a=aQ 5 a (a+2)):=by show _=_;rw[hT.out,zac (by omega)]
   go_enter func77,ntmps77;go_wp2_with fail;refine zak (v:=bC (aQ 5 a (a+2))) (by simp[results,results77,bC,aQ,go_sem]) rfl ⟨by rw[e.out],?_⟩
   (repeat (first|with_reducible refine zaA ?_ (by simp) _|with_reducible refine zaB ?_ (by simp) _));with_reducible exact zad _ _
  have q1:((s[a+1].toNat :Int)==40)=false:=by rw[zao];exact Mt
  by_cases vq:(s[a+1].toNat :Int)=59
  ·have e:Hid (fK s.data.toList a=aQ 6 a (a+2)):=by show _=_;rw[hT.out,zaa (by omega),zac (by omega)]
   clear q1;go_enter func77,ntmps77;go_wp2_with fail;refine zak (v:=bC (aQ 6 a (a+2))) (by simp[results,results77,bC,aQ,go_sem]) rfl ⟨by rw[e.out],?_⟩
   (repeat (first|with_reducible refine zaA ?_ (by simp) _|with_reducible refine zaB ?_ (by simp) _));with_reducible exact zad _ _
  have q2:((s[a+1].toNat :Int)==59)=false:=by rw[zao];exact vq
  by_cases Ms:(s[a+1].toNat :Int)=92
  ·have e:Hid (fK s.data.toList a=jz s.data.toList a):=by show _=_;rw[hT.out,zaa (by omega),zaa (by omega),zac (by omega)]
   clear q1 q2;go_enter func77,ntmps77;go_wp2_with fail;refine(Bf _ _ _ hs (by omega)).mono ?_;rintro e w1 ⟨rfl,hb⟩;obtain⟨⟨x0,x1,x2,x3,x4,x5,x6⟩,f0,f1,f2,f3,f4,f5,f6⟩:=cZ (b:=w.heap.size) hb (zau w _);have HB:Hid (Γ w.heap.size w w1):=((zad _ w).alloc (zab _) _).trans (hb.mono (by simp));clear hb;unfold bC;go_wp2_with fail;exact zak (v:=bC (jz s.data.toList a)) (by simp[results,results77,bC,go_sem, *]) rfl ⟨by rw[e.out],fL HB.out _ _ _ _ _ _ _⟩
  have q3:((s[a+1].toNat :Int)==92)=false:=by rw[zao];exact Ms
  have e0:Hid (fK s.data.toList a=(dQ s.data.toList a).getD (dA s.data.toList a)):=by show _=_;rw[hT.out,zaa (by omega),zaa (by omega),zaa (by omega)]
  clear hT Mt vq Ms;cases hl:dQ s.data.toList a with
  |some t=>
   have e:Hid (fK s.data.toList a=t):=by show _=_;rw[e0.out,hl];rfl
   have hl':Hid _:=hl;clear hl e0;go_enter func77,ntmps77;go_wp2_with fail;refine(lH _ _ _ hs (by omega)).mono ?_;rw[hl'.out];rintro e w1 ⟨rfl,hb⟩;obtain⟨⟨x0,x1,x2,x3,x4,x5,x6⟩,f0,f1,f2,f3,f4,f5,f6⟩:=cZ (b:=w.heap.size) hb (zau w _);have HB:Hid (Γ w.heap.size w w1):=((zad _ w).alloc (zab _) _).trans (hb.mono (by simp));have hs1:w.heap.size<w1.heap.size:=by have:=hb.size;simp at this;omega
   have Tt:¬w.heap.size=w1.heap.size:=by omega
   have Ov:¬w1.heap.size=w.heap.size:=by omega
   clear hb;simp only[zbw,Option.isSome_some];unfold bC;go_wp2_with fail;refine zak (v:=bC t) (by simp[results,results77,bC,go_sem, *]) rfl ⟨by rw[e.out],?_⟩
   (repeat (first|with_reducible refine zaA ?_ (by first|(simp;done)|(simp;omega)) _|with_reducible refine zaB ?_ (by first|omega|(simp;done)|(simp;omega)) _));with_reducible exact HB.out
  |none=>
   have e:Hid (fK s.data.toList a=dA s.data.toList a):=by show _=_;rw[e0.out,hl];rfl
   have hl':Hid _:=hl;clear hl e0;go_enter func77,ntmps77;go_wp2_with fail;refine(lH _ _ _ hs (by omega)).mono ?_;rw[hl'.out];rintro e w1 ⟨rfl,hb⟩;have oX:Hid _:=(hb.block w.heap.size (by simp)).trans (zau w _);have HB:Hid (Γ w.heap.size w w1):=((zad _ w).alloc (zab _) _).trans (hb.mono (by simp));have hs1:w.heap.size<w1.heap.size:=by have:=hb.size;simp at this;omega
   clear hb;simp only[zbH,Option.isSome_none];unfold bC xj;go_wp2_with fail;refine(pR _ _ _ hs (by omega)).mono ?_;rintro e w2 ⟨rfl,hb2⟩;obtain⟨⟨x0,x1,x2,x3,x4,x5,x6⟩,f0,f1,f2,f3,f4,f5,f6⟩:=cZ (b:=w.heap.size) hb2 ((zaK _ _ _ hs1).trans oX.out);have pS:Hid (Γ w.heap.size w w2):=(HB.out.alloc (by omega) _).trans (hb2.mono (by simp;omega));clear hb2;unfold bC;go_wp2_with fail;exact zak (v:=bC (dA s.data.toList a)) (by simp[results,results77,bC,go_sem, *]) rfl ⟨by rw[e.out],fL pS.out _ _ _ _ _ _ _⟩
 ·have e0:Hid (fK s.data.toList a=(dQ s.data.toList a).getD (dA s.data.toList a)):=FP λc r h=>by
   have:=zal List.length h;rw[zan,bF]at this;simp at this;omega
  cases hl:dQ s.data.toList a with
  |some t=>
   exfalso;unfold dQ at hl;simp only[show s.data.toList.drop (a+1)=[] from zaW (by rw[bF];omega),au]at hl;simp at hl
  |none=>
   have e:Hid (fK s.data.toList a=dA s.data.toList a):=by show _=_;rw[e0.out,hl];rfl
   have hl':Hid _:=hl;clear hl e0;go_enter func77,ntmps77;go_wp2_with fail;refine(lH _ _ _ hs (by omega)).mono ?_;rw[hl'.out];rintro e w1 ⟨rfl,hb⟩;have oX:Hid _:=(hb.block w.heap.size (by simp)).trans (zau w _);have HB:Hid (Γ w.heap.size w w1):=((zad _ w).alloc (zab _) _).trans (hb.mono (by simp));have hs1:w.heap.size<w1.heap.size:=by have:=hb.size;simp at this;omega
   clear hb;simp only[zbH,Option.isSome_none];unfold bC xj;go_wp2_with fail;refine(pR _ _ _ hs (by omega)).mono ?_;rintro e w2 ⟨rfl,hb2⟩;obtain⟨⟨x0,x1,x2,x3,x4,x5,x6⟩,f0,f1,f2,f3,f4,f5,f6⟩:=cZ (b:=w.heap.size) hb2 ((zaK _ _ _ hs1).trans oX.out);have pS:Hid (Γ w.heap.size w w2):=(HB.out.alloc (by omega) _).trans (hb2.mono (by simp;omega));clear hb2;unfold bC;go_wp2_with fail;exact zak (v:=bC (dA s.data.toList a)) (by simp[results,results77,bC,go_sem, *]) rfl ⟨by rw[e.out],fL pS.out _ _ _ _ _ _ _⟩
theorem Mu (s:ByteArray)(a:Nat)(w:World)(hs:s.size≤1000000)(ha:a≤s.size):Calls prog 47 #[.string s,.int .i64 a] w λe w'=>e=.returned (bC (aO s.data.toList a))∧Γ w.heap.size w w':=by
 have hsk:=CV (s:=s.data.toList) (a:=a) (by rw[bF];exact ha);rw[bF]at hsk;have hT:Hid (aO s.data.toList a=pP s.data.toList (mW s.data.toList a)):=rfl;have Jt:Hid ((a:Int)+(sF true (s.data.toList.drop a)).1=(mW s.data.toList a:Nat)):=by
  show _=_;unfold mW sF;omega
 obtain⟨b,hk⟩:∃b,Hid (sF true (s.data.toList.drop a)=(mW s.data.toList a-a,b)):=⟨(sF true (s.data.toList.drop a)).2,by
  show _=_;have:=Jt.out;apply Prod.ext
  ·show(sF true (s.data.toList.drop a)).1=_;omega
  ·rfl⟩
 generalize mW s.data.toList a=k at *;clear Jt;have hka:((a:Int)+((k-a:Nat):Int))=k:=by omega
 by_cases hlt:k<s.size
 ·have hd:=drop_cons s k hlt;have qY:Hid (aO s.data.toList a=if s[k].toNat=40 then aQ 2 k (k+1)else if s[k].toNat=41 then aQ 3 k (k+1)else if s[k].toNat=39 then aQ 4 k (k+1)else if s[k].toNat=34 then j0 s.data.toList k else if s[k].toNat=35 then fK s.data.toList k else if aX (s[k].toNat :Int)then jA s.data.toList k else bG k):=by
   show _=_;rw[hT.out];unfold pP;rw[hd]
  clear hT hd;have qe:((k:Int)==(s.size:Int))=false:=by rw[zao];omega
  by_cases Mt:(s[k].toNat :Int)=40
  ·have e:Hid (aO s.data.toList a=aQ 2 k (k+1)):=by show _=_;rw[qY.out,zac (by omega)]
   clear qY;go_enter func47,ntmps47;go_wp2_with fail;refine(jD _ _ _ hs ha).mono ?_;rw[hk.out];rintro e w' ⟨rfl,rfl⟩;go_wp2_with fail;refine zak (v:=bC (aQ 2 k (k+1))) (by simp[results,results47,bC,aQ,go_sem]) rfl ⟨by rw[e.out],?_⟩
   (repeat (first|with_reducible refine zaA ?_ (by simp) _|with_reducible refine zaB ?_ (by simp) _));with_reducible exact zad _ _
  have q40:((s[k].toNat :Int)==40)=false:=by rw[zao];exact Mt
  by_cases uQ:(s[k].toNat :Int)=41
  ·have e:Hid (aO s.data.toList a=aQ 3 k (k+1)):=by show _=_;rw[qY.out,zaa (by omega),zac (by omega)]
   clear qY;clear q40;go_enter func47,ntmps47;go_wp2_with fail;refine(jD _ _ _ hs ha).mono ?_;rw[hk.out];rintro e w' ⟨rfl,rfl⟩;go_wp2_with fail;refine zak (v:=bC (aQ 3 k (k+1))) (by simp[results,results47,bC,aQ,go_sem]) rfl ⟨by rw[e.out],?_⟩
   (repeat (first|with_reducible refine zaA ?_ (by simp) _|with_reducible refine zaB ?_ (by simp) _));with_reducible exact zad _ _
  have q41:((s[k].toNat :Int)==41)=false:=by rw[zao];exact uQ
  by_cases h39:(s[k].toNat :Int)=39
  ·have e:Hid (aO s.data.toList a=aQ 4 k (k+1)):=by show _=_;rw[qY.out,zaa (by omega),zaa (by omega),zac (by omega)]
   clear qY;clear q40 q41;go_enter func47,ntmps47;go_wp2_with fail;refine(jD _ _ _ hs ha).mono ?_;rw[hk.out];rintro e w' ⟨rfl,rfl⟩;go_wp2_with fail;refine zak (v:=bC (aQ 4 k (k+1))) (by simp[results,results47,bC,aQ,go_sem]) rfl ⟨by rw[e.out],?_⟩
   (repeat (first|with_reducible refine zaA ?_ (by simp) _|with_reducible refine zaB ?_ (by simp) _));with_reducible exact zad _ _
  have q39:((s[k].toNat :Int)==39)=false:=by rw[zao];exact h39
  by_cases KH:(s[k].toNat :Int)=34
  ·have e:Hid (aO s.data.toList a=j0 s.data.toList k):=by show _=_;rw[qY.out,zaa (by omega),zaa (by omega),zaa (by omega),zac (by omega)]
   clear qY q40 q41 q39;go_enter func47,ntmps47;go_wp2_with fail;refine(jD _ _ _ hs ha).mono ?_;rw[hk.out];rintro e w' ⟨rfl,rfl⟩;go_wp2_with fail;refine(Be _ _ _ hs hlt).mono ?_;rintro e w1 ⟨rfl,hb⟩;obtain⟨⟨x0,x1,x2,x3,x4,x5,x6⟩,f0,f1,f2,f3,f4,f5,f6⟩:=cZ (b:=w.heap.size) hb (zau w _);have HB:Hid (Γ w.heap.size w w1):=((zad _ w).alloc (zab _) _).trans (hb.mono (by simp));clear hb;unfold bC;go_wp2_with fail;exact zak (v:=bC (j0 s.data.toList k)) (by simp[results,results47,bC,go_sem, *]) rfl ⟨by rw[e.out],fL HB.out _ _ _ _ _ _ _⟩
  have q34:((s[k].toNat :Int)==34)=false:=by rw[zao];exact KH
  by_cases Yk:(s[k].toNat :Int)=35
  ·have e:Hid (aO s.data.toList a=fK s.data.toList k):=by show _=_;rw[qY.out,zaa (by omega),zaa (by omega),zaa (by omega),zaa (by omega),zac (by omega)]
   clear qY q40 q41 q39 q34;go_enter func47,ntmps47;go_wp2_with fail;refine(jD _ _ _ hs ha).mono ?_;rw[hk.out];rintro e w' ⟨rfl,rfl⟩;go_wp2_with fail;refine(Bh _ _ _ hs hlt).mono ?_;rintro e w1 ⟨rfl,hb⟩;obtain⟨⟨x0,x1,x2,x3,x4,x5,x6⟩,f0,f1,f2,f3,f4,f5,f6⟩:=cZ (b:=w.heap.size) hb (zau w _);have HB:Hid (Γ w.heap.size w w1):=((zad _ w).alloc (zab _) _).trans (hb.mono (by simp));clear hb;unfold bC;go_wp2_with fail;exact zak (v:=bC (fK s.data.toList k)) (by simp[results,results47,bC,go_sem, *]) rfl ⟨by rw[e.out],fL HB.out _ _ _ _ _ _ _⟩
  have q35:((s[k].toNat :Int)==35)=false:=by rw[zao];exact Yk
  cases hw:aX (s[k].toNat :Int)
  ·have e:Hid (aO s.data.toList a=bG k):=by show _=_;rw[qY.out,zaa (by omega),zaa (by omega),zaa (by omega),zaa (by omega),zaa (by omega),hw];rfl
   have hw':Hid _:=hw;clear qY hw;go_enter func47,ntmps47;go_wp2_with fail;refine(jD _ _ _ hs ha).mono ?_;rw[hk.out];rintro e w' ⟨rfl,rfl⟩;go_wp2_with fail;refine(iE _ _ (by omega) (by have:=s[k].toNat_lt;omega)).mono ?_;rw[hw'.out];rintro e w' ⟨rfl,rfl⟩;go_wp2_with fail;refine(jh _ _).mono ?_;rintro e w1 ⟨rfl,hb⟩;obtain⟨⟨x0,x1,x2,x3,x4,x5,x6⟩,f0,f1,f2,f3,f4,f5,f6⟩:=cZ (b:=w.heap.size) hb (zau w _);have HB:Hid (Γ w.heap.size w w1):=((zad _ w).alloc (zab _) _).trans (hb.mono (by simp));clear hb;unfold bC;go_wp2_with fail;exact zak (v:=bC (bG k)) (by simp[results,results47,bC,go_sem, *]) rfl ⟨by rw[e.out],fL HB.out _ _ _ _ _ _ _⟩
  ·have e:Hid (aO s.data.toList a=jA s.data.toList k):=by show _=_;rw[qY.out,zaa (by omega),zaa (by omega),zaa (by omega),zaa (by omega),zaa (by omega),hw];rfl
   have hw':Hid _:=hw;clear qY hw;go_enter func47,ntmps47;go_wp2_with fail;refine(jD _ _ _ hs ha).mono ?_;rw[hk.out];rintro e w' ⟨rfl,rfl⟩;go_wp2_with fail;refine(iE _ _ (by omega) (by have:=s[k].toNat_lt;omega)).mono ?_;rw[hw'.out];rintro e w' ⟨rfl,rfl⟩;go_wp2_with fail;refine(Bc _ _ _ hs hlt hw'.out).mono ?_;rintro e w1 ⟨rfl,hb⟩;obtain⟨⟨x0,x1,x2,x3,x4,x5,x6⟩,f0,f1,f2,f3,f4,f5,f6⟩:=cZ (b:=w.heap.size) hb (zau w _);have HB:Hid (Γ w.heap.size w w1):=((zad _ w).alloc (zab _) _).trans (hb.mono (by simp));clear hb;unfold bC;go_wp2_with fail;exact zak (v:=bC (jA s.data.toList k)) (by simp[results,results47,bC,go_sem, *]) rfl ⟨by rw[e.out],fL HB.out _ _ _ _ _ _ _⟩
 ·have kX:k=s.size:=by omega
  have e:Hid (aO s.data.toList a=nQ s.data.toList):=by
   show _=_;rw[hT.out];unfold pP;rw[show s.data.toList.drop k=[] from zaW (by rw[bF];omega)]
  have qe:((k:Int)==(s.size:Int))=true:=by rw[zbs];omega
  clear hT;go_enter func47,ntmps47;go_wp2_with fail;refine(jD _ _ _ hs ha).mono ?_;rw[hk.out];rintro e w' ⟨rfl,rfl⟩;go_wp2_with fail;refine(tF _ _).mono ?_;rintro e w1 ⟨rfl,hb⟩;obtain⟨⟨x0,x1,x2,x3,x4,x5,x6⟩,f0,f1,f2,f3,f4,f5,f6⟩:=cZ (b:=w.heap.size) hb (zau w _);have HB:Hid (Γ w.heap.size w w1):=((zad _ w).alloc (zab _) _).trans (hb.mono (by simp));clear hb;unfold bC;go_wp2_with fail;exact zak (v:=bC (nQ s.data.toList)) (by simp[results,results47,bC,go_sem, *]) rfl ⟨by rw[e.out],fL HB.out _ _ _ _ _ _ _⟩
end Go.Proofs.YtlhimdjkkiflhaaGreat
