import Derived.Test.YtlhimdjkkiflhaaGreatDoorKnown09
import Derived.Test.YtlhimdjkkiflhaaGreatDoorKnown18
set_option maxHeartbeats 8000000
set_option maxRecDepth 100000
namespace Go.Proofs.YtlhimdjkkiflhaaGreatDoor
open Go.Proofs.Tryz
open Go.RowKit Go.Loop
theorem yD {w:World}{b:Nat}(hb:w.heap[b]?=some (.cells #[.pointer none,.slice none 0 0] 116 (0,0))):Calls prog 63 #[.pointer (some ⟨b,0,none⟩)] w λe w'=>e=.returned (.string ⟨#[]⟩)∧w'=w.drew:=by
 have c1:w.drew.cell? ⟨b,1,none⟩=some (.slice none 0 0):=by
  have:w.drew.heap[b]?=some (.cells #[.pointer none,.slice none 0 0] 116 (0,0)):=hb;simp[World.cell?,this]
 have hSD:(Builtin.unsafeSliceData_ #[80] 190 #[.slice none 0 0]).run prog w.drew=.ok (.pointer none) w.drew:=Lib.run_unsafeSliceData_nil _ _ _ _ _;have hUS:(Builtin.unsafeString_ #[190,3] 9 #[.pointer none,.int .i64 0]).run prog w.drew=.ok (.string ⟨#[]⟩) w.drew:=
  Lib.run_unsafeString_none _ _ _ _ _
 clear hb;go_enter func63,ntmps63
 go_wp2
 go_region;all_goals (go_wp2;go_ret;exact⟨rfl,rfl⟩)
def LO (W w:World)(N:Nat)(l:List UInt8):Prop:=N=W.heap.size∧∃cs v,cs.size=2∧eP w 116 0 N N cs v (Lib.byteCells l)∧Below N W w∧(l=[]→cs=#[.pointer none,.slice none 0 0])
theorem LO.start (W:World):LO W (W.alloc (.cells #[.pointer none,.slice none 0 0] 116)) W.heap.size []:=
 ⟨rfl,_,_,rfl,⟨zaa _,heap_alloc_new W _,Or.inl rfl,rfl,World.ownsRow_nil _ _ _ _⟩,(Below.refl _ _).alloc (zaa _) _,λ_=>rfl⟩
theorem LO.ft {W w:World}{N:Nat}{l:List UInt8}(h:LO W w N l)(c:UInt8)(hl:l.length≤2000000):Calls prog 191 #[.pointer (some ⟨N,0,none⟩),.int .u8 c.toNat] w λe w'=>e=.returned .nilIface∧LO W w' N (l++[c]):=by
 obtain⟨rfl,cs,v,hs,hb,hw,_⟩:=h;have hsz:=hw.size;refine(pG (hs▸wW) (by decide) hb c.toNat (by rw[Lib.byteCells_length];omega) hsz).mono ?_;rintro e w' ⟨rfl,v',h1,h2⟩;refine⟨rfl,rfl,_,v',?_,by rw[Lib.byteCells_append];exact h1,hw.trans (h2.below hsz (zaa _) λk hk=>(hb.own.lt k hk).1),λh=>by simp at h⟩;simp[j9,hs]
theorem LO.string {W w:World}{N:Nat}{l:List UInt8}(h:LO W w N l):Calls prog 63 #[.pointer (some ⟨N,0,none⟩)] w λe w'=>e=.returned (.string ⟨⟨l⟩⟩)∧Below W.heap.size W w':=by
 obtain⟨rfl,cs,v,hs,hb,hw,h0⟩:=h;by_cases hl:l=[]
 ·subst hl;have hblk:=hb.blk;rw[h0 rfl]at hblk;refine(yD hblk).mono ?_;rintro e w' ⟨rfl,rfl⟩;exact⟨rfl,hw.drew⟩
 ·refine(lj hb hl).mono ?_;rintro e w' ⟨rfl,h2⟩;exact⟨rfl,hw.trans (h2.below hw.size (zaa _) λk hk=>(hb.own.lt k hk).1)⟩
theorem LO.below {W w:World}{N:Nat}{l:List UInt8}(h:LO W w N l):Below W.heap.size W w:=by
 obtain⟨rfl,_,_,_,_,hw,_⟩:=h;exact hw
theorem UZ {k:Nat}{o:List UInt8}{c:UInt8}{r:List UInt8}(h:c=34):eM k o (c::r)=.ok (k+1) o:=by
 cases r<;>simp[eM,h]
theorem U0 {k:Nat}{o:List UInt8}:eM k o [92]=.fin:=rfl
theorem U1 {k:Nat}{o:List UInt8}{x:UInt8}{r:List UInt8}(h:CC x=none):eM k o (92::x::r)=.bad:=by
 rw[eM,if_neg (by decide),if_pos rfl,h]
theorem U2 {k:Nat}{o:List UInt8}{x b:UInt8}{r:List UInt8}(h:CC x=some b):eM k o (92::x::r)=eM (k+2) (o++[b]) r:=by
 rw[eM,if_neg (by decide),if_pos rfl,h]
theorem Ru {k:Nat}{o:List UInt8}{c:UInt8}{r:List UInt8}(h1:¬c=34)(h2:¬c=92):eM k o (c::r)=eM (k+1) (o++[c]) r:=by
 cases r with
 |nil=>simp[eM,h1]
 |cons e r=>rw[eM,if_neg h1,if_neg h2]
def T0:Obj:= .cells #[.int .i64 0,.int .i64 0,.int .i64 0,.string ⟨#[]⟩,.int .i64 0,.int .i64 0,.int .i64 0] 131
theorem Ik {c:UInt8}{n:Nat}(hn:n<256):(c.toNat:Int)=(n:Int)↔c=n.toUInt8:=by
 rw[←UInt8.toNat_inj];simp[Nat.mod_eq_of_lt hn];omega
theorem A1 (s:ByteArray)(a:Nat)(w:World)(hs:s.size≤1000000)(ha:a<s.size):Calls prog 169 #[.string s,.int .i64 a] w λe w'=>e=.returned (aX (mQ s.data.toList a))∧Below w.heap.size w w':=by
 have hT:Hid (mQ s.data.toList a=match eM (a+1) [] (s.data.toList.drop (a+1))with|.fin=>oY s.data.toList|.bad=>bJ a|.ok e b=>{ aQ 8 a e with text:=b }):=rfl;have H0:Hid (LO (w.alloc T0) ((w.alloc T0).alloc (.cells #[.pointer none,.slice none 0 0] 116)) (w.heap.size+1) []):=by
  have:=LO.start (w.alloc T0);rw[show(w.alloc T0).heap.size=w.heap.size+1 by simp]at this;exact this
 have hblk:Hid ((w.alloc T0).heap[w.heap.size]?=some T0):=heap_alloc_new w _;have hw0:Hid (Below w.heap.size w (w.alloc T0)):=(Below.refl _ w).alloc (zaa _) _;go_enter func169,ntmps169;go_wp2_with fail;go_loopw [6] (λi wr=>∃(k:Nat) (o:List UInt8),a+1≤k∧k≤s.size∧i=.int .i64 k∧o.length≤k∧Hid (LO (w.alloc T0) wr (w.heap.size+1) o)∧Hid (eM (a+1) [] (s.data.toList.drop (a+1))=eM k o (s.data.toList.drop k))) (λi _=>s.size-(intOf i).toNat)
 case atStart=>exact⟨a+1,[],zaa _,by omega,by go_num,by simp,H0.out,rfl⟩
 case round=>
  obtain⟨k,o,JV,hk,rfl,Ih,H2,hr⟩:=hrel;by_cases hlt:k<s.size
  ·have hd:Hid _:=drop_cons s k hlt;by_cases Zc:(s[k].toNat :Int)=34
   ·have he:Hid (mQ s.data.toList a={ aQ 8 a (k+1)with text:=o }):=by
     show _=_;rw[hT.out,hr.out,hd.out,UZ ((Ik (by decide:34<256)).1 Zc)]
    go_wp2_with fail;refine(H2.out.string).mono ?_;rintro e w1 ⟨rfl,hb⟩;obtain⟨⟨x0,x1,x2,x3,x4,x5,x6⟩,f0,f1,f2,f3,f4,f5,f6⟩:=cN (b:=w.heap.size) hb hblk.out;have HB:Hid (Below w.heap.size w w1):=hw0.out.trans (hb.mono (by simp));clear hb;go_wp2_with fail;exact bodyPost_ret (v:=aX { aQ 8 a (k+1)with text:=o }) (by simp[results,results169,aX,aQ,go_sem, *]) rfl ⟨by rw[he.out],fJ HB.out _ _ _ _ _ _ _⟩
   by_cases Xe:(s[k].toNat :Int)=92
   ·have U3:Hid (s[k]=92):=(Ik (by decide:92<256)).1 Xe;by_cases Zd:k+1<s.size
    ·have WX:Hid _:=drop_cons s (k+1) Zd;cases hes:CC s[k+1]with
     |none=>
      have he:Hid (mQ s.data.toList a=bJ a):=by
       show _=_;rw[hT.out,hr.out,hd.out,U3.out,WX.out,U1 hes]
      have U4:Hid _:=hes;go_wp2_with fail;refine(ue _ _).mono ?_;rw[U4.out];rintro e w' ⟨rfl,rfl⟩;go_wp2_with fail;refine(iU _ _).mono ?_;rintro e w1 ⟨rfl,hb1⟩;have hb:=H2.out.below.trans (hb1.mono H2.out.below.size);obtain⟨⟨x0,x1,x2,x3,x4,x5,x6⟩,f0,f1,f2,f3,f4,f5,f6⟩:=cN (b:=w.heap.size) hb hblk.out;have HB:Hid (Below w.heap.size w w1):=hw0.out.trans (hb.mono (by simp));clear hb hb1;unfold aX;go_wp2_with fail;exact bodyPost_ret (v:=aX (bJ a)) (by simp[results,results169,aX,aQ,bJ,go_sem, *]) rfl ⟨by rw[he.out],fJ HB.out _ _ _ _ _ _ _⟩
     |some b=>
      have yh:Hid (eM (a+1) [] (s.data.toList.drop (a+1))=eM (k+2) (o++[b]) (s.data.toList.drop (k+2))):=by
       show _=_;rw[hr.out,hd.out,U3.out,WX.out,U2 hes]
      have U4:Hid _:=hes;go_wp2_with fail;refine(ue _ _).mono ?_;rw[U4.out];rintro e w' ⟨rfl,rfl⟩;go_wp2_with fail;refine(H2.out.ft b (by omega)).mono ?_;rintro e w2 ⟨rfl,h2⟩;have H3:Hid _:=h2;clear h2 H2;go_wp2_with fail;go_roundw
      case rel=>exact⟨k+2,o++[b],by omega,by omega,by go_num,by simp;omega,H3.out,yh.out⟩
      case measure=>simp[intOf];omega
    ·have uG:k+1=s.size:=by omega
     have he:Hid (mQ s.data.toList a=oY s.data.toList):=by
      show _=_;rw[hT.out,hr.out,hd.out,U3.out,show s.data.toList.drop (k+1)=[] from zaQ (by rw[bA];omega),U0]
     have q:(((k:Int)+1)==(s.size:Int))=true:=by rw[beq_iff_eq];omega
     go_wp2_with fail;refine(s8 _ _).mono ?_;rintro e w1 ⟨rfl,hb1⟩;have hb:=H2.out.below.trans (hb1.mono H2.out.below.size);obtain⟨⟨x0,x1,x2,x3,x4,x5,x6⟩,f0,f1,f2,f3,f4,f5,f6⟩:=cN (b:=w.heap.size) hb hblk.out;have HB:Hid (Below w.heap.size w w1):=hw0.out.trans (hb.mono (by simp));clear hb hb1;unfold aX;go_wp2_with fail;exact bodyPost_ret (v:=aX (oY s.data.toList)) (by simp[results,results169,aX,aQ,oY,go_sem, *]) rfl ⟨by rw[he.out],fJ HB.out _ _ _ _ _ _ _⟩
   ·have yh:Hid (eM (a+1) [] (s.data.toList.drop (a+1))=eM (k+1) (o++[s[k]]) (s.data.toList.drop (k+1))):=by
     show _=_;rw[hr.out,hd.out,Ru (λe=>Zc ((Ik (by decide:34<256)).2 e)) (λe=>Xe ((Ik (by decide:92<256)).2 e))]
    have q1:((s[k].toNat :Int)==34)=false:=by rw[beq_eq_false_iff_ne];exact Zc
    have q2:((s[k].toNat :Int)==92)=false:=by rw[beq_eq_false_iff_ne];exact Xe
    go_wp2_with fail;refine(H2.out.ft s[k] (by omega)).mono ?_;rintro e w2 ⟨rfl,h2⟩;have H3:Hid _:=h2;clear h2 H2;go_wp2_with fail;go_roundw
    case rel=>exact⟨k+1,o++[s[k]],by omega,by omega,by go_num,by simp;omega,H3.out,yh.out⟩
    case measure=>simp[intOf];omega
  ·have he:Hid (mQ s.data.toList a=oY s.data.toList):=by
    show _=_;rw[hT.out,hr.out,show s.data.toList.drop k=[] from zaQ (by rw[bA];omega)];rfl
   go_wp2_with fail;refine(s8 _ _).mono ?_;rintro e w1 ⟨rfl,hb1⟩;have hb:=H2.out.below.trans (hb1.mono H2.out.below.size);obtain⟨⟨x0,x1,x2,x3,x4,x5,x6⟩,f0,f1,f2,f3,f4,f5,f6⟩:=cN (b:=w.heap.size) hb hblk.out;have HB:Hid (Below w.heap.size w w1):=hw0.out.trans (hb.mono (by simp));clear hb hb1;unfold aX;go_wp2_with fail;exact bodyPost_ret (v:=aX (oY s.data.toList)) (by simp[results,results169,aX,aQ,oY,go_sem, *]) rfl ⟨by rw[he.out],fJ HB.out _ _ _ _ _ _ _⟩
theorem A2 (s:ByteArray)(a:Nat)(w:World)(hs:s.size≤1000000)(ha:a+2≤s.size):Calls prog 198 #[.string s,.int .i64 a] w λe w'=>e=.returned (aX (lJ s.data.toList a))∧Below w.heap.size w w':=by
 have hle:=i7 k9 (s.data.toList.drop (a+2));rw[zaj,bA]at hle;have hT:Hid (lJ s.data.toList a=if 1<bI k9 (s.data.toList.drop (a+2))then(match rh (gf s.data.toList (a+2) (a+2+bI k9 (s.data.toList.drop (a+2))))with|none=>bJ a|some k=>{ aQ 9 a (a+2+bI k9 (s.data.toList.drop (a+2)))with n:=k })else match s.data.toList.drop (a+2)with|[]=>bJ a|c::_=>if 33≤c.toNat∧c.toNat≤126 then { aQ 9 a (a+3)with n:=(c.toNat:Int) } else bJ a):=rfl;generalize hk:bI k9 (s.data.toList.drop (a+2))=k at *;have HK:Hid _:=hk;clear hk;by_cases h1:1<k
 ·have Nx:Hid ((s.extract (a+2) (a+2+k)).data.toList=gf s.data.toList (a+2) (a+2+k)):=nS _ _ _;cases hc:rh (gf s.data.toList (a+2) (a+2+k))with
  |none=>
   have e:Hid (lJ s.data.toList a=bJ a):=by show _=_;rw[hT.out,if_pos h1,hc]
   clear hT;go_enter func198,ntmps198;go_wp2_with (go_at_call 148;refine(gh _ _ _ (by unfold maxLen;omega) (by omega) (by omega)).mono ?_;rintro e w' ⟨rfl,rfl⟩;rw[show((a:Int)+2).toNat=a+2 by omega,HK.out]);refine(wU _ _).mono ?_;rw[Nx.out,hc];rintro e w' ⟨rfl,rfl⟩;go_wp2_with fail;refine(iU _ _).mono ?_;rintro e w1 ⟨rfl,hb⟩;obtain⟨⟨x0,x1,x2,x3,x4,x5,x6⟩,f0,f1,f2,f3,f4,f5,f6⟩:=cN (b:=w.heap.size) hb (heap_alloc_new w _);have HB:Hid (Below w.heap.size w w1):=((Below.refl _ w).alloc (zaa _) _).trans (hb.mono (by simp));clear hb;unfold aX;go_wp2_with fail;exact bodyPost_ret (v:=aX (bJ a)) (by simp[results,results198,aX,aQ,bJ,go_sem, *]) rfl ⟨by rw[e.out],fJ HB.out _ _ _ _ _ _ _⟩
  |some n=>
   have e:Hid (lJ s.data.toList a={ aQ 9 a (a+2+k)with n:=n }):=by show _=_;rw[hT.out,if_pos h1,hc]
   clear hT;go_enter func198,ntmps198;go_wp2_with (go_at_call 148;refine(gh _ _ _ (by unfold maxLen;omega) (by omega) (by omega)).mono ?_;rintro e w' ⟨rfl,rfl⟩;rw[show((a:Int)+2).toNat=a+2 by omega,HK.out]);refine(wU _ _).mono ?_;rw[Nx.out,hc];rintro e w' ⟨rfl,rfl⟩;go_wp2_with fail;refine bodyPost_ret (v:=aX { aQ 9 a (a+2+k)with n:=n }) (by simp[results,results198,aX,aQ,go_sem]) rfl ⟨by rw[e.out],?_⟩
   (repeat (first|with_reducible refine Below.setCell ?_ (by simp) _|with_reducible refine Below.alloc ?_ (by simp) _));with_reducible exact Below.refl _ _
 by_cases hlt:a+2<s.size
 ·have hd:=drop_cons s (a+2) hlt;have hwr:wrap64 (s[a+2].toNat :Int)=(s[a+2].toNat :Int):=by have:=s[a+2].toNat_lt;unfold wrap64;omega
  by_cases hp:33≤(s[a+2].toNat :Int)∧(s[a+2].toNat :Int)≤126
  ·have e:Hid (lJ s.data.toList a={ aQ 9 a (a+3)with n:=(s[a+2].toNat :Int) }):=by show _=_;rw[hT.out,if_neg h1,hd];exact if_pos ⟨by omega,by omega⟩
   have BL:Hid (decide (33≤(s[a+2].toNat :Int)∧(s[a+2].toNat :Int)≤126)=true):=decide_eq_true hp;clear hT hd hp;go_enter func198,ntmps198;go_wp2_with (go_at_call 148;refine(gh _ _ _ (by unfold maxLen;omega) (by omega) (by omega)).mono ?_;rintro e w' ⟨rfl,rfl⟩;rw[show((a:Int)+2).toNat=a+2 by omega,HK.out]);refine(lf _ _).mono ?_;rw[BL.out];rintro e w' ⟨rfl,rfl⟩;go_wp2_with fail;refine bodyPost_ret (v:=aX { aQ 9 a (a+3)with n:=(s[a+2].toNat :Int) }) (by simp[results,results198,aX,aQ,go_sem];try omega) rfl ⟨by rw[e.out],?_⟩
   (repeat (first|with_reducible refine Below.setCell ?_ (by simp) _|with_reducible refine Below.alloc ?_ (by simp) _));with_reducible exact Below.refl _ _
  ·have e:Hid (lJ s.data.toList a=bJ a):=by show _=_;rw[hT.out,if_neg h1,hd];exact if_neg (by omega)
   have BL:Hid (decide (33≤(s[a+2].toNat :Int)∧(s[a+2].toNat :Int)≤126)=false):=decide_eq_false hp;clear hT hd hp;go_enter func198,ntmps198;go_wp2_with (go_at_call 148;refine(gh _ _ _ (by unfold maxLen;omega) (by omega) (by omega)).mono ?_;rintro e w' ⟨rfl,rfl⟩;rw[show((a:Int)+2).toNat=a+2 by omega,HK.out]);refine(lf _ _).mono ?_;rw[BL.out];rintro e w' ⟨rfl,rfl⟩;go_wp2_with fail;refine(iU _ _).mono ?_;rintro e w1 ⟨rfl,hb⟩;obtain⟨⟨x0,x1,x2,x3,x4,x5,x6⟩,f0,f1,f2,f3,f4,f5,f6⟩:=cN (b:=w.heap.size) hb (heap_alloc_new w _);have HB:Hid (Below w.heap.size w w1):=((Below.refl _ w).alloc (zaa _) _).trans (hb.mono (by simp));clear hb;unfold aX;go_wp2_with fail;exact bodyPost_ret (v:=aX (bJ a)) (by simp[results,results198,aX,aQ,bJ,go_sem, *]) rfl ⟨by rw[e.out],fJ HB.out _ _ _ _ _ _ _⟩
 ·have hd:s.data.toList.drop (a+2)=[]:=zaQ (by rw[bA];omega);have e:Hid (lJ s.data.toList a=bJ a):=by show _=_;rw[hT.out,if_neg h1,hd]
  clear hT hd;go_enter func198,ntmps198;go_wp2_with (go_at_call 148;refine(gh _ _ _ (by unfold maxLen;omega) (by omega) (by omega)).mono ?_;rintro e w' ⟨rfl,rfl⟩;rw[show((a:Int)+2).toNat=a+2 by omega,HK.out]);refine(iU _ _).mono ?_;rintro e w1 ⟨rfl,hb⟩;obtain⟨⟨x0,x1,x2,x3,x4,x5,x6⟩,f0,f1,f2,f3,f4,f5,f6⟩:=cN (b:=w.heap.size) hb (heap_alloc_new w _);have HB:Hid (Below w.heap.size w w1):=((Below.refl _ w).alloc (zaa _) _).trans (hb.mono (by simp));clear hb;unfold aX;go_wp2_with fail;exact bodyPost_ret (v:=aX (bJ a)) (by simp[results,results198,aX,aQ,bJ,go_sem, *]) rfl ⟨by rw[e.out],fJ HB.out _ _ _ _ _ _ _⟩
theorem FX {s:ByteArray}{a:Nat}(h:∀c r,s.data.toList.drop (a+1)=c::r→¬c.toNat=40∧¬c.toNat=59∧¬c.toNat=92):iq s.data.toList a=(ey s.data.toList a).getD (ez s.data.toList a):=by
 unfold iq;split
 ·rfl
 ·rename_i c r hd;obtain⟨h1,h2,h3⟩:=h c r hd;rw[if_neg h1,if_neg h2,if_neg h3]
theorem A3 (s:ByteArray)(a:Nat)(w:World)(hs:s.size≤1000000)(ha:a<s.size):Calls prog 170 #[.string s,.int .i64 a] w λe w'=>e=.returned (aX (iq s.data.toList a))∧Below w.heap.size w w':=by
 by_cases hlt:a+1<s.size
 ·have hd:=drop_cons s (a+1) hlt;have hT:Hid (iq s.data.toList a=if s[a+1].toNat=40 then aQ 5 a (a+2)else if s[a+1].toNat=59 then aQ 6 a (a+2)else if s[a+1].toNat=92 then lJ s.data.toList a else(ey s.data.toList a).getD (ez s.data.toList a)):=by
   show _=_;unfold iq;rw[hd]
  clear hd;by_cases h40:(s[a+1].toNat :Int)=40
  ·have e:Hid (iq s.data.toList a=aQ 5 a (a+2)):=by show _=_;rw[hT.out,if_pos (by omega)]
   go_enter func170,ntmps170;go_wp2_with fail;refine bodyPost_ret (v:=aX (aQ 5 a (a+2))) (by simp[results,results170,aX,aQ,go_sem]) rfl ⟨by rw[e.out],?_⟩
   (repeat (first|with_reducible refine Below.setCell ?_ (by simp) _|with_reducible refine Below.alloc ?_ (by simp) _));with_reducible exact Below.refl _ _
  have q1:((s[a+1].toNat :Int)==40)=false:=by rw[beq_eq_false_iff_ne];exact h40
  by_cases Y8:(s[a+1].toNat :Int)=59
  ·have e:Hid (iq s.data.toList a=aQ 6 a (a+2)):=by show _=_;rw[hT.out,if_neg (by omega),if_pos (by omega)]
   clear q1;go_enter func170,ntmps170;go_wp2_with fail;refine bodyPost_ret (v:=aX (aQ 6 a (a+2))) (by simp[results,results170,aX,aQ,go_sem]) rfl ⟨by rw[e.out],?_⟩
   (repeat (first|with_reducible refine Below.setCell ?_ (by simp) _|with_reducible refine Below.alloc ?_ (by simp) _));with_reducible exact Below.refl _ _
  have q2:((s[a+1].toNat :Int)==59)=false:=by rw[beq_eq_false_iff_ne];exact Y8
  by_cases Xe:(s[a+1].toNat :Int)=92
  ·have e:Hid (iq s.data.toList a=lJ s.data.toList a):=by show _=_;rw[hT.out,if_neg (by omega),if_neg (by omega),if_pos (by omega)]
   clear q1 q2;go_enter func170,ntmps170;go_wp2_with fail;refine(A2 _ _ _ hs (by omega)).mono ?_;rintro e w1 ⟨rfl,hb⟩;obtain⟨⟨x0,x1,x2,x3,x4,x5,x6⟩,f0,f1,f2,f3,f4,f5,f6⟩:=cN (b:=w.heap.size) hb (heap_alloc_new w _);have HB:Hid (Below w.heap.size w w1):=((Below.refl _ w).alloc (zaa _) _).trans (hb.mono (by simp));clear hb;unfold aX;go_wp2_with fail;exact bodyPost_ret (v:=aX (lJ s.data.toList a)) (by simp[results,results170,aX,go_sem, *]) rfl ⟨by rw[e.out],fJ HB.out _ _ _ _ _ _ _⟩
  have q3:((s[a+1].toNat :Int)==92)=false:=by rw[beq_eq_false_iff_ne];exact Xe
  have e0:Hid (iq s.data.toList a=(ey s.data.toList a).getD (ez s.data.toList a)):=by show _=_;rw[hT.out,if_neg (by omega),if_neg (by omega),if_neg (by omega)]
  clear hT h40 Y8 Xe;cases hl:ey s.data.toList a with
  |some t=>
   have e:Hid (iq s.data.toList a=t):=by show _=_;rw[e0.out,hl];rfl
   have hl':Hid _:=hl;clear hl e0;go_enter func170,ntmps170;go_wp2_with fail;refine(lh _ _ _ hs (by omega)).mono ?_;rw[hl'.out];rintro e w1 ⟨rfl,hb⟩;obtain⟨⟨x0,x1,x2,x3,x4,x5,x6⟩,f0,f1,f2,f3,f4,f5,f6⟩:=cN (b:=w.heap.size) hb (heap_alloc_new w _);have HB:Hid (Below w.heap.size w w1):=((Below.refl _ w).alloc (zaa _) _).trans (hb.mono (by simp));have hs1:w.heap.size<w1.heap.size:=by have:=hb.size;simp at this;omega
   have UQ:¬w.heap.size=w1.heap.size:=by omega
   have LL:¬w1.heap.size=w.heap.size:=by omega
   clear hb;simp only[zaF,Option.isSome_some];unfold aX;go_wp2_with fail;refine bodyPost_ret (v:=aX t) (by simp[results,results170,aX,go_sem, *]) rfl ⟨by rw[e.out],?_⟩
   (repeat (first|with_reducible refine Below.setCell ?_ (by first|(simp;done)|(simp;omega)) _|with_reducible refine Below.alloc ?_ (by first|omega|(simp;done)|(simp;omega)) _));with_reducible exact HB.out
  |none=>
   have e:Hid (iq s.data.toList a=ez s.data.toList a):=by show _=_;rw[e0.out,hl];rfl
   have hl':Hid _:=hl;clear hl e0;go_enter func170,ntmps170;go_wp2_with fail;refine(lh _ _ _ hs (by omega)).mono ?_;rw[hl'.out];rintro e w1 ⟨rfl,hb⟩;have oQ:Hid _:=(hb.block w.heap.size (by simp)).trans (heap_alloc_new w _);have HB:Hid (Below w.heap.size w w1):=((Below.refl _ w).alloc (zaa _) _).trans (hb.mono (by simp));have hs1:w.heap.size<w1.heap.size:=by have:=hb.size;simp at this;omega
   clear hb;simp only[zbc,zbF];unfold aX wV;go_wp2_with fail;refine(pE _ _ _ hs (by omega)).mono ?_;rintro e w2 ⟨rfl,hb2⟩;obtain⟨⟨x0,x1,x2,x3,x4,x5,x6⟩,f0,f1,f2,f3,f4,f5,f6⟩:=cN (b:=w.heap.size) hb2 ((Lib.alloc_old _ _ _ hs1).trans oQ.out);have gN:Hid (Below w.heap.size w w2):=(HB.out.alloc (by omega) _).trans (hb2.mono (by simp;omega));clear hb2;unfold aX;go_wp2_with fail;exact bodyPost_ret (v:=aX (ez s.data.toList a)) (by simp[results,results170,aX,go_sem, *]) rfl ⟨by rw[e.out],fJ gN.out _ _ _ _ _ _ _⟩
 ·have e0:Hid (iq s.data.toList a=(ey s.data.toList a).getD (ez s.data.toList a)):=FX λc r h=>by
   have:=congrArg List.length h;rw[zaj,bA]at this;simp at this;omega
  cases hl:ey s.data.toList a with
  |some t=>
   exfalso;unfold ey at hl;simp only[show s.data.toList.drop (a+1)=[] from zaQ (by rw[bA];omega),bI]at hl;simp at hl
  |none=>
   have e:Hid (iq s.data.toList a=ez s.data.toList a):=by show _=_;rw[e0.out,hl];rfl
   have hl':Hid _:=hl;clear hl e0;go_enter func170,ntmps170;go_wp2_with fail;refine(lh _ _ _ hs (by omega)).mono ?_;rw[hl'.out];rintro e w1 ⟨rfl,hb⟩;have oQ:Hid _:=(hb.block w.heap.size (by simp)).trans (heap_alloc_new w _);have HB:Hid (Below w.heap.size w w1):=((Below.refl _ w).alloc (zaa _) _).trans (hb.mono (by simp));have hs1:w.heap.size<w1.heap.size:=by have:=hb.size;simp at this;omega
   clear hb;simp only[zbc,zbF];unfold aX wV;go_wp2_with fail;refine(pE _ _ _ hs (by omega)).mono ?_;rintro e w2 ⟨rfl,hb2⟩;obtain⟨⟨x0,x1,x2,x3,x4,x5,x6⟩,f0,f1,f2,f3,f4,f5,f6⟩:=cN (b:=w.heap.size) hb2 ((Lib.alloc_old _ _ _ hs1).trans oQ.out);have gN:Hid (Below w.heap.size w w2):=(HB.out.alloc (by omega) _).trans (hb2.mono (by simp;omega));clear hb2;unfold aX;go_wp2_with fail;exact bodyPost_ret (v:=aX (ez s.data.toList a)) (by simp[results,results170,aX,go_sem, *]) rfl ⟨by rw[e.out],fJ gN.out _ _ _ _ _ _ _⟩
theorem NQ (s:ByteArray)(a:Nat)(w:World)(hs:s.size≤1000000)(ha:a≤s.size):Calls prog 120 #[.string s,.int .i64 a] w λe w'=>e=.returned (aX (aZ s.data.toList a))∧Below w.heap.size w w':=by
 have hsk:=CF (s:=s.data.toList) (a:=a) (by rw[bA];exact ha);rw[bA]at hsk;have hT:Hid (aZ s.data.toList a=zl s.data.toList (pD s.data.toList a)):=rfl;have JV:Hid ((a:Int)+(rB true (s.data.toList.drop a)).1=(pD s.data.toList a:Nat)):=by
  show _=_;unfold pD rB;omega
 obtain⟨b,hk⟩:∃b,Hid (rB true (s.data.toList.drop a)=(pD s.data.toList a-a,b)):=⟨(rB true (s.data.toList.drop a)).2,by
  show _=_;have:=JV.out;apply Prod.ext
  ·show(rB true (s.data.toList.drop a)).1=_;omega
  ·rfl⟩
 generalize pD s.data.toList a=k at *;clear JV;have hka:((a:Int)+((k-a:Nat):Int))=k:=by omega
 by_cases hlt:k<s.size
 ·have hd:=drop_cons s k hlt;have xU:Hid (aZ s.data.toList a=if s[k].toNat=40 then aQ 2 k (k+1)else if s[k].toNat=41 then aQ 3 k (k+1)else if s[k].toNat=39 then aQ 4 k (k+1)else if s[k].toNat=34 then mQ s.data.toList k else if s[k].toNat=35 then iq s.data.toList k else if cq (s[k].toNat :Int)then mR s.data.toList k else bJ k):=by
   show _=_;rw[hT.out];unfold zl;rw[hd]
  clear hT hd;have qe:((k:Int)==(s.size:Int))=false:=by rw[beq_eq_false_iff_ne];omega
  by_cases h40:(s[k].toNat :Int)=40
  ·have e:Hid (aZ s.data.toList a=aQ 2 k (k+1)):=by show _=_;rw[xU.out,if_pos (by omega)]
   clear xU;go_enter func120,ntmps120;go_wp2_with fail;refine(iv _ _ _ hs ha).mono ?_;rw[hk.out];rintro e w' ⟨rfl,rfl⟩;go_wp2_with fail;refine bodyPost_ret (v:=aX (aQ 2 k (k+1))) (by simp[results,results120,aX,aQ,go_sem]) rfl ⟨by rw[e.out],?_⟩
   (repeat (first|with_reducible refine Below.setCell ?_ (by simp) _|with_reducible refine Below.alloc ?_ (by simp) _));with_reducible exact Below.refl _ _
  have q40:((s[k].toNat :Int)==40)=false:=by rw[beq_eq_false_iff_ne];exact h40
  by_cases h41:(s[k].toNat :Int)=41
  ·have e:Hid (aZ s.data.toList a=aQ 3 k (k+1)):=by show _=_;rw[xU.out,if_neg (by omega),if_pos (by omega)]
   clear xU;clear q40;go_enter func120,ntmps120;go_wp2_with fail;refine(iv _ _ _ hs ha).mono ?_;rw[hk.out];rintro e w' ⟨rfl,rfl⟩;go_wp2_with fail;refine bodyPost_ret (v:=aX (aQ 3 k (k+1))) (by simp[results,results120,aX,aQ,go_sem]) rfl ⟨by rw[e.out],?_⟩
   (repeat (first|with_reducible refine Below.setCell ?_ (by simp) _|with_reducible refine Below.alloc ?_ (by simp) _));with_reducible exact Below.refl _ _
  have q41:((s[k].toNat :Int)==41)=false:=by rw[beq_eq_false_iff_ne];exact h41
  by_cases h39:(s[k].toNat :Int)=39
  ·have e:Hid (aZ s.data.toList a=aQ 4 k (k+1)):=by show _=_;rw[xU.out,if_neg (by omega),if_neg (by omega),if_pos (by omega)]
   clear xU;clear q40 q41;go_enter func120,ntmps120;go_wp2_with fail;refine(iv _ _ _ hs ha).mono ?_;rw[hk.out];rintro e w' ⟨rfl,rfl⟩;go_wp2_with fail;refine bodyPost_ret (v:=aX (aQ 4 k (k+1))) (by simp[results,results120,aX,aQ,go_sem]) rfl ⟨by rw[e.out],?_⟩
   (repeat (first|with_reducible refine Below.setCell ?_ (by simp) _|with_reducible refine Below.alloc ?_ (by simp) _));with_reducible exact Below.refl _ _
  have q39:((s[k].toNat :Int)==39)=false:=by rw[beq_eq_false_iff_ne];exact h39
  by_cases Zc:(s[k].toNat :Int)=34
  ·have e:Hid (aZ s.data.toList a=mQ s.data.toList k):=by show _=_;rw[xU.out,if_neg (by omega),if_neg (by omega),if_neg (by omega),if_pos (by omega)]
   clear xU q40 q41 q39;go_enter func120,ntmps120;go_wp2_with fail;refine(iv _ _ _ hs ha).mono ?_;rw[hk.out];rintro e w' ⟨rfl,rfl⟩;go_wp2_with fail;refine(A1 _ _ _ hs hlt).mono ?_;rintro e w1 ⟨rfl,hb⟩;obtain⟨⟨x0,x1,x2,x3,x4,x5,x6⟩,f0,f1,f2,f3,f4,f5,f6⟩:=cN (b:=w.heap.size) hb (heap_alloc_new w _);have HB:Hid (Below w.heap.size w w1):=((Below.refl _ w).alloc (zaa _) _).trans (hb.mono (by simp));clear hb;unfold aX;go_wp2_with fail;exact bodyPost_ret (v:=aX (mQ s.data.toList k)) (by simp[results,results120,aX,go_sem, *]) rfl ⟨by rw[e.out],fJ HB.out _ _ _ _ _ _ _⟩
  have q34:((s[k].toNat :Int)==34)=false:=by rw[beq_eq_false_iff_ne];exact Zc
  by_cases h35:(s[k].toNat :Int)=35
  ·have e:Hid (aZ s.data.toList a=iq s.data.toList k):=by show _=_;rw[xU.out,if_neg (by omega),if_neg (by omega),if_neg (by omega),if_neg (by omega),if_pos (by omega)]
   clear xU q40 q41 q39 q34;go_enter func120,ntmps120;go_wp2_with fail;refine(iv _ _ _ hs ha).mono ?_;rw[hk.out];rintro e w' ⟨rfl,rfl⟩;go_wp2_with fail;refine(A3 _ _ _ hs hlt).mono ?_;rintro e w1 ⟨rfl,hb⟩;obtain⟨⟨x0,x1,x2,x3,x4,x5,x6⟩,f0,f1,f2,f3,f4,f5,f6⟩:=cN (b:=w.heap.size) hb (heap_alloc_new w _);have HB:Hid (Below w.heap.size w w1):=((Below.refl _ w).alloc (zaa _) _).trans (hb.mono (by simp));clear hb;unfold aX;go_wp2_with fail;exact bodyPost_ret (v:=aX (iq s.data.toList k)) (by simp[results,results120,aX,go_sem, *]) rfl ⟨by rw[e.out],fJ HB.out _ _ _ _ _ _ _⟩
  have q35:((s[k].toNat :Int)==35)=false:=by rw[beq_eq_false_iff_ne];exact h35
  cases hw:cq (s[k].toNat :Int)
  ·have e:Hid (aZ s.data.toList a=bJ k):=by show _=_;rw[xU.out,if_neg (by omega),if_neg (by omega),if_neg (by omega),if_neg (by omega),if_neg (by omega),hw];rfl
   have hw':Hid _:=hw;clear xU hw;go_enter func120,ntmps120;go_wp2_with fail;refine(iv _ _ _ hs ha).mono ?_;rw[hk.out];rintro e w' ⟨rfl,rfl⟩;go_wp2_with fail;refine(iu _ _ (by omega) (by have:=s[k].toNat_lt;omega)).mono ?_;rw[hw'.out];rintro e w' ⟨rfl,rfl⟩;go_wp2_with fail;refine(iU _ _).mono ?_;rintro e w1 ⟨rfl,hb⟩;obtain⟨⟨x0,x1,x2,x3,x4,x5,x6⟩,f0,f1,f2,f3,f4,f5,f6⟩:=cN (b:=w.heap.size) hb (heap_alloc_new w _);have HB:Hid (Below w.heap.size w w1):=((Below.refl _ w).alloc (zaa _) _).trans (hb.mono (by simp));clear hb;unfold aX;go_wp2_with fail;exact bodyPost_ret (v:=aX (bJ k)) (by simp[results,results120,aX,go_sem, *]) rfl ⟨by rw[e.out],fJ HB.out _ _ _ _ _ _ _⟩
  ·have e:Hid (aZ s.data.toList a=mR s.data.toList k):=by show _=_;rw[xU.out,if_neg (by omega),if_neg (by omega),if_neg (by omega),if_neg (by omega),if_neg (by omega),hw];rfl
   have hw':Hid _:=hw;clear xU hw;go_enter func120,ntmps120;go_wp2_with fail;refine(iv _ _ _ hs ha).mono ?_;rw[hk.out];rintro e w' ⟨rfl,rfl⟩;go_wp2_with fail;refine(iu _ _ (by omega) (by have:=s[k].toNat_lt;omega)).mono ?_;rw[hw'.out];rintro e w' ⟨rfl,rfl⟩;go_wp2_with fail;refine(A0 _ _ _ hs hlt hw'.out).mono ?_;rintro e w1 ⟨rfl,hb⟩;obtain⟨⟨x0,x1,x2,x3,x4,x5,x6⟩,f0,f1,f2,f3,f4,f5,f6⟩:=cN (b:=w.heap.size) hb (heap_alloc_new w _);have HB:Hid (Below w.heap.size w w1):=((Below.refl _ w).alloc (zaa _) _).trans (hb.mono (by simp));clear hb;unfold aX;go_wp2_with fail;exact bodyPost_ret (v:=aX (mR s.data.toList k)) (by simp[results,results120,aX,go_sem, *]) rfl ⟨by rw[e.out],fJ HB.out _ _ _ _ _ _ _⟩
 ·have cP:k=s.size:=by omega
  have e:Hid (aZ s.data.toList a=oY s.data.toList):=by
   show _=_;rw[hT.out];unfold zl;rw[show s.data.toList.drop k=[] from zaQ (by rw[bA];omega)]
  have qe:((k:Int)==(s.size:Int))=true:=by rw[beq_iff_eq];omega
  clear hT;go_enter func120,ntmps120;go_wp2_with fail;refine(iv _ _ _ hs ha).mono ?_;rw[hk.out];rintro e w' ⟨rfl,rfl⟩;go_wp2_with fail;refine(s8 _ _).mono ?_;rintro e w1 ⟨rfl,hb⟩;obtain⟨⟨x0,x1,x2,x3,x4,x5,x6⟩,f0,f1,f2,f3,f4,f5,f6⟩:=cN (b:=w.heap.size) hb (heap_alloc_new w _);have HB:Hid (Below w.heap.size w w1):=((Below.refl _ w).alloc (zaa _) _).trans (hb.mono (by simp));clear hb;unfold aX;go_wp2_with fail;exact bodyPost_ret (v:=aX (oY s.data.toList)) (by simp[results,results120,aX,go_sem, *]) rfl ⟨by rw[e.out],fJ HB.out _ _ _ _ _ _ _⟩
end Go.Proofs.YtlhimdjkkiflhaaGreatDoor
namespace Go.Ren
open Go.Proofs.Tryz
open Go Go.Conc Go.ConcX Go.RowKit Go.Proofs Go.Loop
theorem Kc (s:List UInt8)(hs:s.length≤1000)(n:Nat)(w:World)(hn:n≤s.length):Calls prog 120 #[.string ⟨⟨s⟩⟩,.int .i64 n] w λe _=>∃v,e=.returned v∧v=bK (aZ s n):=
 (Go.Proofs.YtlhimdjkkiflhaaGreatDoor.NQ ⟨⟨s⟩⟩ n w (by show s.length≤_;omega) hn).mono λe w' h=>⟨_,h.1,rfl⟩
theorem Kd (t:Tok)(w:World):Calls prog 121 #[bK t] w λe _=>∃v,e=.returned v∧v=.bool t.lastB:=
 (Go.Proofs.YtlhimdjkkiflhaaGreatDoor.NL t w).mono λ_e _w' h=>⟨_,h,rfl⟩
theorem FY {s:List UInt8}{c:Frame}{cs:List Frame}{Shun:Loc→Prop}{gs:Array Goroutine}{w0:World}{sl:Option (Nat×Nat)}{t:Trace}{q:Nat→Nat}(hlen:s.length≤1000)(hb:prog.globals.size≤w0.heap.size)(h0:gs[0]?=some (G (Frame.enter prog 43 #[.string ⟨⟨s⟩⟩] .normal) (c::cs)))(hLv:Leavers prog t gs q)(hP:Past Shun w0.heap.size t)(hS:∀l,Shun l→l.low w0.heap.size):Reach prog (crowd gs w0 sl) t (CK Shun (aU (s.length+1) s 0) c cs gs.size w0):=
 AR (λn w hn=>Kc s hlen n w hn) Kd hlen hb h0 hLv hP hS
section
variable {Ψ:cI}{cs:List Frame}{w:World}{b:Frame}{a:Act}{ops:Array Oper}{i:Nat}{rest:List Nat}{kk:List Item}
theorem U5 {o1 o2 o3:Nat→Prop}(h:∀x,o1 x→o2 x∨o3 x){l:Loc}(hl:jv o1 l):jv o2 l∨jv o3 l:=by
 cases l with
 |cell a=>exact h _ hl
 |obj r=>exact h _ hl
 |_=>exact .inl hl
theorem NR {o:Nat→Prop}{n:Nat}(h:∀x,o x→x<n){l:Loc}(hl:jv o l):l.low n:=by
 cases l with
 |cell a=>exact h _ hl
 |obj r=>exact h _ hl
 |_=>exact hl.elim
theorem aa.U6 {s:List UInt8}(hlen:s.length≤1000)(h:∀v w',Below w.heap.size w w'→w'.ownsRow w.heap.size 131 7 v (aU (s.length+1) s 0).length ((aU (s.length+1) s 0).flatMap λt=>(dQ t).toList)→aa prog Sz Ψ (b.at (a.put ((ops[i]?).bind (·.dst)) v) (.inRegion ops rest::kk)) cs w'):aa prog Sz Ψ (Frame.enter prog 43 #[.string ⟨⟨s⟩⟩] .normal) (b.at a (.inRegion ops (i::rest)::kk)::cs) w:=by
 intro ρ W gs sl t q Shun hS hc hcs h0 hL hP hN hO hT U7;have e0:bV ρ (Frame.enter prog 43 #[.string ⟨⟨s⟩⟩] .normal)=Frame.enter prog 43 #[.string ⟨⟨s⟩⟩] .normal:=by
  rw[←gL];simp[rv]
 rw[e0,zan]at h0;refine(FY hlen hS.oX h0 hL hP hN.low).bind ?_;rintro m t' ⟨gs',W',sl',q',fS,w₂,v,Shun',rfl,_,Jt,Yc,Yb,Ze,Zf,Zg,NT,fe,hrow,AU,hsz,hblk,Zh,hos,hout⟩;have Th:=hS.grow hsz λx hx=>hblk x (hN.Up x hx);have mn:Touch Sz.d (dD ρ w.heap.size W'.heap.size) w=Touch Sz.d ρ w:=cV;have adi:∀r,r<w.heap.size→dD ρ w.heap.size W'.heap.size r=ρ r:=λr hr=>aT hr;generalize dD ρ w.heap.size W'.heap.size=cd at *;have NU:=iH.merge QW Th NT (λx h1 h2=>by
  have k1:=hN.Up x (by rw[←mn];exact h1);have k2:=AU x h2;omega)
 have jZ:=NT.wr.big.p;have af1:=oL (w:=w) jZ;have hrv:=Yd QW Th NT fe;have htm:∀x,Touch Sz.d (za cd fS prog.globals.size w.heap.size w₂.heap.size W'.heap.size) (Fs prog w w₂) x→Touch Sz.d ρ w x∨Touch Sc.d fS w₂ x:=λx hx=>by
  have:=Ch QW jZ hx;rwa[mn]at this
 have U8:∀r,r<w.heap.size→za cd fS prog.globals.size w.heap.size w₂.heap.size W'.heap.size r=ρ r:=λr hr=>by
  rw[←adi r hr];simp only[za,if_pos hr]
 generalize za cd fS prog.globals.size w.heap.size w₂.heap.size W'.heap.size=Il at *;have U9:Below w.heap.size w (Fs prog w w₂):=⟨rfl,rfl,rfl,by omega,λr hr=>Fu hr⟩;have hrow3:=Ut (w:=w) (zaa _) hrow (λx hx=>by
  obtain⟨tk,_,hx⟩:=List.mem_flatMap.1 hx;simp[dQ]at hx;rcases hx with rfl|rfl|rfl|rfl|rfl|rfl|rfl<;>simp[rv])
 have UF:=Yf QW (w:=w) hS.wr.big.p jZ fe;have hf3:∀x,Il.f x=ρ.f x:=λx=>by rw[NU.f,hS.f]
 refine h _ _ U9 hrow3 Il W' gs' sl' t' q' Shun' NU ?_ (λf hf=>ie (by omega) (hcs f (zas _ hf))) ?_ Yc Yb ⟨λx hx=>?_,λ_ hx=>hx.elim,λl hl NP=>?_,Ze⟩ ⟨Zh.trans hO.tape,hos.trans hO.os,hout.trans hO.output,zad hO.size hsz,λr hr hm=>(hblk r (zaw hr hO.size)).trans (hO.block r hr hm)⟩ (λx hx=>(htm x hx).elim (hT x) λh2=> .inl (zad hO.size (AU x h2))) ⟨zad U7.size (by omega),λr hr=>(U8 r (zaw hr U7.size)).trans (U7.same r hr)⟩
 ·have h1:MG prog Sz w.heap.size a:=hcs _ zap;exact MG.put (P:=prog) (λx hx=>eu (dv (by omega)).1 (dv (by omega)).2 x (h1 x hx)) _ UF
 ·rw[Jt];have e1:bV ρ (b.at a (.inRegion ops (i::rest)::kk))=bV Il (b.at a (.inRegion ops (i::rest)::kk)):=ew (hcs _ zap) (λr hr=>(U8 r hr).symm) (λx=>(hf3 x).symm);have e2:cs.map (bV ρ)=cs.map (bV Il):=eQ (λr hr=>(U8 r hr).symm) (λx=>(hf3 x).symm) λf hf=>hcs f (zas _ hf);rw[e1,e2,ml,ml,Frame.finish_at,←hrv,Fq]
 ·obtain⟨r,h1,h2,rfl⟩:=hx;exact NU.low h2
 ·rcases hl with hl|hl
  ·rcases U5 htm hl with h1|h1
   ·exact hN.sR l (.inl h1) (Zf l (NR hN.Up h1) NP)
   ·exact Zg l h1 NP
  ·cases l<;>exact hl
end
end Go.Ren
namespace Go.Ren
open Go Go.Conc
section
variable {P:Program}{F:FuncId→Bool}{S:Sd}{Ψ:cI}{cs:List Frame}{w W:World}{ρ:Rn}{b:Frame}{a:Act}{k:List Item}
theorem FZ (hC:kO P F S){main:Bool}{fr:Frame}(hH:Ci P F S fr)(fe:fY P S w.heap.size fr)(hS:iH P S ρ w W){v:Value}{fn:Func}(h1:fr.mode=.returning)(h4:P.funcs[fr.fn]?=some fn)(h5:(results fn fr.tmps).run P w=.ok v w)(c:Frame)(cs:List Frame):rv (sg S S.d w.heap.size) v=v∧∃es,stepG P main (G (bV ρ fr) (c::cs)) W=.go (G (c.finish (rv ρ v)) cs) W es∧∀e∈es,mX S.d ρ w e:=by
 have hp:Plain P ρ:=⟨λt i v a b=>hC.zero t i v a b _,hS.inj⟩;cases hrun:(results fn fr.tmps).runT P w #[]with
 |mk r es=>
  have q1:=congrArg Prod.fst hrun;simp at q1;rw[h5]at q1;subst q1;have qK:∀n,w.heap.size≤n→ae P (sg S S.d n) (VV (sg S S.d n)) (results fn fr.tmps) (results fn fr.tmps):=λn hn=>by
   have:=iM (lC hC n) fn fr.tmps dG;have e:fr.tmps.map (rv (sg S S.d n))=fr.tmps:=bj.2 (ie hn fe);rwa[e]at this
  obtain⟨x,W1,es',r1,r2,r3,r4,r5,r6⟩:=cS hp (λo=> .inl hS.kH) _ _ _ _ w W #[] #[] _ _ _ (iM hp fn fr.tmps dG) qK hS.wr (λj hj=>by omega) hrun;have hb:x=rv ρ v:=r2;have hv:rv (sg S S.d w.heap.size) v=v:=by
   have:=r3 w.heap.size (zaa _);unfold VV at this;exact this.symm
  have hs:=r5.size;have hW1:W1=W:=by
   refine oI (Array.ext_getElem? λi=>?_) r5.tape (by have:=r5.drawn;omega) r5.os r5.output;rcases zag i W.heap.size with hlt|i6
   ·by_cases ht:Touch S.d ρ w i
    ·obtain⟨k,hr1,hr2,rfl⟩:=ht;have B9:=r4.live _ _ hr1 (zaq hr2);have vW:=hS.wr.live _ _ hr1 (zaq hr2);exact B9.trans vW.symm
    ·exact r5.frame i hlt ht
   ·rw[zaY (by omega),zaY i6]
  subst hb hW1;have bX:Ci P F S (bV ρ fr):=⟨hH.defers,hH.mode,hH.kind,hH.round,hH.todo,hH.fn⟩;have hps:(aJ P (bV ρ fr) [c]).runT P W1 #[]=(.ok (c.finish (rv ρ v),[]) W1,es'):=by
   have hm:(bV ρ fr).mode=.returning:=h1;have hf:P.funcs[(bV ρ fr).fn]?=some fn:=h4;unfold aJ;rw[hm];simp only[hf];rw[br];have:(results fn (bV ρ fr).tmps).runT P W1 #[]=(.ok (rv ρ v) W1,es'):=r1;rw[this];rfl
  have hst:=fH (main:=main) (cs:=cs) bX hps;refine⟨hv,_,hst,λe he=>?_⟩;rcases r6 e (mem_seen he)with h|h
  ·simp at h
  ·exact h
theorem NV (hn:b.kind=.normal)(hd:a.defers=[])(hf:∃fn,P.funcs[b.fn]?=some fn){todo:List Item}(ht:(todo.take 1).all (aB P F S)=true):Ci P F S (fR b a todo):=⟨hd,.inr rfl,hn,rfl,ht,hf⟩
theorem Ke {main:Bool}{c:Frame}(todo Zi:List Item)(hn:b.kind=.normal)(hd:a.defers=[]){g:Goroutine}{w':World}{es:Array Event}(h:stepG P main (G (fR b a todo) (c::cs)) w=.go g w' es):stepG P main (G (fR b a Zi) (c::cs)) w=.go g w' es:=by
 unfold fR G stepG unwind doReturn at h ⊢;simp only[Frame.at,hd,hn]at h ⊢;cases hf:P.funcs[b.fn]? with
 |none=>simpa[hf]using h
 |some fn=>
  cases hr:(results fn a.tmps).run P w with
  |ok v w2=>simpa[hf,hr]using h
  |halt hh w2=>cases hh<;>simp[hf,hr,GStep.after]at h
theorem aa.jz (hC:kO P F S){fn:Func}{todo:List Item}{v:Value}{b':Frame}{a':Act}{ops:Array Oper}{i:Nat}{rest:List Nat}{kk:List Item}(hn:b.kind=.normal)(hd:a.defers=[])(hf:P.funcs[b.fn]?=some fn)
 (hr:(results fn a.tmps).run P w=.ok v w)(h:aa P S Ψ (b'.at (a'.put ((ops[i]?).bind (·.dst)) v) (.inRegion ops rest::kk)) cs w):aa P S Ψ (fR b a todo) (b'.at a' (.inRegion ops (i::rest)::kk)::cs) w:=
 aa.walk λρ W hS fe hcs=>by
  refine ai.step' rfl λaH hr1=>?_;have hS1:=hS.rely hr1;obtain⟨hv,es,hstep,ic⟩:=FZ (main:=true) (fr:=fR b a []) hC (NV hn hd ⟨fn,hf⟩ rfl) fe hS1 rfl hf hr (bV ρ (b'.at a' (.inRegion ops (i::rest)::kk))) (cs.map (bV ρ));have sM:∀r,r<w.heap.size→dD ρ w.heap.size aH.heap.size r=ρ r:=λr hlt=>aT hlt;have e0:bV ρ (fR b a todo)=bV (dD ρ w.heap.size aH.heap.size) (fR b a todo):=ew fe (λr hlt=>(sM r hlt).symm) (λ_=>rfl);have e1:bV ρ (b'.at a' (.inRegion ops (i::rest)::kk))=bV (dD ρ w.heap.size aH.heap.size) (b'.at a' (.inRegion ops (i::rest)::kk)):=ew (hcs _ zap) (λr hlt=>(sM r hlt).symm) (λ_=>rfl);have e2:cs.map (bV ρ)=cs.map (bV (dD ρ w.heap.size aH.heap.size)):=eQ (λr hlt=>(sM r hlt).symm) (λ_=>rfl) λf hf=>hcs f (zas _ hf);have sJ:(bV ρ (b'.at a' (.inRegion ops (i::rest)::kk))).finish (rv (dD ρ w.heap.size aH.heap.size) v)=bV (dD ρ w.heap.size aH.heap.size) (b'.at (a'.put ((ops[i]?).bind (·.dst)) v) (.inRegion ops rest::kk)):=by
   rw[e1,ml,ml,Frame.finish_at,Fq]
  rw[sJ]at hstep;refine⟨_,aH,es,by rw[e0,QL];exact Ke (a:=a.rn (dD ρ w.heap.size aH.heap.size)) [] todo hn hd hstep,⟨rfl,rfl,rfl,zaa _,λ_ _ _=>rfl,λe he=>?_⟩,?_⟩
  ·have:=oJ (ro:=λ_=>False) (ic e he);rw[cV]at this;exact this.mono λb hb=> .inl hb
  ·rw[sO _ rfl,e2];exact ai.co h hS1 (λx hx=>by rwa[cV]at hx) (MG.put (P:=P) (hcs _ zap) _ hv) (λf hf=>hcs f (zas _ hf)) ⟨zaa _,λr hr=>aT hr⟩
end
end Go.Ren
namespace Go.Loop
inductive Dt where
 |nil
 |sym (s:List UInt8)
 |num (n d:Int)
 |cQ (n:Int)
 |su (n:Int)
 |txt (i:Nat) (s:List UInt8)
 |pair (i:Nat) (a b:Dt)
 |vec (i:Nat) (l:Dt)
 |iw
 |cK (a l:Dt)
 |put (n:Int) (d:Dt)
 |ask (n:Int)
deriving DecidableEq
structure gW where
 k:Nat
 fresh:Nat
 aP:List Int
deriving DecidableEq
structure Pl where
 depth:Nat
 passed:Bool
 ahead:List Int
inductive RR (α:Type) where
 |out
 |fail (e:Int) (at_:Nat)
 |ok (a:α) (s:gW)
def RR.bind {α β:Type}(x:RR α)(f:α→gW→RR β):RR β:=
 match x with
 |.out=> .out
 |.fail e a=> .fail e a
 |.ok a s=>f a s
def bO:List Dt→Dt→Nat→Dt×Nat
 |[],rest,i=>(rest,i)
 |d::l,rest,i=>(.pair (bO l rest i).2 d (bO l rest i).1,(bO l rest i).2+1)
def uI:List Dt→Dt
 |[]=> .iw
 |d::l=> .cK d (uI l)
def C0 (t:Tok)(s:gW):RR Dt:=
 if t.kind=8 then .ok (.txt s.fresh t.text) { s with fresh:=s.fresh+1 }
 else if t.kind=9 then .ok (.su t.n) s
 else if t.kind=12 then .ok (.cQ t.n) s
 else if t.kind=14 then .ok (.sym t.text) s
 else if t.fault≠0 then .fail t.fault t.from_
 else .ok (.num t.n t.d) s
section
variable (T:List Tok)(Im:Nat)
mutual
def aV:Nat→Pl→gW→RR Dt
 |0,_,_=> .out
 |n+1,p,s=>(bq n p s).bind λt s=>cJ n t p s
def bq:Nat→Pl→gW→RR Tok
 |0,_,_=> .out
 |n+1,p,s=>
  match T[s.k]? with
  |none=> .out
  |some t=>
   if t.kind=0 then .fail 4 t.from_
   else if t.kind=1 then .fail 3 t.from_
   else if t.kind=6 then(aV n ⟨p.depth,true,[]⟩ { s with k:=s.k+1 }).bind λ_ s=>bq n p s
   else .ok t { s with k:=s.k+1 }
def cJ:Nat→Tok→Pl→gW→RR Dt
 |0,_,_,_=> .out
 |n+1,t,p,s=>
  if t.kind=3∨t.kind=7 then .fail 3 t.from_
  else if t.kind=10 then
   (if p.passed∨t.n∈s.aP then .fail 5 t.from_
    else if p.depth=Im then .fail 6 t.from_
    else(aV n ⟨p.depth+1,p.passed,p.ahead++[t.n]⟩ { s with aP:=t.n::s.aP }).bind λd s=> .ok (.put t.n d) s)
  else if t.kind=11 then(if p.passed∨t.n∉s.aP∨t.n∈p.ahead then .fail 5 t.from_ else .ok (.ask t.n) s)
  else if t.kind=2∨t.kind=5∨t.kind=4 then
   (if p.depth=Im then .fail 6 t.from_
    else if t.kind=5 then(jf n [] ⟨p.depth+1,p.passed,[]⟩ { s with fresh:=s.fresh+1 }).bind λl s'=> .ok (.vec s.fresh (uI l)) s'
    else if t.kind=4 then(aV n ⟨p.depth+1,p.passed,[]⟩ s).bind λd s=> .ok (bO [.sym [113,117,111,116,101],d] .nil s.fresh).1 { s with fresh:=s.fresh+2 }
    else dh n [] ⟨p.depth+1,p.passed,[]⟩ s)
  else C0 t s
def dh:Nat→List Dt→Pl→gW→RR Dt
 |0,_,_,_=> .out
 |n+1,data,p,s=>
  (bq n p s).bind λt s=>
    if t.kind=3 then .ok (bO data .nil s.fresh).1 { s with fresh:=(bO data .nil s.fresh).2 }
    else if t.kind=7∧data≠[]then
     (aV n p s).bind λrest s=>(bq n p s).bind λt s=>
       if t.kind=3 then .ok (bO data rest s.fresh).1 { s with fresh:=(bO data rest s.fresh).2 } else .fail 3 t.from_
    else(cJ n t p s).bind λd s=>dh n (data++[d]) p s
def jf:Nat→List Dt→Pl→gW→RR (List Dt)
 |0,_,_,_=> .out
 |n+1,data,p,s=>
  (bq n p s).bind λt s=>
    if t.kind=3 then .ok data s
    else if data.length=20 then .fail 3 t.from_
    else(cJ n t p s).bind λd s=>jf n (data++[d]) p s
end
end
def bG (n:Int):Dt→Option Dt
 |.put m d=>if m=n then some d else bG n d
 |.pair _ a b=>(bG n a).orElse λ_=>bG n b
 |.vec _ l=>bG n l
 |.cK a l=>(bG n a).orElse λ_=>bG n l
 |_=>none
def bR (root:Dt):Nat→Dt→Dt
 |0,d=>d
 |n+1,.put _ d=>bR root n d
 |n+1,.ask m=>bR root n ((bG m root).getD .nil)
 |_+1,d=>d
structure ng where
 kind:Int
 text:List UInt8
 n:Int
 d:Int
 subs:List Nat
deriving DecidableEq
structure mU where
 nodes:List ng
 met:List (Nat×Nat)
def mU.add (g:mU)(x:ng):mU:={ g with nodes:=g.nodes++[x] }
def dR (l:List ng)(i:Nat)(s:List Nat):List ng:=l.modify i λx=>{ x with subs:=s }
end Go.Loop
