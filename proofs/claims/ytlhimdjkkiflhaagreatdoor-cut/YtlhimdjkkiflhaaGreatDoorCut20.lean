import Derived.Test.YtlhimdjkkiflhaaGreatDoorCut19
set_option maxHeartbeats 8000000
set_option maxRecDepth 100000
namespace Go.Proofs.YtlhimdjkkiflhaaGreatDoor
open Go.Proofs.Tryz
open Go.RowKit Go.Loop
theorem yq {w:World}{b:Nat}(hb:w.heap[b]?=some (.cells #[.pointer none,.slice none 0 0] 116 (0,0))):Calls prog 63 #[.pointer (some ⟨b,0,none⟩)] w λe w'=>e=.returned (.string ⟨#[]⟩)∧w'=w.drew:=by
 have c1:w.drew.cell? ⟨b,1,none⟩=some (.slice none 0 0):=by
  have:w.drew.heap[b]?=some (.cells #[.pointer none,.slice none 0 0] 116 (0,0)):=hb;simp[World.cell?,this]
 have hSD:(Builtin.unsafeSliceData_ #[80] 190 #[.slice none 0 0]).run prog w.drew=.ok (.pointer none) w.drew:=Lib.run_unsafeSliceData_nil _ _ _ _ _;have hUS:(Builtin.unsafeString_ #[190,3] 9 #[.pointer none,.int .i64 0]).run prog w.drew=.ok (.string ⟨#[]⟩) w.drew:=
  Lib.run_unsafeString_none _ _ _ _ _
 clear hb;go_enter func63,ntmps63
 go_wp2
 go_region;all_goals (go_wp2;go_ret;exact⟨rfl,rfl⟩)
def Kn (W w:World)(N:Nat)(l:List UInt8):Prop:=N=W.heap.size∧∃cs v,cs.size=2∧fC w 116 0 N N cs v (Lib.byteCells l)∧Below N W w∧(l=[]→cs=#[.pointer none,.slice none 0 0])
theorem Kn.start (W:World):Kn W (W.alloc (.cells #[.pointer none,.slice none 0 0] 116)) W.heap.size []:=
 ⟨rfl,_,_,rfl,⟨zaa _,heap_alloc_new W _,Or.inl rfl,rfl,World.ownsRow_nil _ _ _ _⟩,(Below.refl _ _).alloc (zaa _) _,λ_=>rfl⟩
theorem Kn.fV {W w:World}{N:Nat}{l:List UInt8}(h:Kn W w N l)(c:UInt8)(hl:l.length≤2000000):Calls prog 191 #[.pointer (some ⟨N,0,none⟩),.int .u8 c.toNat] w λe w'=>e=.returned .nilIface∧Kn W w' N (l++[c]):=by
 obtain⟨rfl,cs,v,hs,hb,hw,_⟩:=h;have hsz:=hw.size;refine(pN (hs▸w9) (by decide) hb c.toNat (by rw[Lib.byteCells_length];omega) hsz).mono ?_;rintro e w' ⟨rfl,v',h1,h2⟩;refine⟨rfl,rfl,_,v',?_,by rw[Lib.byteCells_append];exact h1,hw.trans (h2.below hsz (zaa _) λk hk=>(hb.own.lt k hk).1),λh=>by simp at h⟩;simp[kL,hs]
theorem Kn.string {W w:World}{N:Nat}{l:List UInt8}(h:Kn W w N l):Calls prog 63 #[.pointer (some ⟨N,0,none⟩)] w λe w'=>e=.returned (.string ⟨⟨l⟩⟩)∧Below W.heap.size W w':=by
 obtain⟨rfl,cs,v,hs,hb,hw,h0⟩:=h;by_cases hl:l=[]
 ·subst hl;have hblk:=hb.blk;rw[h0 rfl]at hblk;refine(yq hblk).mono ?_;rintro e w' ⟨rfl,rfl⟩;exact⟨rfl,hw.drew⟩
 ·refine(lI hb hl).mono ?_;rintro e w' ⟨rfl,h2⟩;exact⟨rfl,hw.trans (h2.below hw.size (zaa _) λk hk=>(hb.own.lt k hk).1)⟩
theorem Kn.below {W w:World}{N:Nat}{l:List UInt8}(h:Kn W w N l):Below W.heap.size W w:=by
 obtain⟨rfl,_,_,_,_,hw,_⟩:=h;exact hw
theorem Uo {k:Nat}{o:List UInt8}{c:UInt8}{r:List UInt8}(h:c=34):fx k o (c::r)=.ok (k+1) o:=by
 cases r<;>simp[fx,h]
theorem Up {k:Nat}{o:List UInt8}:fx k o [92]=.fin:=rfl
theorem Uq {k:Nat}{o:List UInt8}{x:UInt8}{r:List UInt8}(h:Cj x=none):fx k o (92::x::r)=.bad:=by
 rw[fx,if_neg (by decide),if_pos rfl,h]
theorem Ur {k:Nat}{o:List UInt8}{x b:UInt8}{r:List UInt8}(h:Cj x=some b):fx k o (92::x::r)=fx (k+2) (o++[b]) r:=by
 rw[fx,if_neg (by decide),if_pos rfl,h]
theorem Pp {k:Nat}{o:List UInt8}{c:UInt8}{r:List UInt8}(h1:¬c=34)(h2:¬c=92):fx k o (c::r)=fx (k+1) (o++[c]) r:=by
 cases r with
 |nil=>simp[fx,h1]
 |cons e r=>rw[fx,if_neg h1,if_neg h2]
def T0:Obj:= .cells #[.int .i64 0,.int .i64 0,.int .i64 0,.string ⟨#[]⟩,.int .i64 0,.int .i64 0,.int .i64 0] 131
theorem GZ {c:UInt8}{n:Nat}(hn:n<256):(c.toNat:Int)=(n:Int)↔c=n.toUInt8:=by
 rw[←UInt8.toNat_inj];simp[Nat.mod_eq_of_lt hn];omega
theorem AP (s:ByteArray)(a:Nat)(w:World)(hs:s.size≤1000000)(ha:a<s.size):Calls prog 169 #[.string s,.int .i64 a] w λe w'=>e=.returned (bn (lg s.data.toList a))∧Below w.heap.size w w':=by
 have hT:Hid (lg s.data.toList a=match fx (a+1) [] (s.data.toList.drop (a+1))with|.fin=>b9 s.data.toList|.bad=>bY a|.ok e b=>{ aq 8 a e with text:=b }):=rfl;have H0:Hid (Kn (w.alloc T0) ((w.alloc T0).alloc (.cells #[.pointer none,.slice none 0 0] 116)) (w.heap.size+1) []):=by
  have:=Kn.start (w.alloc T0);rw[show(w.alloc T0).heap.size=w.heap.size+1 by simp]at this;exact this
 have hblk:Hid ((w.alloc T0).heap[w.heap.size]?=some T0):=heap_alloc_new w _;have hw0:Hid (Below w.heap.size w (w.alloc T0)):=(Below.refl _ w).alloc (zaa _) _;go_enter func169,ntmps169;go_wp2_with fail;go_loopw [6] (λi wr=>∃(k:Nat) (o:List UInt8),a+1≤k∧k≤s.size∧i=.int .i64 k∧o.length≤k∧Hid (Kn (w.alloc T0) wr (w.heap.size+1) o)∧Hid (fx (a+1) [] (s.data.toList.drop (a+1))=fx k o (s.data.toList.drop k))) (λi _=>s.size-(intOf i).toNat)
 case atStart=>exact⟨a+1,[],zaa _,by omega,by go_num,by simp,H0.out,rfl⟩
 case round=>
  obtain⟨k,o,I1,hk,rfl,Mc,H2,hr⟩:=hrel;by_cases hlt:k<s.size
  ·have hd:Hid _:=drop_cons s k hlt;by_cases YG:(s[k].toNat :Int)=34
   ·have he:Hid (lg s.data.toList a={ aq 8 a (k+1)with text:=o }):=by
     show _=_;rw[hT.out,hr.out,hd.out,Uo ((GZ (by decide:34<256)).1 YG)]
    go_wp2_with fail;refine(H2.out.string).mono ?_;rintro e w1 ⟨rfl,hb⟩;obtain⟨⟨x0,x1,x2,x3,x4,x5,x6⟩,f0,f1,f2,f3,f4,f5,f6⟩:=dz (b:=w.heap.size) hb hblk.out;have HB:Hid (Below w.heap.size w w1):=hw0.out.trans (hb.mono (by simp));clear hb;go_wp2_with fail;exact bodyPost_ret (v:=bn { aq 8 a (k+1)with text:=o }) (by simp[results,results169,bn,aq,go_sem, *]) rfl ⟨by rw[he.out],gC HB.out _ _ _ _ _ _ _⟩
   by_cases WM:(s[k].toNat :Int)=92
   ·have Us:Hid (s[k]=92):=(GZ (by decide:92<256)).1 WM;by_cases abm:k+1<s.size
    ·have WK:Hid _:=drop_cons s (k+1) abm;cases hes:Cj s[k+1]with
     |none=>
      have he:Hid (lg s.data.toList a=bY a):=by
       show _=_;rw[hT.out,hr.out,hd.out,Us.out,WK.out,Uq hes]
      have Ut:Hid _:=hes;go_wp2_with fail;refine(tV _ _).mono ?_;rw[Ut.out];rintro e w' ⟨rfl,rfl⟩;go_wp2_with fail;refine(jl _ _).mono ?_;rintro e w1 ⟨rfl,hb1⟩;have hb:=H2.out.below.trans (hb1.mono H2.out.below.size);obtain⟨⟨x0,x1,x2,x3,x4,x5,x6⟩,f0,f1,f2,f3,f4,f5,f6⟩:=dz (b:=w.heap.size) hb hblk.out;have HB:Hid (Below w.heap.size w w1):=hw0.out.trans (hb.mono (by simp));clear hb hb1;unfold bn;go_wp2_with fail;exact bodyPost_ret (v:=bn (bY a)) (by simp[results,results169,bn,aq,bY,go_sem, *]) rfl ⟨by rw[he.out],gC HB.out _ _ _ _ _ _ _⟩
     |some b=>
      have xY:Hid (fx (a+1) [] (s.data.toList.drop (a+1))=fx (k+2) (o++[b]) (s.data.toList.drop (k+2))):=by
       show _=_;rw[hr.out,hd.out,Us.out,WK.out,Ur hes]
      have Ut:Hid _:=hes;go_wp2_with fail;refine(tV _ _).mono ?_;rw[Ut.out];rintro e w' ⟨rfl,rfl⟩;go_wp2_with fail;refine(H2.out.fV b (by omega)).mono ?_;rintro e w2 ⟨rfl,h2⟩;have H3:Hid _:=h2;clear h2 H2;go_wp2_with fail;go_roundw
      case rel=>exact⟨k+2,o++[b],by omega,by omega,by go_num,by simp;omega,H3.out,xY.out⟩
      case measure=>simp[intOf];omega
    ·have xQ:k+1=s.size:=by omega
     have he:Hid (lg s.data.toList a=b9 s.data.toList):=by
      show _=_;rw[hT.out,hr.out,hd.out,Us.out,show s.data.toList.drop (k+1)=[] from zbf (by rw[bR];omega),Up]
     have q:(((k:Int)+1)==(s.size:Int))=true:=by rw[beq_iff_eq];omega
     go_wp2_with fail;refine(sT _ _).mono ?_;rintro e w1 ⟨rfl,hb1⟩;have hb:=H2.out.below.trans (hb1.mono H2.out.below.size);obtain⟨⟨x0,x1,x2,x3,x4,x5,x6⟩,f0,f1,f2,f3,f4,f5,f6⟩:=dz (b:=w.heap.size) hb hblk.out;have HB:Hid (Below w.heap.size w w1):=hw0.out.trans (hb.mono (by simp));clear hb hb1;unfold bn;go_wp2_with fail;exact bodyPost_ret (v:=bn (b9 s.data.toList)) (by simp[results,results169,bn,aq,b9,go_sem, *]) rfl ⟨by rw[he.out],gC HB.out _ _ _ _ _ _ _⟩
   ·have xY:Hid (fx (a+1) [] (s.data.toList.drop (a+1))=fx (k+1) (o++[s[k]]) (s.data.toList.drop (k+1))):=by
     show _=_;rw[hr.out,hd.out,Pp (λe=>YG ((GZ (by decide:34<256)).2 e)) (λe=>WM ((GZ (by decide:92<256)).2 e))]
    have q1:((s[k].toNat :Int)==34)=false:=by rw[beq_eq_false_iff_ne];exact YG
    have q2:((s[k].toNat :Int)==92)=false:=by rw[beq_eq_false_iff_ne];exact WM
    go_wp2_with fail;refine(H2.out.fV s[k] (by omega)).mono ?_;rintro e w2 ⟨rfl,h2⟩;have H3:Hid _:=h2;clear h2 H2;go_wp2_with fail;go_roundw
    case rel=>exact⟨k+1,o++[s[k]],by omega,by omega,by go_num,by simp;omega,H3.out,xY.out⟩
    case measure=>simp[intOf];omega
  ·have he:Hid (lg s.data.toList a=b9 s.data.toList):=by
    show _=_;rw[hT.out,hr.out,show s.data.toList.drop k=[] from zbf (by rw[bR];omega)];rfl
   go_wp2_with fail;refine(sT _ _).mono ?_;rintro e w1 ⟨rfl,hb1⟩;have hb:=H2.out.below.trans (hb1.mono H2.out.below.size);obtain⟨⟨x0,x1,x2,x3,x4,x5,x6⟩,f0,f1,f2,f3,f4,f5,f6⟩:=dz (b:=w.heap.size) hb hblk.out;have HB:Hid (Below w.heap.size w w1):=hw0.out.trans (hb.mono (by simp));clear hb hb1;unfold bn;go_wp2_with fail;exact bodyPost_ret (v:=bn (b9 s.data.toList)) (by simp[results,results169,bn,aq,b9,go_sem, *]) rfl ⟨by rw[he.out],gC HB.out _ _ _ _ _ _ _⟩
theorem AQ (s:ByteArray)(a:Nat)(w:World)(hs:s.size≤1000000)(ha:a+2≤s.size):Calls prog 198 #[.string s,.int .i64 a] w λe w'=>e=.returned (bn (kK s.data.toList a))∧Below w.heap.size w w':=by
 have hle:=jv gw (s.data.toList.drop (a+2));rw[zah,bR]at hle;have hT:Hid (kK s.data.toList a=if 1<br gw (s.data.toList.drop (a+2))then(match rC (fR s.data.toList (a+2) (a+2+br gw (s.data.toList.drop (a+2))))with|none=>bY a|some k=>{ aq 9 a (a+2+br gw (s.data.toList.drop (a+2)))with n:=k })else match s.data.toList.drop (a+2)with|[]=>bY a|c::_=>if 33≤c.toNat∧c.toNat≤126 then { aq 9 a (a+3)with n:=(c.toNat:Int) } else bY a):=rfl;generalize hk:br gw (s.data.toList.drop (a+2))=k at *;have HK:Hid _:=hk;clear hk;by_cases h1:1<k
 ·have L8:Hid ((s.extract (a+2) (a+2+k)).data.toList=fR s.data.toList (a+2) (a+2+k)):=oo _ _ _;cases hc:rC (fR s.data.toList (a+2) (a+2+k))with
  |none=>
   have e:Hid (kK s.data.toList a=bY a):=by show _=_;rw[hT.out,if_pos h1,hc]
   clear hT;go_enter func198,ntmps198;go_wp2_with (go_at_call 148;refine(gP _ _ _ (by unfold maxLen;omega) (by omega) (by omega)).mono ?_;rintro e w' ⟨rfl,rfl⟩;rw[show((a:Int)+2).toNat=a+2 by omega,HK.out]);refine(wY _ _).mono ?_;rw[L8.out,hc];rintro e w' ⟨rfl,rfl⟩;go_wp2_with fail;refine(jl _ _).mono ?_;rintro e w1 ⟨rfl,hb⟩;obtain⟨⟨x0,x1,x2,x3,x4,x5,x6⟩,f0,f1,f2,f3,f4,f5,f6⟩:=dz (b:=w.heap.size) hb (heap_alloc_new w _);have HB:Hid (Below w.heap.size w w1):=((Below.refl _ w).alloc (zaa _) _).trans (hb.mono (by simp));clear hb;unfold bn;go_wp2_with fail;exact bodyPost_ret (v:=bn (bY a)) (by simp[results,results198,bn,aq,bY,go_sem, *]) rfl ⟨by rw[e.out],gC HB.out _ _ _ _ _ _ _⟩
  |some n=>
   have e:Hid (kK s.data.toList a={ aq 9 a (a+2+k)with n:=n }):=by show _=_;rw[hT.out,if_pos h1,hc]
   clear hT;go_enter func198,ntmps198;go_wp2_with (go_at_call 148;refine(gP _ _ _ (by unfold maxLen;omega) (by omega) (by omega)).mono ?_;rintro e w' ⟨rfl,rfl⟩;rw[show((a:Int)+2).toNat=a+2 by omega,HK.out]);refine(wY _ _).mono ?_;rw[L8.out,hc];rintro e w' ⟨rfl,rfl⟩;go_wp2_with fail;refine bodyPost_ret (v:=bn { aq 9 a (a+2+k)with n:=n }) (by simp[results,results198,bn,aq,go_sem]) rfl ⟨by rw[e.out],?_⟩
   (repeat (first|with_reducible refine Below.setCell ?_ (by simp) _|with_reducible refine Below.alloc ?_ (by simp) _));with_reducible exact Below.refl _ _
 by_cases hlt:a+2<s.size
 ·have hd:=drop_cons s (a+2) hlt;have hwr:wrap64 (s[a+2].toNat :Int)=(s[a+2].toNat :Int):=by have:=s[a+2].toNat_lt;unfold wrap64;omega
  by_cases hp:33≤(s[a+2].toNat :Int)∧(s[a+2].toNat :Int)≤126
  ·have e:Hid (kK s.data.toList a={ aq 9 a (a+3)with n:=(s[a+2].toNat :Int) }):=by show _=_;rw[hT.out,if_neg h1,hd];exact if_pos ⟨by omega,by omega⟩
   have uZ:Hid (decide (33≤(s[a+2].toNat :Int)∧(s[a+2].toNat :Int)≤126)=true):=decide_eq_true hp;clear hT hd hp;go_enter func198,ntmps198;go_wp2_with (go_at_call 148;refine(gP _ _ _ (by unfold maxLen;omega) (by omega) (by omega)).mono ?_;rintro e w' ⟨rfl,rfl⟩;rw[show((a:Int)+2).toNat=a+2 by omega,HK.out]);refine(lD _ _).mono ?_;rw[uZ.out];rintro e w' ⟨rfl,rfl⟩;go_wp2_with fail;refine bodyPost_ret (v:=bn { aq 9 a (a+3)with n:=(s[a+2].toNat :Int) }) (by simp[results,results198,bn,aq,go_sem];try omega) rfl ⟨by rw[e.out],?_⟩
   (repeat (first|with_reducible refine Below.setCell ?_ (by simp) _|with_reducible refine Below.alloc ?_ (by simp) _));with_reducible exact Below.refl _ _
  ·have e:Hid (kK s.data.toList a=bY a):=by show _=_;rw[hT.out,if_neg h1,hd];exact if_neg (by omega)
   have uZ:Hid (decide (33≤(s[a+2].toNat :Int)∧(s[a+2].toNat :Int)≤126)=false):=decide_eq_false hp;clear hT hd hp;go_enter func198,ntmps198;go_wp2_with (go_at_call 148;refine(gP _ _ _ (by unfold maxLen;omega) (by omega) (by omega)).mono ?_;rintro e w' ⟨rfl,rfl⟩;rw[show((a:Int)+2).toNat=a+2 by omega,HK.out]);refine(lD _ _).mono ?_;rw[uZ.out];rintro e w' ⟨rfl,rfl⟩;go_wp2_with fail;refine(jl _ _).mono ?_;rintro e w1 ⟨rfl,hb⟩;obtain⟨⟨x0,x1,x2,x3,x4,x5,x6⟩,f0,f1,f2,f3,f4,f5,f6⟩:=dz (b:=w.heap.size) hb (heap_alloc_new w _);have HB:Hid (Below w.heap.size w w1):=((Below.refl _ w).alloc (zaa _) _).trans (hb.mono (by simp));clear hb;unfold bn;go_wp2_with fail;exact bodyPost_ret (v:=bn (bY a)) (by simp[results,results198,bn,aq,bY,go_sem, *]) rfl ⟨by rw[e.out],gC HB.out _ _ _ _ _ _ _⟩
 ·have hd:s.data.toList.drop (a+2)=[]:=zbf (by rw[bR];omega);have e:Hid (kK s.data.toList a=bY a):=by show _=_;rw[hT.out,if_neg h1,hd]
  clear hT hd;go_enter func198,ntmps198;go_wp2_with (go_at_call 148;refine(gP _ _ _ (by unfold maxLen;omega) (by omega) (by omega)).mono ?_;rintro e w' ⟨rfl,rfl⟩;rw[show((a:Int)+2).toNat=a+2 by omega,HK.out]);refine(jl _ _).mono ?_;rintro e w1 ⟨rfl,hb⟩;obtain⟨⟨x0,x1,x2,x3,x4,x5,x6⟩,f0,f1,f2,f3,f4,f5,f6⟩:=dz (b:=w.heap.size) hb (heap_alloc_new w _);have HB:Hid (Below w.heap.size w w1):=((Below.refl _ w).alloc (zaa _) _).trans (hb.mono (by simp));clear hb;unfold bn;go_wp2_with fail;exact bodyPost_ret (v:=bn (bY a)) (by simp[results,results198,bn,aq,bY,go_sem, *]) rfl ⟨by rw[e.out],gC HB.out _ _ _ _ _ _ _⟩
theorem E6 {s:ByteArray}{a:Nat}(h:∀c r,s.data.toList.drop (a+1)=c::r→¬c.toNat=40∧¬c.toNat=59∧¬c.toNat=92):gA s.data.toList a=(eo s.data.toList a).getD (dW s.data.toList a):=by
 unfold gA;split
 ·rfl
 ·rename_i c r hd;obtain⟨h1,h2,h3⟩:=h c r hd;rw[if_neg h1,if_neg h2,if_neg h3]
theorem AR (s:ByteArray)(a:Nat)(w:World)(hs:s.size≤1000000)(ha:a<s.size):Calls prog 170 #[.string s,.int .i64 a] w λe w'=>e=.returned (bn (gA s.data.toList a))∧Below w.heap.size w w':=by
 by_cases hlt:a+1<s.size
 ·have hd:=drop_cons s (a+1) hlt;have hT:Hid (gA s.data.toList a=if s[a+1].toNat=40 then aq 5 a (a+2)else if s[a+1].toNat=59 then aq 6 a (a+2)else if s[a+1].toNat=92 then kK s.data.toList a else(eo s.data.toList a).getD (dW s.data.toList a)):=by
   show _=_;unfold gA;rw[hd]
  clear hd;by_cases h40:(s[a+1].toNat :Int)=40
  ·have e:Hid (gA s.data.toList a=aq 5 a (a+2)):=by show _=_;rw[hT.out,if_pos (by omega)]
   go_enter func170,ntmps170;go_wp2_with fail;refine bodyPost_ret (v:=bn (aq 5 a (a+2))) (by simp[results,results170,bn,aq,go_sem]) rfl ⟨by rw[e.out],?_⟩
   (repeat (first|with_reducible refine Below.setCell ?_ (by simp) _|with_reducible refine Below.alloc ?_ (by simp) _));with_reducible exact Below.refl _ _
  have q1:((s[a+1].toNat :Int)==40)=false:=by rw[beq_eq_false_iff_ne];exact h40
  by_cases YC:(s[a+1].toNat :Int)=59
  ·have e:Hid (gA s.data.toList a=aq 6 a (a+2)):=by show _=_;rw[hT.out,if_neg (by omega),if_pos (by omega)]
   clear q1;go_enter func170,ntmps170;go_wp2_with fail;refine bodyPost_ret (v:=bn (aq 6 a (a+2))) (by simp[results,results170,bn,aq,go_sem]) rfl ⟨by rw[e.out],?_⟩
   (repeat (first|with_reducible refine Below.setCell ?_ (by simp) _|with_reducible refine Below.alloc ?_ (by simp) _));with_reducible exact Below.refl _ _
  have q2:((s[a+1].toNat :Int)==59)=false:=by rw[beq_eq_false_iff_ne];exact YC
  by_cases WM:(s[a+1].toNat :Int)=92
  ·have e:Hid (gA s.data.toList a=kK s.data.toList a):=by show _=_;rw[hT.out,if_neg (by omega),if_neg (by omega),if_pos (by omega)]
   clear q1 q2;go_enter func170,ntmps170;go_wp2_with fail;refine(AQ _ _ _ hs (by omega)).mono ?_;rintro e w1 ⟨rfl,hb⟩;obtain⟨⟨x0,x1,x2,x3,x4,x5,x6⟩,f0,f1,f2,f3,f4,f5,f6⟩:=dz (b:=w.heap.size) hb (heap_alloc_new w _);have HB:Hid (Below w.heap.size w w1):=((Below.refl _ w).alloc (zaa _) _).trans (hb.mono (by simp));clear hb;unfold bn;go_wp2_with fail;exact bodyPost_ret (v:=bn (kK s.data.toList a)) (by simp[results,results170,bn,go_sem, *]) rfl ⟨by rw[e.out],gC HB.out _ _ _ _ _ _ _⟩
  have q3:((s[a+1].toNat :Int)==92)=false:=by rw[beq_eq_false_iff_ne];exact WM
  have e0:Hid (gA s.data.toList a=(eo s.data.toList a).getD (dW s.data.toList a)):=by show _=_;rw[hT.out,if_neg (by omega),if_neg (by omega),if_neg (by omega)]
  clear hT h40 YC WM;cases hl:eo s.data.toList a with
  |some t=>
   have e:Hid (gA s.data.toList a=t):=by show _=_;rw[e0.out,hl];rfl
   have hl':Hid _:=hl;clear hl e0;go_enter func170,ntmps170;go_wp2_with fail;refine(lG _ _ _ hs (by omega)).mono ?_;rw[hl'.out];rintro e w1 ⟨rfl,hb⟩;obtain⟨⟨x0,x1,x2,x3,x4,x5,x6⟩,f0,f1,f2,f3,f4,f5,f6⟩:=dz (b:=w.heap.size) hb (heap_alloc_new w _);have HB:Hid (Below w.heap.size w w1):=((Below.refl _ w).alloc (zaa _) _).trans (hb.mono (by simp));have hs1:w.heap.size<w1.heap.size:=by have:=hb.size;simp at this;omega
   have Uf:¬w.heap.size=w1.heap.size:=by omega
   have Pe:¬w1.heap.size=w.heap.size:=by omega
   clear hb;simp only[zaD,Option.isSome_some];unfold bn;go_wp2_with fail;refine bodyPost_ret (v:=bn t) (by simp[results,results170,bn,go_sem, *]) rfl ⟨by rw[e.out],?_⟩
   (repeat (first|with_reducible refine Below.setCell ?_ (by first|(simp;done)|(simp;omega)) _|with_reducible refine Below.alloc ?_ (by first|omega|(simp;done)|(simp;omega)) _));with_reducible exact HB.out
  |none=>
   have e:Hid (gA s.data.toList a=dW s.data.toList a):=by show _=_;rw[e0.out,hl];rfl
   have hl':Hid _:=hl;clear hl e0;go_enter func170,ntmps170;go_wp2_with fail;refine(lG _ _ _ hs (by omega)).mono ?_;rw[hl'.out];rintro e w1 ⟨rfl,hb⟩;have pg:Hid _:=(hb.block w.heap.size (by simp)).trans (heap_alloc_new w _);have HB:Hid (Below w.heap.size w w1):=((Below.refl _ w).alloc (zaa _) _).trans (hb.mono (by simp));have hs1:w.heap.size<w1.heap.size:=by have:=hb.size;simp at this;omega
   clear hb;simp only[zbd,Option.isSome_none];unfold bn wZ;go_wp2_with fail;refine(pL _ _ _ hs (by omega)).mono ?_;rintro e w2 ⟨rfl,hb2⟩;obtain⟨⟨x0,x1,x2,x3,x4,x5,x6⟩,f0,f1,f2,f3,f4,f5,f6⟩:=dz (b:=w.heap.size) hb2 ((Lib.alloc_old _ _ _ hs1).trans pg.out);have ij:Hid (Below w.heap.size w w2):=(HB.out.alloc (by omega) _).trans (hb2.mono (by simp;omega));clear hb2;unfold bn;go_wp2_with fail;exact bodyPost_ret (v:=bn (dW s.data.toList a)) (by simp[results,results170,bn,go_sem, *]) rfl ⟨by rw[e.out],gC ij.out _ _ _ _ _ _ _⟩
 ·have e0:Hid (gA s.data.toList a=(eo s.data.toList a).getD (dW s.data.toList a)):=E6 λc r h=>by
   have:=congrArg List.length h;rw[zah,bR]at this;simp at this;omega
  cases hl:eo s.data.toList a with
  |some t=>
   exfalso;unfold eo at hl;simp only[show s.data.toList.drop (a+1)=[] from zbf (by rw[bR];omega),br]at hl;simp at hl
  |none=>
   have e:Hid (gA s.data.toList a=dW s.data.toList a):=by show _=_;rw[e0.out,hl];rfl
   have hl':Hid _:=hl;clear hl e0;go_enter func170,ntmps170;go_wp2_with fail;refine(lG _ _ _ hs (by omega)).mono ?_;rw[hl'.out];rintro e w1 ⟨rfl,hb⟩;have pg:Hid _:=(hb.block w.heap.size (by simp)).trans (heap_alloc_new w _);have HB:Hid (Below w.heap.size w w1):=((Below.refl _ w).alloc (zaa _) _).trans (hb.mono (by simp));have hs1:w.heap.size<w1.heap.size:=by have:=hb.size;simp at this;omega
   clear hb;simp only[zbd,Option.isSome_none];unfold bn wZ;go_wp2_with fail;refine(pL _ _ _ hs (by omega)).mono ?_;rintro e w2 ⟨rfl,hb2⟩;obtain⟨⟨x0,x1,x2,x3,x4,x5,x6⟩,f0,f1,f2,f3,f4,f5,f6⟩:=dz (b:=w.heap.size) hb2 ((Lib.alloc_old _ _ _ hs1).trans pg.out);have ij:Hid (Below w.heap.size w w2):=(HB.out.alloc (by omega) _).trans (hb2.mono (by simp;omega));clear hb2;unfold bn;go_wp2_with fail;exact bodyPost_ret (v:=bn (dW s.data.toList a)) (by simp[results,results170,bn,go_sem, *]) rfl ⟨by rw[e.out],gC ij.out _ _ _ _ _ _ _⟩
theorem Mo (s:ByteArray)(a:Nat)(w:World)(hs:s.size≤1000000)(ha:a≤s.size):Calls prog 120 #[.string s,.int .i64 a] w λe w'=>e=.returned (bn (ax s.data.toList a))∧Below w.heap.size w w':=by
 have hsk:=Cm (s:=s.data.toList) (a:=a) (by rw[bR];exact ha);rw[bR]at hsk;have hT:Hid (ax s.data.toList a=gf s.data.toList (nt s.data.toList a)):=rfl;have I1:Hid ((a:Int)+(tU true (s.data.toList.drop a)).1=(nt s.data.toList a:Nat)):=by
  show _=_;unfold nt tU;omega
 obtain⟨b,hk⟩:∃b,Hid (tU true (s.data.toList.drop a)=(nt s.data.toList a-a,b)):=⟨(tU true (s.data.toList.drop a)).2,by
  show _=_;have:=I1.out;apply Prod.ext
  ·show(tU true (s.data.toList.drop a)).1=_;omega
  ·rfl⟩
 generalize nt s.data.toList a=k at *;clear I1;have hka:((a:Int)+((k-a:Nat):Int))=k:=by omega
 by_cases hlt:k<s.size
 ·have hd:=drop_cons s k hlt;have uR:Hid (ax s.data.toList a=if s[k].toNat=40 then aq 2 k (k+1)else if s[k].toNat=41 then aq 3 k (k+1)else if s[k].toNat=39 then aq 4 k (k+1)else if s[k].toNat=34 then lg s.data.toList k else if s[k].toNat=35 then gA s.data.toList k else if bt (s[k].toNat :Int)then jG s.data.toList k else bY k):=by
   show _=_;rw[hT.out];unfold gf;rw[hd]
  clear hT hd;have qe:((k:Int)==(s.size:Int))=false:=by rw[beq_eq_false_iff_ne];omega
  by_cases h40:(s[k].toNat :Int)=40
  ·have e:Hid (ax s.data.toList a=aq 2 k (k+1)):=by show _=_;rw[uR.out,if_pos (by omega)]
   clear uR;go_enter func120,ntmps120;go_wp2_with fail;refine(jJ _ _ _ hs ha).mono ?_;rw[hk.out];rintro e w' ⟨rfl,rfl⟩;go_wp2_with fail;refine bodyPost_ret (v:=bn (aq 2 k (k+1))) (by simp[results,results120,bn,aq,go_sem]) rfl ⟨by rw[e.out],?_⟩
   (repeat (first|with_reducible refine Below.setCell ?_ (by simp) _|with_reducible refine Below.alloc ?_ (by simp) _));with_reducible exact Below.refl _ _
  have q40:((s[k].toNat :Int)==40)=false:=by rw[beq_eq_false_iff_ne];exact h40
  by_cases h41:(s[k].toNat :Int)=41
  ·have e:Hid (ax s.data.toList a=aq 3 k (k+1)):=by show _=_;rw[uR.out,if_neg (by omega),if_pos (by omega)]
   clear uR;clear q40;go_enter func120,ntmps120;go_wp2_with fail;refine(jJ _ _ _ hs ha).mono ?_;rw[hk.out];rintro e w' ⟨rfl,rfl⟩;go_wp2_with fail;refine bodyPost_ret (v:=bn (aq 3 k (k+1))) (by simp[results,results120,bn,aq,go_sem]) rfl ⟨by rw[e.out],?_⟩
   (repeat (first|with_reducible refine Below.setCell ?_ (by simp) _|with_reducible refine Below.alloc ?_ (by simp) _));with_reducible exact Below.refl _ _
  have q41:((s[k].toNat :Int)==41)=false:=by rw[beq_eq_false_iff_ne];exact h41
  by_cases h39:(s[k].toNat :Int)=39
  ·have e:Hid (ax s.data.toList a=aq 4 k (k+1)):=by show _=_;rw[uR.out,if_neg (by omega),if_neg (by omega),if_pos (by omega)]
   clear uR;clear q40 q41;go_enter func120,ntmps120;go_wp2_with fail;refine(jJ _ _ _ hs ha).mono ?_;rw[hk.out];rintro e w' ⟨rfl,rfl⟩;go_wp2_with fail;refine bodyPost_ret (v:=bn (aq 4 k (k+1))) (by simp[results,results120,bn,aq,go_sem]) rfl ⟨by rw[e.out],?_⟩
   (repeat (first|with_reducible refine Below.setCell ?_ (by simp) _|with_reducible refine Below.alloc ?_ (by simp) _));with_reducible exact Below.refl _ _
  have q39:((s[k].toNat :Int)==39)=false:=by rw[beq_eq_false_iff_ne];exact h39
  by_cases YG:(s[k].toNat :Int)=34
  ·have e:Hid (ax s.data.toList a=lg s.data.toList k):=by show _=_;rw[uR.out,if_neg (by omega),if_neg (by omega),if_neg (by omega),if_pos (by omega)]
   clear uR q40 q41 q39;go_enter func120,ntmps120;go_wp2_with fail;refine(jJ _ _ _ hs ha).mono ?_;rw[hk.out];rintro e w' ⟨rfl,rfl⟩;go_wp2_with fail;refine(AP _ _ _ hs hlt).mono ?_;rintro e w1 ⟨rfl,hb⟩;obtain⟨⟨x0,x1,x2,x3,x4,x5,x6⟩,f0,f1,f2,f3,f4,f5,f6⟩:=dz (b:=w.heap.size) hb (heap_alloc_new w _);have HB:Hid (Below w.heap.size w w1):=((Below.refl _ w).alloc (zaa _) _).trans (hb.mono (by simp));clear hb;unfold bn;go_wp2_with fail;exact bodyPost_ret (v:=bn (lg s.data.toList k)) (by simp[results,results120,bn,go_sem, *]) rfl ⟨by rw[e.out],gC HB.out _ _ _ _ _ _ _⟩
  have q34:((s[k].toNat :Int)==34)=false:=by rw[beq_eq_false_iff_ne];exact YG
  by_cases Un:(s[k].toNat :Int)=35
  ·have e:Hid (ax s.data.toList a=gA s.data.toList k):=by show _=_;rw[uR.out,if_neg (by omega),if_neg (by omega),if_neg (by omega),if_neg (by omega),if_pos (by omega)]
   clear uR q40 q41 q39 q34;go_enter func120,ntmps120;go_wp2_with fail;refine(jJ _ _ _ hs ha).mono ?_;rw[hk.out];rintro e w' ⟨rfl,rfl⟩;go_wp2_with fail;refine(AR _ _ _ hs hlt).mono ?_;rintro e w1 ⟨rfl,hb⟩;obtain⟨⟨x0,x1,x2,x3,x4,x5,x6⟩,f0,f1,f2,f3,f4,f5,f6⟩:=dz (b:=w.heap.size) hb (heap_alloc_new w _);have HB:Hid (Below w.heap.size w w1):=((Below.refl _ w).alloc (zaa _) _).trans (hb.mono (by simp));clear hb;unfold bn;go_wp2_with fail;exact bodyPost_ret (v:=bn (gA s.data.toList k)) (by simp[results,results120,bn,go_sem, *]) rfl ⟨by rw[e.out],gC HB.out _ _ _ _ _ _ _⟩
  have q35:((s[k].toNat :Int)==35)=false:=by rw[beq_eq_false_iff_ne];exact Un
  cases hw:bt (s[k].toNat :Int)
  ·have e:Hid (ax s.data.toList a=bY k):=by show _=_;rw[uR.out,if_neg (by omega),if_neg (by omega),if_neg (by omega),if_neg (by omega),if_neg (by omega),hw];rfl
   have hw':Hid _:=hw;clear uR hw;go_enter func120,ntmps120;go_wp2_with fail;refine(jJ _ _ _ hs ha).mono ?_;rw[hk.out];rintro e w' ⟨rfl,rfl⟩;go_wp2_with fail;refine(iP _ _ (by omega) (by have:=s[k].toNat_lt;omega)).mono ?_;rw[hw'.out];rintro e w' ⟨rfl,rfl⟩;go_wp2_with fail;refine(jl _ _).mono ?_;rintro e w1 ⟨rfl,hb⟩;obtain⟨⟨x0,x1,x2,x3,x4,x5,x6⟩,f0,f1,f2,f3,f4,f5,f6⟩:=dz (b:=w.heap.size) hb (heap_alloc_new w _);have HB:Hid (Below w.heap.size w w1):=((Below.refl _ w).alloc (zaa _) _).trans (hb.mono (by simp));clear hb;unfold bn;go_wp2_with fail;exact bodyPost_ret (v:=bn (bY k)) (by simp[results,results120,bn,go_sem, *]) rfl ⟨by rw[e.out],gC HB.out _ _ _ _ _ _ _⟩
  ·have e:Hid (ax s.data.toList a=jG s.data.toList k):=by show _=_;rw[uR.out,if_neg (by omega),if_neg (by omega),if_neg (by omega),if_neg (by omega),if_neg (by omega),hw];rfl
   have hw':Hid _:=hw;clear uR hw;go_enter func120,ntmps120;go_wp2_with fail;refine(jJ _ _ _ hs ha).mono ?_;rw[hk.out];rintro e w' ⟨rfl,rfl⟩;go_wp2_with fail;refine(iP _ _ (by omega) (by have:=s[k].toNat_lt;omega)).mono ?_;rw[hw'.out];rintro e w' ⟨rfl,rfl⟩;go_wp2_with fail;refine(AL _ _ _ hs hlt hw'.out).mono ?_;rintro e w1 ⟨rfl,hb⟩;obtain⟨⟨x0,x1,x2,x3,x4,x5,x6⟩,f0,f1,f2,f3,f4,f5,f6⟩:=dz (b:=w.heap.size) hb (heap_alloc_new w _);have HB:Hid (Below w.heap.size w w1):=((Below.refl _ w).alloc (zaa _) _).trans (hb.mono (by simp));clear hb;unfold bn;go_wp2_with fail;exact bodyPost_ret (v:=bn (jG s.data.toList k)) (by simp[results,results120,bn,go_sem, *]) rfl ⟨by rw[e.out],gC HB.out _ _ _ _ _ _ _⟩
 ·have gU:k=s.size:=by omega
  have e:Hid (ax s.data.toList a=b9 s.data.toList):=by
   show _=_;rw[hT.out];unfold gf;rw[show s.data.toList.drop k=[] from zbf (by rw[bR];omega)]
  have qe:((k:Int)==(s.size:Int))=true:=by rw[beq_iff_eq];omega
  clear hT;go_enter func120,ntmps120;go_wp2_with fail;refine(jJ _ _ _ hs ha).mono ?_;rw[hk.out];rintro e w' ⟨rfl,rfl⟩;go_wp2_with fail;refine(sT _ _).mono ?_;rintro e w1 ⟨rfl,hb⟩;obtain⟨⟨x0,x1,x2,x3,x4,x5,x6⟩,f0,f1,f2,f3,f4,f5,f6⟩:=dz (b:=w.heap.size) hb (heap_alloc_new w _);have HB:Hid (Below w.heap.size w w1):=((Below.refl _ w).alloc (zaa _) _).trans (hb.mono (by simp));clear hb;unfold bn;go_wp2_with fail;exact bodyPost_ret (v:=bn (b9 s.data.toList)) (by simp[results,results120,bn,go_sem, *]) rfl ⟨by rw[e.out],gC HB.out _ _ _ _ _ _ _⟩
end Go.Proofs.YtlhimdjkkiflhaaGreatDoor
namespace Go.Ren
open Go.Proofs.Tryz
open Go Go.Conc Go.ConcX Go.RowKit Go.Proofs Go.Loop
theorem Ji (s:List UInt8)(hs:s.length≤1000)(n:Nat)(w:World)(hn:n≤s.length):Calls prog 120 #[.string ⟨⟨s⟩⟩,.int .i64 n] w λe _=>∃v,e=.returned v∧v=cn (ax s n):=
 (Go.Proofs.YtlhimdjkkiflhaaGreatDoor.Mo ⟨⟨s⟩⟩ n w (by show s.length≤_;omega) hn).mono λe w' h=>⟨_,h.1,rfl⟩
theorem Jj (t:Tok)(w:World):Calls prog 121 #[cn t] w λe _=>∃v,e=.returned v∧v=.bool t.lastB:=
 (Go.Proofs.YtlhimdjkkiflhaaGreatDoor.Mm t w).mono λ_e _w' h=>⟨_,h,rfl⟩
theorem E7 {s:List UInt8}{c:Frame}{cs:List Frame}{Shun:Loc→Prop}{gs:Array Goroutine}{w0:World}{sl:Option (Nat×Nat)}{t:Trace}{q:Nat→Nat}(hlen:s.length≤1000)(hb:prog.globals.size≤w0.heap.size)(h0:gs[0]?=some (G (Frame.enter prog 43 #[.string ⟨⟨s⟩⟩] .normal) (c::cs)))(hLv:Leavers prog t gs q)(hP:Past Shun w0.heap.size t)(hS:∀l,Shun l→l.low w0.heap.size):Reach prog (crowd gs w0 sl) t (Cr Shun (aQ (s.length+1) s 0) c cs gs.size w0):=
 AB (λn w hn=>Ji s hlen n w hn) Jj hlen hb h0 hLv hP hS
section
variable {Ψ:bq}{cs:List Frame}{w:World}{b:Frame}{a:Act}{ops:Array Oper}{i:Nat}{rest:List Nat}{kk:List Item}
theorem Uu {o1 o2 o3:Nat→Prop}(h:∀x,o1 x→o2 x∨o3 x){l:Loc}(hl:jR o1 l):jR o2 l∨jR o3 l:=by
 cases l with
 |cell a=>exact h _ hl
 |obj r=>exact h _ hl
 |_=>exact .inl hl
theorem CI {o:Nat→Prop}{n:Nat}(h:∀x,o x→x<n){l:Loc}(hl:jR o l):l.low n:=by
 cases l with
 |cell a=>exact h _ hl
 |obj r=>exact h _ hl
 |_=>exact hl.elim
theorem af.Uv {s:List UInt8}(hlen:s.length≤1000)(h:∀v w',Below w.heap.size w w'→w'.ownsRow w.heap.size 131 7 v (aQ (s.length+1) s 0).length ((aQ (s.length+1) s 0).flatMap λt=>(eH t).toList)→af prog Sz Ψ (b.at (a.put ((ops[i]?).bind (·.dst)) v) (.inRegion ops rest::kk)) cs w'):af prog Sz Ψ (Frame.enter prog 43 #[.string ⟨⟨s⟩⟩] .normal) (b.at a (.inRegion ops (i::rest)::kk)::cs) w:=by
 intro ρ W gs sl t q Shun hS hc hcs h0 hL hP hN hO hT Uw ly;have e0:bP ρ (Frame.enter prog 43 #[.string ⟨⟨s⟩⟩] .normal)=Frame.enter prog 43 #[.string ⟨⟨s⟩⟩] .normal:=by
  rw[←iu];simp[rv]
 rw[e0,zao,zat]at h0;refine(E7 hlen hS.nB h0 hL hP hN.low).bind ?_;rintro m t' ⟨gs',W',sl',q',gK,w₂,v,Shun',rfl,_,vV,Eu,Es,YH,SE,YI,Mp,eG,hrow,AD,hsz,hblk,YJ,hos,hout⟩;have SG:=hS.grow hsz λx hx=>hblk x (hN.NQ x hx);have qy:Touch Sz.d (cL ρ w.heap.size W'.heap.size) w=Touch Sz.d ρ w:=cv;have abn:∀r,r<w.heap.size→cL ρ w.heap.size W'.heap.size r=ρ r:=λr hr=>aR hr;generalize cL ρ w.heap.size W'.heap.size=bO at *;have Mq:=gp.merge OZ SG Mp (λx h1 h2=>by
  have k1:=hN.NQ x (by rw[←qy];exact h1);have k2:=AD x h2;omega)
 have kF:=Mp.wr.big.p;have acy:=oU (w:=w) kF;have hrv:=XO OZ SG Mp eG;have htm:∀x,Touch Sz.d (yS bO gK prog.globals.size w.heap.size w₂.heap.size W'.heap.size) (Ex prog w w₂) x→Touch Sz.d ρ w x∨Touch Sc.d gK w₂ x:=λx hx=>by
  have:=BS OZ kF hx;rwa[qy]at this
 have Pq:∀r,r<w.heap.size→yS bO gK prog.globals.size w.heap.size w₂.heap.size W'.heap.size r=ρ r:=λr hr=>by
  rw[←abn r hr];simp only[yS,if_pos hr]
 generalize yS bO gK prog.globals.size w.heap.size w₂.heap.size W'.heap.size=G0 at *;have Ux:Below w.heap.size w (Ex prog w w₂):=⟨rfl,rfl,rfl,by omega,λr hr=>Ey hr⟩;have hrow3:=TF (w:=w) (zaa _) hrow (λx hx=>by
  obtain⟨tk,_,hx⟩:=List.mem_flatMap.1 hx;simp[eH]at hx;rcases hx with rfl|rfl|rfl|rfl|rfl|rfl|rfl<;>simp[rv])
 have T4:=XQ OZ (w:=w) hS.wr.big.p kF eG;have hf3:∀x,G0.f x=ρ.f x:=λx=>by rw[Mq.f,hS.f]
 refine h _ _ Ux hrow3 G0 W' gs' sl' t' q' Shun' Mq ?_ (λf hf=>iI (by omega) (hcs f (zax _ hf))) ?_ Eu Es ⟨λx hx=>?_,λb hb=>zaq (hN.DT b hb) hsz,λl hl AO=>?_,YH⟩ ⟨YJ.trans hO.tape,hos.trans hO.os,hout.trans hO.output,zad hO.size hsz,λr hr hm=>(hblk r (zaq hr hO.size)).trans (hO.block r hr hm)⟩ (λx hx=>(htm x hx).elim (hT x) λh2=> .inl (zad hO.size (AD x h2))) ⟨zad Uw.size (by omega),λr hr=>(Pq r (zaq hr Uw.size)).trans (Uw.same r hr)⟩ ⟨zad ly.size (by omega),λr hr=>(Pq r (zaq hr ly.size)).trans (ly.same r hr)⟩
 ·have h1:pI prog Sz w.heap.size a:=hcs _ zau;exact pI.put (P:=prog) (λx hx=>ek (cR (by omega)).1 (cR (by omega)).2 x (h1 x hx)) _ T4
 ·rw[vV];have e1:bP ρ (b.at a (.inRegion ops (i::rest)::kk))=bP G0 (b.at a (.inRegion ops (i::rest)::kk)):=dw (hcs _ zau) (λr hr=>(Pq r hr).symm) (λx=>(hf3 x).symm);have e2:cs.map (bP ρ)=cs.map (bP G0):=eO (λr hr=>(Pq r hr).symm) (λx=>(hf3 x).symm) λf hf=>hcs f (zax _ hf);rw[e1,e2,pY,pY,Frame.finish_at,←hrv,nZ]
 ·obtain⟨r,h1,h2,rfl⟩:=hx;exact Mq.low h2
 ·rcases hl with hl|hl
  ·rcases Uu htm hl with h1|h1
   ·exact hN.qZ l (.inl h1) (SE l (CI hN.NQ h1) AO)
   ·exact YI l h1 AO
  ·exact hN.qZ l (.inr hl) (SE l (CI hN.DT hl) AO)
end
end Go.Ren
namespace Go.Loop
inductive Dt where
 |nil
 |sym (s:List UInt8)
 |num (n d:Int)
 |eT (n:Int)
 |si (n:Int)
 |txt (i:Nat) (s:List UInt8)
 |pair (i:Nat) (a b:Dt)
 |vec (i:Nat) (l:Dt)
 |fj
 |ck (a l:Dt)
 |put (n:Int) (d:Dt)
 |ask (n:Int)
deriving DecidableEq
structure eX where
 k:Nat
 fresh:Nat
 aN:List Int
deriving DecidableEq
structure Pl where
 depth:Nat
 passed:Bool
 ahead:List Int
inductive RR (α:Type) where
 |out
 |fail (e:Int) (at_:Nat)
 |ok (a:α) (s:eX)
def RR.bind {α β:Type}(x:RR α)(f:α→eX→RR β):RR β:=
 match x with
 |.out=> .out
 |.fail e a=> .fail e a
 |.ok a s=>f a s
def aW:List Dt→Dt→Nat→Dt×Nat
 |[],rest,i=>(rest,i)
 |d::l,rest,i=>(.pair (aW l rest i).2 d (aW l rest i).1,(aW l rest i).2+1)
def lJ:List Dt→Dt
 |[]=> .fj
 |d::l=> .ck d (lJ l)
def pO (t:Tok)(s:eX):RR Dt:=
 if t.kind=8 then .ok (.txt s.fresh t.text) { s with fresh:=s.fresh+1 }
 else if t.kind=9 then .ok (.si t.n) s
 else if t.kind=12 then .ok (.eT t.n) s
 else if t.kind=14 then .ok (.sym t.text) s
 else if t.fault≠0 then .fail t.fault t.from_
 else .ok (.num t.n t.d) s
section
variable (T:List Tok)(G1:Nat)
mutual
def aM:Nat→Pl→eX→RR Dt
 |0,_,_=> .out
 |n+1,p,s=>(aX n p s).bind λt s=>bG n t p s
def aX:Nat→Pl→eX→RR Tok
 |0,_,_=> .out
 |n+1,p,s=>
  match T[s.k]? with
  |none=> .out
  |some t=>
   if t.kind=0 then .fail 4 t.from_
   else if t.kind=1 then .fail 3 t.from_
   else if t.kind=6 then(aM n ⟨p.depth,true,[]⟩ { s with k:=s.k+1 }).bind λ_ s=>aX n p s
   else .ok t { s with k:=s.k+1 }
def bG:Nat→Tok→Pl→eX→RR Dt
 |0,_,_,_=> .out
 |n+1,t,p,s=>
  if t.kind=3∨t.kind=7 then .fail 3 t.from_
  else if t.kind=10 then
   (if p.passed∨t.n∈s.aN then .fail 5 t.from_
    else if p.depth=G1 then .fail 6 t.from_
    else(aM n ⟨p.depth+1,p.passed,p.ahead++[t.n]⟩ { s with aN:=t.n::s.aN }).bind λd s=> .ok (.put t.n d) s)
  else if t.kind=11 then(if p.passed∨t.n∉s.aN∨t.n∈p.ahead then .fail 5 t.from_ else .ok (.ask t.n) s)
  else if t.kind=2∨t.kind=5∨t.kind=4 then
   (if p.depth=G1 then .fail 6 t.from_
    else if t.kind=5 then(dR n [] ⟨p.depth+1,p.passed,[]⟩ { s with fresh:=s.fresh+1 }).bind λl s'=> .ok (.vec s.fresh (lJ l)) s'
    else if t.kind=4 then(aM n ⟨p.depth+1,p.passed,[]⟩ s).bind λd s=> .ok (aW [.sym [113,117,111,116,101],d] .nil s.fresh).1 { s with fresh:=s.fresh+2 }
    else bD n [] ⟨p.depth+1,p.passed,[]⟩ s)
  else pO t s
def bD:Nat→List Dt→Pl→eX→RR Dt
 |0,_,_,_=> .out
 |n+1,data,p,s=>
  (aX n p s).bind λt s=>
    if t.kind=3 then .ok (aW data .nil s.fresh).1 { s with fresh:=(aW data .nil s.fresh).2 }
    else if t.kind=7∧data≠[]then
     (aM n p s).bind λrest s=>(aX n p s).bind λt s=>
       if t.kind=3 then .ok (aW data rest s.fresh).1 { s with fresh:=(aW data rest s.fresh).2 } else .fail 3 t.from_
    else(bG n t p s).bind λd s=>bD n (data++[d]) p s
def dR:Nat→List Dt→Pl→eX→RR (List Dt)
 |0,_,_,_=> .out
 |n+1,data,p,s=>
  (aX n p s).bind λt s=>
    if t.kind=3 then .ok data s
    else if data.length=20 then .fail 3 t.from_
    else(bG n t p s).bind λd s=>dR n (data++[d]) p s
end
end
def aY (n:Int):Dt→Option Dt
 |.put m d=>if m=n then some d else aY n d
 |.pair _ a b=>(aY n a).orElse λ_=>aY n b
 |.vec _ l=>aY n l
 |.ck a l=>(aY n a).orElse λ_=>aY n l
 |_=>none
def cO (root:Dt):Nat→Dt→Dt
 |0,d=>d
 |n+1,.put _ d=>cO root n d
 |n+1,.ask m=>cO root n ((aY m root).getD .nil)
 |_+1,d=>d
structure pj where
 kind:Int
 text:List UInt8
 n:Int
 d:Int
 subs:List Nat
deriving DecidableEq
structure mh where
 nodes:List pj
 met:List (Nat×Nat)
def mh.add (g:mh)(x:pj):mh:={ g with nodes:=g.nodes++[x] }
def di (l:List pj)(i:Nat)(s:List Nat):List pj:=l.modify i λx=>{ x with subs:=s }
end Go.Loop
namespace Go.Proofs.YtlhimdjkkiflhaaGreatDoor
open Go.Proofs.Tryz
open Go.RowKit Go.Loop
structure Env where
 α:Nat→Nat
 eL:Int→Nat
def aH (b:Nat):Value:= .pointer (some ⟨b,0,none⟩)
mutual
def cz (lo k:Nat)(L:List Int)(w:World)(E:Env):Dt→Value→Prop
 |.nil,v=>v=.iface 272 (.agg #[])
 |.sym s,v=>v=.iface 168 (.agg #[.string ⟨⟨s⟩⟩])
 |.num n d,v=>v=.iface 153 (.agg #[.int .i64 n,.int .i64 d])
 |.eT n,v=>v=.iface 155 (.agg #[.int .i64 n])
 |.si n,v=>v=.iface 157 (.agg #[.int .i64 n])
 |.txt i s,v=>i<k∧lo≤E.α i∧v=.iface 158 (aH (E.α i))∧w.heap[E.α i]?=some (.cells #[.string ⟨⟨s⟩⟩] 218)
 |.pair i a b,v=>i<k∧lo≤E.α i∧v=.iface 150 (aH (E.α i))∧∃va vb,w.heap[E.α i]?=some (.cells #[va,vb] 161)∧cz lo k L w E a va∧cz lo k L w E b vb
 |.vec i l,v=>i<k∧lo≤E.α i∧v=.iface 163 (aH (E.α i))∧∃sl vs,w.heap[E.α i]?=some (.cells #[sl] 165)∧w.ownsRow lo 58 1 sl vs.length vs∧df lo k L w E l vs
 |.put n d,v=>n∈L∧lo≤E.eL n∧w.heap[E.eL n]?=some (.cells #[v] 215)∧cz lo k L w E d v
 |.ask n,v=>n∈L∧v=.iface 212 (aH (E.eL n))
 |.fj,_=>False
 |.ck _ _,_=>False
def df (lo k:Nat)(L:List Int)(w:World)(E:Env):Dt→List Value→Prop
 |.fj,vs=>vs=[]
 |.ck a l,vs=>∃v r,vs=v::r∧cz lo k L w E a v∧df lo k L w E l r
 |_,_=>False
end
def Env.agree (E E':Env)(k:Nat)(L:List Int):Prop:=(∀i,i<k→E'.α i=E.α i)∧∀n∈L,E'.eL n=E.eL n
theorem bH {w w':World}{lo Mr:Nat}{e:TypeId}{z:Nat}{v:Value}{n:Nat}{xs:List Value}(h:w.ownsRow lo e z v n xs)(hl:Mr≤lo)(hk:∀b,lo≤b→b<w.heap.size→w'.heap[b]?=w.heap[b]?):w'.ownsRow Mr e z v n xs:=by
 refine⟨h.1,h.2.imp id ?_⟩;rintro ⟨g,cap,cur,h1,h2,h3,h4⟩;exact⟨g,cap,cur,h1,by omega,(hk g h2 (zae.1 h3).1).trans h3,h4⟩
mutual
theorem cz.keep {lo Mr k k':Nat}{L L':List Int}{w w':World}{E E':Env}(hl:Mr≤lo)(hk:k≤k')(hL:∀n∈L,n∈L')(hw:∀b,lo≤b→b<w.heap.size→w'.heap[b]?=w.heap[b]?)(hE:E.agree E' k L):∀(d:Dt) (v:Value),cz lo k L w E d v→cz Mr k' L' w' E' d v
 |.nil,v,h=>by unfold cz at h ⊢;exact h
 |.sym s,v,h=>by unfold cz at h ⊢;exact h
 |.num n d,v,h=>by unfold cz at h ⊢;exact h
 |.eT n,v,h=>by unfold cz at h ⊢;exact h
 |.si n,v,h=>by unfold cz at h ⊢;exact h
 |.txt i s,v,h=>by
  unfold cz at h ⊢;obtain⟨h1,h2,h3,h4⟩:=h;rw[hE.1 i h1];exact⟨by omega,by omega,h3,(hw _ h2 (zae.1 h4).1).trans h4⟩
 |.pair i a b,v,h=>by
  unfold cz at h ⊢;obtain⟨h1,h2,h3,va,vb,h4,h5,h6⟩:=h;rw[hE.1 i h1];exact⟨by omega,by omega,h3,va,vb,(hw _ h2 (zae.1 h4).1).trans h4,cz.keep hl hk hL hw hE a va h5,cz.keep hl hk hL hw hE b vb h6⟩
 |.vec i l,v,h=>by
  unfold cz at h ⊢;obtain⟨h1,h2,h3,sl,vs,h4,h5,h6⟩:=h;rw[hE.1 i h1];exact⟨by omega,by omega,h3,sl,vs,(hw _ h2 (zae.1 h4).1).trans h4,bH h5 hl hw,df.keep hl hk hL hw hE l vs h6⟩
 |.put n d,v,h=>by
  unfold cz at h ⊢;obtain⟨h1,h2,h3,h4⟩:=h;rw[hE.2 n h1];exact⟨hL n h1,by omega,(hw _ h2 (zae.1 h3).1).trans h3,cz.keep hl hk hL hw hE d v h4⟩
 |.ask n,v,h=>by
  unfold cz at h ⊢;rw[hE.2 n h.1];exact⟨hL n h.1,h.2⟩
 |.fj,v,h=>by unfold cz at h;exact h.elim
 |.ck a l,v,h=>by unfold cz at h;exact h.elim
theorem df.keep {lo Mr k k':Nat}{L L':List Int}{w w':World}{E E':Env}(hl:Mr≤lo)(hk:k≤k')(hL:∀n∈L,n∈L')(hw:∀b,lo≤b→b<w.heap.size→w'.heap[b]?=w.heap[b]?)(hE:E.agree E' k L):∀(d:Dt) (vs:List Value),df lo k L w E d vs→df Mr k' L' w' E' d vs
 |.fj,vs,h=>by unfold df at h ⊢;exact h
 |.ck a l,vs,h=>by
  unfold df at h ⊢;obtain⟨v,r,rfl,h1,h2⟩:=h;exact⟨v,r,rfl,cz.keep hl hk hL hw hE a v h1,df.keep hl hk hL hw hE l r h2⟩
 |.nil,vs,h=>by unfold df at h;exact h.elim
 |.sym _,vs,h=>by unfold df at h;exact h.elim
 |.num _ _,vs,h=>by unfold df at h;exact h.elim
 |.eT _,vs,h=>by unfold df at h;exact h.elim
 |.si _,vs,h=>by unfold df at h;exact h.elim
 |.txt _ _,vs,h=>by unfold df at h;exact h.elim
 |.pair _ _ _,vs,h=>by unfold df at h;exact h.elim
 |.vec _ _,vs,h=>by unfold df at h;exact h.elim
 |.put _ _,vs,h=>by unfold df at h;exact h.elim
 |.ask _,vs,h=>by unfold df at h;exact h.elim
end
def ny (w:World)(M:Nat)(l:List (Value×Value)):Prop:=∃es clock,w.heap[M]?=some (.map es clock)∧es.toList.map (λe=>(e.key,e.val))=l
theorem oq:∀(es:List MapEntry) (l:List (Int×Value)) (n:Int) (i:Nat),es.map (λe=>(e.key,e.val))=l.map (λp=>(Value.int .i64 p.1,p.2))→∃j,Instr.findNow (.int .i64) (.int .i64 n) es i=some ((l.lookup n).map λv=>(j,v))
 |[],[],n,i,_=>⟨0,rfl⟩
 |[],_::_,_,_,h=>by simp at h
 |_::_,[],_,_,h=>by simp at h
 |e::es,(m,v)::l,n,i,h=>by
  simp only[zao,zbx,zab]at h;obtain⟨⟨h1,h2⟩,h3⟩:=h;unfold Instr.findNow;rw[h1];by_cases hn:n=m
  ·subst hn;refine⟨i,?_⟩;simp[Instr.sameNow,List.lookup,h2]
  ·obtain⟨j,hj⟩:=oq es l n (i+1) h3;refine⟨j,?_⟩;have:(n==m)=false:=by simpa using hn
   simp[Instr.sameNow,this,List.lookup,hj]
theorem G2:prog.underlying 121=some (.map 3 212):=by kernel_rfl
theorem E8:prog.underlying 3=some (.int .i64):=by kernel_rfl
theorem CJ (b:Bool)(n:Int)(w:World):(Instr.checkKey b 10000 3 (.int .i64 n)).run prog w=.ok () w:=by
 unfold Instr.checkKey;simp[run_underlying E8]
theorem ot {w:World}{M:Nat}{l:List (Int×Value)}(h:ny w M (l.map λp=>(Value.int .i64 p.1,p.2)))(n:Int):(Instr.lookup 121 (.map (some M)) (.int .i64 n) false).run prog w=.ok ((l.lookup n).getD (.pointer none)) w:=by
 obtain⟨es,clock,h1,h2⟩:=h;obtain⟨j,hj⟩:=oq es.toList l n 0 h2;have hg:(getObj M).run prog w=.ok (.map es clock) w:=by simp[getObj,Sem.run,h1]
 unfold Instr.lookup Instr.findKey;simp only[Sem.run_bind,run_underlying G2,Result.andThen_ok,hg,Sem.run_pure,CJ,run_underlying E8,hj];cases hq:l.lookup n with
 |none=>simp
 |some v=>simp
theorem E9 {w:World}{M:Nat}{l:List (Int×Value)}(h:ny w M (l.map λp=>(Value.int .i64 p.1,p.2)))(n:Int)(hn:l.lookup n=none)(v:Value):∃o,(Instr.mapUpdate 121 (.map (some M)) (.int .i64 n) v).run prog w=.ok () { w with heap:=w.heap.setIfInBounds M o }∧ny { w with heap:=w.heap.setIfInBounds M o } M ((l++[(n,v)]).map λp=>(Value.int .i64 p.1,p.2)):=by
 obtain⟨es,clock,h1,h2⟩:=h;obtain⟨j,hj⟩:=oq es.toList l n 0 h2;rw[hn]at hj;have hlt:M<w.heap.size:=(zae.1 h1).1;have hg:(getObj M).run prog w=.ok (.map es clock) w:=by simp[getObj,Sem.run,h1]
 refine⟨.map (es.push { key:= .int .i64 n,val:=v,born:=clock }) (clock+1),?_,es.push { key:= .int .i64 n,val:=v,born:=clock },clock+1,?_,?_⟩
 ·unfold Instr.mapUpdate Instr.findKey;simp only[Sem.run_bind,run_underlying G2,Result.andThen_ok,hg,Sem.run_pure,CJ,run_underlying E8,hj];simp[setObj,Sem.run,h1]
 ·show(w.heap.setIfInBounds M _)[M]?=_;rw[zaV hlt]
 ·simp[h2]
end Go.Proofs.YtlhimdjkkiflhaaGreatDoor
