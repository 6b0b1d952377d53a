import Derived.Test.YtlhimdjkkiflhaaGreatDoorDeep20
namespace Go.Proofs.YtlhimdjkkiflhaaGreatDoor
open Go.RowKit Go.Loop
theorem ext_data (s:ByteArray)(a b:Nat):(s.extract a b).data.toList=(s.data.toList.drop a).take (b-a):=by
 simp
theorem ext_size_le (s:ByteArray)(a b n:Nat)(h:s.size≤n):(s.extract a b).size≤n:=by
 rw[←len_data,ext_data,List.length_take,List.length_drop,len_data]
 omega
theorem tokNumber_any (c:UInt8)(r:List UInt8)(w:World)(hs:r.length+1≤1000000):
 Calls Tryz.prog 201 #[.string ⟨⟨c::r⟩⟩] w fun e w'=>e= .returned (.tuple #[tkV (numT (numberP (c::r))),.bool (numberP (c::r)).isSome])∧Below w.heap.size w w':=by
 have key:∀ (l:List UInt8) (k:Nat),k<l.length→((⟨⟨l⟩⟩:ByteArray).extract 0 k).data.toList=l.take k∧((⟨⟨l⟩⟩:ByteArray).extract (k+1) (⟨⟨l⟩⟩:ByteArray).size).data.toList=l.drop (k+1):=fun l k hk=>by
  refine⟨by rw[ext_data];simp,?_⟩
  rw[ext_data]
  show(l.drop (k+1)).take (l.length-(k+1))=_
  rw[List.take_of_length_le]
  rw[List.length_drop];exact Nat.le_refl _
 by_cases h45:c.toNat=45
 ·have e:numberP (c::r)=numberOf true r:=by show(if c.toNat=45 then _ else _)=_;rw[if_pos h45]
  rw[e]
  rcases slash_idx r with⟨h1,h2⟩|⟨k,h1,h2,h3⟩
  ·rw[numberOf_miss h2];exact number_m0 c r w hs h45 h1
  ·rw[numberOf_hit h3,←(key r k h2).1,←(key r k h2).2]
   exact number_m1 c r w hs h45 k h1 h2 _ _ rfl rfl (ext_size_le _ _ _ _ (by show r.length≤_;omega)) (ext_size_le _ _ _ _ (by show r.length≤_;omega))
 by_cases h43:c.toNat=43
 ·have e:numberP (c::r)=numberOf false r:=by show(if c.toNat=45 then _ else _)=_;rw[if_neg h45,if_pos h43]
  rw[e]
  rcases slash_idx r with⟨h1,h2⟩|⟨k,h1,h2,h3⟩
  ·rw[numberOf_miss h2];exact number_p0 c r w hs h43 h1
  ·rw[numberOf_hit h3,←(key r k h2).1,←(key r k h2).2]
   exact number_p1 c r w hs h43 k h1 h2 _ _ rfl rfl (ext_size_le _ _ _ _ (by show r.length≤_;omega)) (ext_size_le _ _ _ _ (by show r.length≤_;omega))
 ·have e:numberP (c::r)=numberOf false (c::r):=by show(if c.toNat=45 then _ else _)=_;rw[if_neg h45,if_neg h43]
  rw[e]
  rcases slash_idx (c::r) with⟨h1,h2⟩|⟨k,h1,h2,h3⟩
  ·rw[numberOf_miss h2];exact number_n0 c r w hs h45 h43 h1
  ·rw[numberOf_hit h3,←(key _ k h2).1,←(key _ k h2).2]
   exact number_n1 c r w hs h45 h43 k h1 h2 _ _ rfl rfl (ext_size_le _ _ _ _ (by show(c::r).length≤_;simp;omega)) (ext_size_le _ _ _ _ (by show(c::r).length≤_;simp;omega))
theorem number_b (x:ByteArray)(w:World)(hs:x.size≤1000000)(hne:x.data.toList≠[]):
 Calls Tryz.prog 201 #[.string x] w fun e w'=>e= .returned (.tuple #[tkV (numT (numberP x.data.toList)),.bool (numberP x.data.toList).isSome])∧Below w.heap.size w w':=by
 obtain⟨⟨l⟩⟩:=x
 cases l with
 |nil=>exact absurd rfl hne
 |cons c r=>exact tokNumber_any c r w (by have:(c::r).length≤1000000:=hs;simpa using this)
theorem mustNum_b (x:ByteArray)(w:World)(hs:x.size≤1000000)(hne:x.data.toList≠[]):
 Calls Tryz.prog 147 #[.string x] w fun e w'=>e= .returned (.bool (mustNum x.data.toList))∧w'=w:=by
 obtain⟨⟨l⟩⟩:=x
 cases l with
 |nil=>exact absurd rfl hne
 |cons c r=>exact mustBeNumber_any c r w (by have:(c::r).length≤1000000:=hs;unfold maxLen;omega)
theorem cut_data (s:ByteArray)(a b:Nat):(s.extract a b).data.toList=cutP s.data.toList a b:=ext_data s a b
theorem cut_to (s:ByteArray)(a b:Nat):(s.extract a b).toList=cutP s.data.toList a b:=by rw[to_data,cut_data]
theorem cells7 {W w1:World}(hb:Below W.heap.size W w1){b:Nat}{x0 x1 x2 x3 x4 x5 x6:Value}{e:TypeId}(h:W.heap[b]? =some (.cells #[x0,x1,x2,x3,x4,x5,x6] e)):
 (w1.cell? ⟨b,0,none⟩=some x0∧w1.cell? ⟨b,1,none⟩=some x1∧w1.cell? ⟨b,2,none⟩=some x2∧w1.cell? ⟨b,3,none⟩=some x3∧w1.cell? ⟨b,4,none⟩=some x4∧w1.cell? ⟨b,5,none⟩=some x5∧w1.cell? ⟨b,6,none⟩=some x6)∧
 (w1.frozen? ⟨b,0,none⟩=false∧w1.frozen? ⟨b,1,none⟩=false∧w1.frozen? ⟨b,2,none⟩=false∧w1.frozen? ⟨b,3,none⟩=false∧w1.frozen? ⟨b,4,none⟩=false∧w1.frozen? ⟨b,5,none⟩=false∧w1.frozen? ⟨b,6,none⟩=false):=by
 have hlt:b<W.heap.size:=(Array.getElem?_eq_some_iff.1 h).1
 have h1:w1.heap[b]? =some (.cells #[x0,x1,x2,x3,x4,x5,x6] e):=(hb.block b hlt).trans h
 refine⟨⟨?_,?_,?_,?_,?_,?_,?_⟩,?_,?_,?_,?_,?_,?_,?_⟩<;>simp[World.cell?,World.frozen?,h1]
theorem below7 {w w1:World}(h0:Below w.heap.size w w1)(v0 v1 v2 v3 v4 v5 v6:Value):Below w.heap.size w (((((((w1.setCell ⟨w.heap.size,0,none⟩ v0).setCell ⟨w.heap.size,1,none⟩ v1).setCell ⟨w.heap.size,2,none⟩ v2).setCell ⟨w.heap.size,3,none⟩ v3).setCell ⟨w.heap.size,4,none⟩ v4).setCell ⟨w.heap.size,5,none⟩ v5).setCell ⟨w.heap.size,6,none⟩ v6):=
 ((((((h0.setCell (Nat.le_refl _) _).setCell (Nat.le_refl _) _).setCell (Nat.le_refl _) _).setCell (Nat.le_refl _) _).setCell (Nat.le_refl _) _).setCell (Nat.le_refl _) _).setCell (Nat.le_refl _) _
set_option maxHeartbeats 2000000 in
theorem scanTruth_any (s:ByteArray)(a:Nat)(w:World)(hs:s.size≤1000000)(ha:a<s.size):
 Calls Tryz.prog 200 #[.string s,.int .i64 a] w fun e w'=>e= .returned (tkV (truthP s.data.toList a))∧Below w.heap.size w w':=by
 have hle:=runL_le wordB (s.data.toList.drop (a+1))
 rw[List.length_drop,len_data] at hle
 have hT:Hid (truthP s.data.toList a=if cutP s.data.toList (a+1) (a+1+runL wordB (s.data.toList.drop (a+1)))=[116]∨cutP s.data.toList (a+1) (a+1+runL wordB (s.data.toList.drop (a+1)))=[116,114,117,101] then { tok0 12 a (a+1+runL wordB (s.data.toList.drop (a+1))) with n:=1 } else if cutP s.data.toList (a+1) (a+1+runL wordB (s.data.toList.drop (a+1)))=[102]∨cutP s.data.toList (a+1) (a+1+runL wordB (s.data.toList.drop (a+1)))=[102,97,108,115,101] then tok0 12 a (a+1+runL wordB (s.data.toList.drop (a+1))) else wrongP a):=rfl
 generalize hk:runL wordB (s.data.toList.drop (a+1))=k at *
 have HK:Hid _:=hk
 clear hk
 have hc:∀ x:List UInt8,((s.extract (a+1) (a+1+k)).toList==x)=decide (cutP s.data.toList (a+1) (a+1+k)=x):=fun x=>by rw[cut_to,Bool.eq_iff_iff];simp
 have q1:=hc [116];have q2:=hc [116,114,117,101];have q3:=hc [102];have q4:=hc [102,97,108,115,101]
 clear hc
 generalize cutP s.data.toList (a+1) (a+1+k)=W at *
 by_cases c1:W=[116]
 ·have e:Hid (truthP s.data.toList a={ tok0 12 a (a+1+k) with n:=1 }):=by show _=_;rw[hT.out,if_pos (.inl c1)]
  rw[decide_eq_true c1] at q1
  clear q2 q3 q4 c1
  clear hT
  go_enter Tryz.func200,Tryz.ntmps200
  go_wp2_with (go_at_call 148;refine(runEnd_word _ _ _ (by unfold maxLen;omega) (by omega) (by omega)).mono ?_;rintro e w' ⟨rfl,rfl⟩;rw[show((a:Int)+1).toNat=a+1 by omega,HK.out])
  refine bodyPost_ret (v:=tkV { tok0 12 a (a+1+k) with n:=1 }) (by simp[results,Tryz.results200,tkV,tok0,go_sem]) rfl ⟨by rw[e.out],?_⟩
  (repeat (first|with_reducible refine Below.setCell ?_ (by simp) _|with_reducible refine below_drewN ?_ _|with_reducible refine Below.alloc ?_ (by simp) _));with_reducible exact Below.refl _ _
 by_cases c2:W=[116,114,117,101]
 ·have e:Hid (truthP s.data.toList a={ tok0 12 a (a+1+k) with n:=1 }):=by show _=_;rw[hT.out,if_pos (.inr c2)]
  rw[decide_eq_false c1] at q1
  rw[decide_eq_true c2] at q2
  clear q3 q4 c1 c2
  clear hT
  go_enter Tryz.func200,Tryz.ntmps200
  go_wp2_with (go_at_call 148;refine(runEnd_word _ _ _ (by unfold maxLen;omega) (by omega) (by omega)).mono ?_;rintro e w' ⟨rfl,rfl⟩;rw[show((a:Int)+1).toNat=a+1 by omega,HK.out])
  refine bodyPost_ret (v:=tkV { tok0 12 a (a+1+k) with n:=1 }) (by simp[results,Tryz.results200,tkV,tok0,go_sem]) rfl ⟨by rw[e.out],?_⟩
  (repeat (first|with_reducible refine Below.setCell ?_ (by simp) _|with_reducible refine below_drewN ?_ _|with_reducible refine Below.alloc ?_ (by simp) _));with_reducible exact Below.refl _ _
 by_cases c3:W=[102]
 ·have e:Hid (truthP s.data.toList a=tok0 12 a (a+1+k)):=by show _=_;rw[hT.out,if_neg (by simp[c1,c2]),if_pos (.inl c3)]
  rw[decide_eq_false c1] at q1
  rw[decide_eq_false c2] at q2
  rw[decide_eq_true c3] at q3
  clear q4 c1 c2 c3
  clear hT
  go_enter Tryz.func200,Tryz.ntmps200
  go_wp2_with (go_at_call 148;refine(runEnd_word _ _ _ (by unfold maxLen;omega) (by omega) (by omega)).mono ?_;rintro e w' ⟨rfl,rfl⟩;rw[show((a:Int)+1).toNat=a+1 by omega,HK.out])
  refine bodyPost_ret (v:=tkV (tok0 12 a (a+1+k))) (by simp[results,Tryz.results200,tkV,tok0,go_sem]) rfl ⟨by rw[e.out],?_⟩
  (repeat (first|with_reducible refine Below.setCell ?_ (by simp) _|with_reducible refine below_drewN ?_ _|with_reducible refine Below.alloc ?_ (by simp) _));with_reducible exact Below.refl _ _
 by_cases c4:W=[102,97,108,115,101]
 ·have e:Hid (truthP s.data.toList a=tok0 12 a (a+1+k)):=by show _=_;rw[hT.out,if_neg (by simp[c1,c2]),if_pos (.inr c4)]
  rw[decide_eq_false c1] at q1
  rw[decide_eq_false c2] at q2
  rw[decide_eq_false c3] at q3
  rw[decide_eq_true c4] at q4
  clear c1 c2 c3 c4
  clear hT
  go_enter Tryz.func200,Tryz.ntmps200
  go_wp2_with (go_at_call 148;refine(runEnd_word _ _ _ (by unfold maxLen;omega) (by omega) (by omega)).mono ?_;rintro e w' ⟨rfl,rfl⟩;rw[show((a:Int)+1).toNat=a+1 by omega,HK.out])
  refine bodyPost_ret (v:=tkV (tok0 12 a (a+1+k))) (by simp[results,Tryz.results200,tkV,tok0,go_sem]) rfl ⟨by rw[e.out],?_⟩
  (repeat (first|with_reducible refine Below.setCell ?_ (by simp) _|with_reducible refine below_drewN ?_ _|with_reducible refine Below.alloc ?_ (by simp) _));with_reducible exact Below.refl _ _
 ·have e:Hid (truthP s.data.toList a=wrongP a):=by show _=_;rw[hT.out,if_neg (by simp[c1,c2]),if_neg (by simp[c3,c4])]
  rw[decide_eq_false c1] at q1
  rw[decide_eq_false c2] at q2
  rw[decide_eq_false c3] at q3
  rw[decide_eq_false c4] at q4
  clear hT c1 c2 c3 c4
  go_enter Tryz.func200,Tryz.ntmps200
  go_wp2_with (go_at_call 148;refine(runEnd_word _ _ _ (by unfold maxLen;omega) (by omega) (by omega)).mono ?_;rintro e w' ⟨rfl,rfl⟩;rw[show((a:Int)+1).toNat=a+1 by omega,HK.out])
  refine(wrong_any _ _).mono ?_
  rintro e1 w1 ⟨rfl,hb⟩
  obtain⟨⟨x0,x1,x2,x3,x4,x5,x6⟩,f0,f1,f2,f3,f4,f5,f6⟩:=cells7 (b:=w.heap.size) hb ((Lib.alloc_old _ _ _ (by simp)).trans (heap_alloc_new w _))
  have HB:Hid (Below w.heap.size w w1):=((((Below.refl _ w).alloc (Nat.le_refl _) _).alloc (by simp) _).trans (hb.mono (by simp;omega)))
  clear hb
  unfold tkV
  go_wp2_with fail
  exact bodyPost_ret (v:=tkV (wrongP a)) (by simp[results,Tryz.results200,tkV,tok0,wrongP,go_sem, *]) rfl ⟨by rw[e.out],below7 HB.out _ _ _ _ _ _ _⟩
theorem ext_eq (s:ByteArray)(a b:Nat):s.extract a b=⟨⟨cutP s.data.toList a b⟩⟩:=by
 have h:=cut_data s a b
 generalize s.extract a b=x at *
 obtain⟨⟨l⟩⟩:=x
 rw[←h]
set_option maxHeartbeats 2000000 in
theorem scanWord_any (s:ByteArray)(a:Nat)(w:World)(hs:s.size≤1000000)(ha:a<s.size)(hw:wordB (s[a].toNat :Int)=true):
 Calls Tryz.prog 171 #[.string s,.int .i64 a] w fun e w'=>e= .returned (tkV (wordP s.data.toList a))∧Below w.heap.size w w':=by
 have hle:=runL_le wordB (s.data.toList.drop a)
 rw[List.length_drop,len_data] at hle
 have hpos:0<runL wordB (s.data.toList.drop a):=by rw[drop_cons s a ha];unfold runL;rw[if_pos hw];omega
 have hT:Hid (wordP s.data.toList a=if cutP s.data.toList a (a+runL wordB (s.data.toList.drop a))=[46] then tok0 7 a (a+runL wordB (s.data.toList.drop a)) else if !mustNum (cutP s.data.toList a (a+runL wordB (s.data.toList.drop a))) then { tok0 14 a (a+runL wordB (s.data.toList.drop a)) with text:=cutP s.data.toList a (a+runL wordB (s.data.toList.drop a)) } else match numberP (cutP s.data.toList a (a+runL wordB (s.data.toList.drop a))) with|none=>wrongP a|some (n,d,f)=>{ tok0 13 a (a+runL wordB (s.data.toList.drop a)) with n:=n,d:=d,fault:=f }):=rfl
 clear hw
 generalize hk:runL wordB (s.data.toList.drop a)=k at *
 have HK:Hid _:=hk
 clear hk
 have hx:=ext_eq s a (a+k)
 have hlen:(cutP s.data.toList a (a+k)).length=k:=by unfold cutP;rw[List.length_take,List.length_drop,len_data];omega
 have hsz:(s.extract a (a+k)).size≤1000000:=ext_size_le _ _ _ _ hs
 generalize hW:cutP s.data.toList a (a+k)=W at *
 have hne:W≠[]:=by intro h;rw[h] at hlen;simp at hlen;omega
 clear hW hlen
 have hd:(s.extract a (a+k)).data.toList=W:=by rw[hx]
 have ht:(s.extract a (a+k)).toList=W:=by rw[to_data,hd]
 have HXW:Hid _:=hx
 clear hx
 by_cases c1:W=[46]
 ·have e:Hid (wordP s.data.toList a=tok0 7 a (a+k)):=by show _=_;rw[hT.out,if_pos c1]
  have q1:((s.extract a (a+k)).toList==[46])=true:=by rw[ht,c1];rfl
  clear hT c1 hd ht
  go_enter Tryz.func171,Tryz.ntmps171
  go_wp2_with (go_at_call 148;refine(runEnd_word _ _ _ (by unfold maxLen;omega) (by omega) (by omega)).mono ?_;rintro e w' ⟨rfl,rfl⟩;rw[show((a:Int)).toNat=a by omega,HK.out])
  refine bodyPost_ret (v:=tkV (tok0 7 a (a+k))) (by simp[results,Tryz.results171,tkV,tok0,go_sem]) rfl ⟨by rw[e.out],?_⟩
  (repeat (first|with_reducible refine Below.setCell ?_ (by simp) _|with_reducible refine below_drewN ?_ _|with_reducible refine Below.alloc ?_ (by simp) _));with_reducible exact Below.refl _ _
 have q1:((s.extract a (a+k)).toList==[46])=false:=by rw[ht,beq_eq_false_iff_ne];exact c1
 have hne':Hid ((s.extract a (a+k)).data.toList≠[]):=by rw[hd];exact hne
 cases hm:mustNum W
 ·have e:Hid (wordP s.data.toList a={ tok0 14 a (a+k) with text:=W }):=by show _=_;rw[hT.out,if_neg c1,hm];rfl
  have hm':Hid (mustNum (s.extract a (a+k)).data.toList=false):=by rw[hd];exact hm
  have hv:Hid (s.extract a (a+k)=⟨⟨W⟩⟩):=HXW.out
  clear hT c1 hd ht hm
  go_enter Tryz.func171,Tryz.ntmps171
  go_wp2_with (go_at_call 148;refine(runEnd_word _ _ _ (by unfold maxLen;omega) (by omega) (by omega)).mono ?_;rintro e w' ⟨rfl,rfl⟩;rw[show((a:Int)).toNat=a by omega,HK.out])
  refine(mustNum_b _ _ hsz hne'.out).mono ?_
  rw[hm'.out];rintro e w' ⟨rfl,rfl⟩
  go_wp2_with fail
  rw[hv.out]
  refine bodyPost_ret (v:=tkV { tok0 14 a (a+k) with text:=W }) (by simp[results,Tryz.results171,tkV,tok0,go_sem]) rfl ⟨by rw[e.out],?_⟩
  (repeat (first|with_reducible refine Below.setCell ?_ (by simp) _|with_reducible refine below_drewN ?_ _|with_reducible refine Below.alloc ?_ (by simp) _));with_reducible exact Below.refl _ _
 ·have hm':Hid (mustNum (s.extract a (a+k)).data.toList=true):=by rw[hd];exact hm
  have hnum:Hid (numberP (s.extract a (a+k)).data.toList=numberP W):=by show _=_;rw[hd]
  cases hn:numberP W with
  |none=>
   have e:Hid (wordP s.data.toList a=wrongP a):=by show _=_;rw[hT.out,if_neg c1,hm,hn];rfl
   clear hT c1 hd ht hm
   go_enter Tryz.func171,Tryz.ntmps171
   go_wp2_with (go_at_call 148;refine(runEnd_word _ _ _ (by unfold maxLen;omega) (by omega) (by omega)).mono ?_;rintro e w' ⟨rfl,rfl⟩;rw[show((a:Int)).toNat=a by omega,HK.out])
   refine(mustNum_b _ _ hsz hne'.out).mono ?_
   rw[hm'.out];rintro e w' ⟨rfl,rfl⟩
   go_wp2_with fail
   refine(number_b _ _ hsz hne'.out).mono ?_
   rw[hnum.out,hn];rintro e w1 ⟨rfl,hb⟩
   obtain⟨⟨x0,x1,x2,x3,x4,x5,x6⟩,f0,f1,f2,f3,f4,f5,f6⟩:=cells7 (b:=w.heap.size) hb (heap_alloc_new w _)
   have hb1:Below w.heap.size w w1:=((Below.refl _ w).alloc (Nat.le_refl _) _).trans (hb.mono (by simp))
   have hs1:w.heap.size<w1.heap.size:=by have:=hb.size;simp at this;omega
   have hn1:¬ w.heap.size=w1.heap.size:=by omega
   have hn2:¬ w1.heap.size=w.heap.size:=by omega
   have HB:Hid (Below w.heap.size w w1):=hb1
   have HK2:Hid _:=(hb.block w.heap.size (by simp)).trans (heap_alloc_new w _)
   clear hb hb1
   unfold tkV numT
   go_wp2_with fail
   refine(wrong_any _ _).mono ?_
   rintro e w2 ⟨rfl,hb2⟩
   clear x0 x1 x2 x3 x4 x5 x6 f0 f1 f2 f3 f4 f5 f6
   obtain⟨⟨x0,x1,x2,x3,x4,x5,x6⟩,f0,f1,f2,f3,f4,f5,f6⟩:=cells7 (b:=w.heap.size) hb2 ((Lib.alloc_old _ _ _ hs1).trans HK2.out)
   have HB2:Hid (Below w.heap.size w w2):=(HB.out.alloc (by omega) _).trans (hb2.mono (by simp;omega))
   clear hb2
   unfold tkV
   go_wp2_with fail
   exact bodyPost_ret (v:=tkV (wrongP a)) (by simp[results,Tryz.results171,tkV,tok0,wrongP,go_sem, *]) rfl ⟨by rw[e.out],below7 HB2.out _ _ _ _ _ _ _⟩
  |some p=>
   obtain⟨n,d,f⟩:=p
   have e:Hid (wordP s.data.toList a={ tok0 13 a (a+k) with n:=n,d:=d,fault:=f }):=by show _=_;rw[hT.out,if_neg c1,hm,hn];rfl
   clear hT c1 hd ht hm
   go_enter Tryz.func171,Tryz.ntmps171
   go_wp2_with (go_at_call 148;refine(runEnd_word _ _ _ (by unfold maxLen;omega) (by omega) (by omega)).mono ?_;rintro e w' ⟨rfl,rfl⟩;rw[show((a:Int)).toNat=a by omega,HK.out])
   refine(mustNum_b _ _ hsz hne'.out).mono ?_
   rw[hm'.out];rintro e w' ⟨rfl,rfl⟩
   go_wp2_with fail
   refine(number_b _ _ hsz hne'.out).mono ?_
   rw[hnum.out,hn];rintro e w1 ⟨rfl,hb⟩
   obtain⟨⟨x0,x1,x2,x3,x4,x5,x6⟩,f0,f1,f2,f3,f4,f5,f6⟩:=cells7 (b:=w.heap.size) hb (heap_alloc_new w _)
   have hb1:Below w.heap.size w w1:=((Below.refl _ w).alloc (Nat.le_refl _) _).trans (hb.mono (by simp))
   have hs1:w.heap.size<w1.heap.size:=by have:=hb.size;simp at this;omega
   have hn1:¬ w.heap.size=w1.heap.size:=by omega
   have hn2:¬ w1.heap.size=w.heap.size:=by omega
   have HB:Hid (Below w.heap.size w w1):=hb1
   have HK2:Hid _:=(hb.block w.heap.size (by simp)).trans (heap_alloc_new w _)
   clear hb hb1
   unfold tkV numT
   go_wp2_with fail
   refine bodyPost_ret (v:=tkV { tok0 13 a (a+k) with n:=n,d:=d,fault:=f }) (by simp[results,Tryz.results171,tkV,tok0,go_sem, *]) rfl ⟨by rw[e.out],?_⟩
   (repeat (first|with_reducible refine Below.setCell ?_ (by first|(simp;done)|(simp;omega)) _|with_reducible refine below_drewN ?_ _|with_reducible refine Below.alloc ?_ (by first|omega|(simp;done)|(simp;omega)) _));with_reducible exact HB.out
theorem run_take (p:Int→Bool):∀ l:List UInt8,(l.take (runL p l)).all (fun c=>p (c.toNat:Int))=true
 |[]=>rfl
 |c::r=>by
  unfold runL
  by_cases h:p (c.toNat:Int)=true
  ·rw[if_pos h,List.take_succ_cons,List.all_cons,h,Bool.true_and]
   exact run_take p r
  ·rw[if_neg h];rfl
def lab0:Tok:=⟨0,0,0,[],0,0,0⟩
set_option maxHeartbeats 2000000 in
theorem scanLabel_any (s:ByteArray)(a:Nat)(w:World)(hs:s.size≤1000000)(ha:a<s.size):
 Calls Tryz.prog 199 #[.string s,.int .i64 a] w fun e w'=>e= .returned (.tuple #[tkV ((labelP s.data.toList a).getD lab0),.bool (labelP s.data.toList a).isSome])∧Below w.heap.size w w':=by
 have hle:=runL_le digB (s.data.toList.drop (a+1))
 rw[List.length_drop,len_data] at hle
 have hall:Hid ((s.extract (a+1) (a+1+runL digB (s.data.toList.drop (a+1)))).data.toList.all (fun c=>digB (c.toNat:Int))=true):=by
  show _=_
  rw[cut_data]
  unfold cutP
  rw[show a+1+runL digB (s.data.toList.drop (a+1))-(a+1)=runL digB (s.data.toList.drop (a+1)) by omega]
  exact run_take _ _
 have hT:Hid (labelP s.data.toList a=if runL digB (s.data.toList.drop (a+1))=0∨3<runL digB (s.data.toList.drop (a+1)) then none else match s.data.toList.drop (a+1+runL digB (s.data.toList.drop (a+1))) with|[]=>none|c::_=>if c.toNat=61 then some { tok0 10 a (a+1+runL digB (s.data.toList.drop (a+1))+1) with n:=amountP (cutP s.data.toList (a+1) (a+1+runL digB (s.data.toList.drop (a+1)))) } else if c.toNat=35 then some { tok0 11 a (a+1+runL digB (s.data.toList.drop (a+1))+1) with n:=amountP (cutP s.data.toList (a+1) (a+1+runL digB (s.data.toList.drop (a+1)))) } else none):=rfl
 generalize hk:runL digB (s.data.toList.drop (a+1))=k at *
 have HK:Hid _:=hk
 clear hk
 have hcd:Hid ((s.extract (a+1) (a+1+k)).data.toList=cutP s.data.toList (a+1) (a+1+k)):=cut_data _ _ _
 have hsz:(s.extract (a+1) (a+1+k)).size≤1000000:=ext_size_le _ _ _ _ hs
 by_cases h0:k=0
 ·have e:Hid (labelP s.data.toList a=none):=by show _=_;rw[hT.out,if_pos (.inl h0)]
  have q1:(((a:Int)+1+(k:Int))==(a:Int)+1)=true:=by rw[beq_iff_eq];omega
  clear hT
  go_enter Tryz.func199,Tryz.ntmps199
  go_wp2_with (go_at_call 148;refine(runEnd_digit _ _ _ (by unfold maxLen;omega) (by omega) (by omega)).mono ?_;rintro e w' ⟨rfl,rfl⟩;rw[show((a:Int)+1).toNat=a+1 by omega,HK.out])
  refine bodyPost_ret (v:= .tuple #[tkV lab0,.bool false]) (by simp[results,Tryz.results199,tkV,lab0,go_sem]) rfl ⟨by rw[e.out];rfl,?_⟩
  (repeat (first|with_reducible refine Below.setCell ?_ (by simp) _|with_reducible refine Below.alloc ?_ (by simp) _));with_reducible exact Below.refl _ _
 have q1:(((a:Int)+1+(k:Int))==(a:Int)+1)=false:=by rw[beq_eq_false_iff_ne];omega
 by_cases h3:3<k
 ·have e:Hid (labelP s.data.toList a=none):=by show _=_;rw[hT.out,if_pos (.inr h3)]
  clear hT
  go_enter Tryz.func199,Tryz.ntmps199
  go_wp2_with (go_at_call 148;refine(runEnd_digit _ _ _ (by unfold maxLen;omega) (by omega) (by omega)).mono ?_;rintro e w' ⟨rfl,rfl⟩;rw[show((a:Int)+1).toNat=a+1 by omega,HK.out])
  refine bodyPost_ret (v:= .tuple #[tkV lab0,.bool false]) (by simp[results,Tryz.results199,tkV,lab0,go_sem]) rfl ⟨by rw[e.out];rfl,?_⟩
  (repeat (first|with_reducible refine Below.setCell ?_ (by simp) _|with_reducible refine Below.alloc ?_ (by simp) _));with_reducible exact Below.refl _ _
 have hn:¬ (k=0∨3<k):=by omega
 by_cases hE:a+1+k=s.size
 ·have e:Hid (labelP s.data.toList a=none):=by show _=_;rw[hT.out,if_neg hn,show s.data.toList.drop (a+1+k)=[] from List.drop_of_length_le (by rw[len_data];omega)]
  have q2:(((a:Int)+1+(k:Int))==(s.size:Int))=true:=by rw[beq_iff_eq];omega
  clear hT hn
  go_enter Tryz.func199,Tryz.ntmps199
  go_wp2_with (go_at_call 148;refine(runEnd_digit _ _ _ (by unfold maxLen;omega) (by omega) (by omega)).mono ?_;rintro e w' ⟨rfl,rfl⟩;rw[show((a:Int)+1).toNat=a+1 by omega,HK.out])
  refine bodyPost_ret (v:= .tuple #[tkV lab0,.bool false]) (by simp[results,Tryz.results199,tkV,lab0,go_sem]) rfl ⟨by rw[e.out];rfl,?_⟩
  (repeat (first|with_reducible refine Below.setCell ?_ (by simp) _|with_reducible refine Below.alloc ?_ (by simp) _));with_reducible exact Below.refl _ _
 have q2:(((a:Int)+1+(k:Int))==(s.size:Int))=false:=by rw[beq_eq_false_iff_ne];omega
 have hlt:a+1+k<s.size:=by omega
 have hk1:1≤k:=by omega
 have hk3:k≤3:=by omega
 have hd:=drop_cons s (a+1+k) hlt
 clear h0 h3 hE
 by_cases h61:(s[a+1+k].toNat :Int)=61
 ·have e:Hid (labelP s.data.toList a=some { tok0 10 a (a+1+k+1) with n:=amountP (cutP s.data.toList (a+1) (a+1+k)) }):=by show _=_;rw[hT.out,if_neg hn,hd];exact if_pos (by omega)
  clear hT hd hn
  go_enter Tryz.func199,Tryz.ntmps199
  go_wp2_with (go_at_call 148;refine(runEnd_digit _ _ _ (by unfold maxLen;omega) (by omega) (by omega)).mono ?_;rintro e w' ⟨rfl,rfl⟩;rw[show((a:Int)+1).toNat=a+1 by omega,HK.out])
  refine(amount_any _ _ hsz hall.out).mono ?_
  rw[hcd.out];rintro e w' ⟨rfl,rfl⟩
  go_wp2_with fail
  refine bodyPost_ret (v:= .tuple #[tkV { tok0 10 a (a+1+k+1) with n:=amountP (cutP s.data.toList (a+1) (a+1+k)) },.bool true]) (by simp[results,Tryz.results199,tkV,tok0,go_sem]) rfl ⟨by rw[e.out];rfl,?_⟩
  (repeat (first|with_reducible refine Below.setCell ?_ (by simp) _|with_reducible refine Below.alloc ?_ (by simp) _));with_reducible exact Below.refl _ _
 by_cases h35:(s[a+1+k].toNat :Int)=35
 ·have e:Hid (labelP s.data.toList a=some { tok0 11 a (a+1+k+1) with n:=amountP (cutP s.data.toList (a+1) (a+1+k)) }):=by show _=_;rw[hT.out,if_neg hn,hd];exact(if_neg (by omega)).trans (if_pos (by omega))
  clear hT hd hn
  go_enter Tryz.func199,Tryz.ntmps199
  go_wp2_with (go_at_call 148;refine(runEnd_digit _ _ _ (by unfold maxLen;omega) (by omega) (by omega)).mono ?_;rintro e w' ⟨rfl,rfl⟩;rw[show((a:Int)+1).toNat=a+1 by omega,HK.out])
  refine(amount_any _ _ hsz hall.out).mono ?_
  rw[hcd.out];rintro e w' ⟨rfl,rfl⟩
  go_wp2_with fail
  refine bodyPost_ret (v:= .tuple #[tkV { tok0 11 a (a+1+k+1) with n:=amountP (cutP s.data.toList (a+1) (a+1+k)) },.bool true]) (by simp[results,Tryz.results199,tkV,tok0,go_sem]) rfl ⟨by rw[e.out];rfl,?_⟩
  (repeat (first|with_reducible refine Below.setCell ?_ (by simp) _|with_reducible refine Below.alloc ?_ (by simp) _));with_reducible exact Below.refl _ _
 ·have e:Hid (labelP s.data.toList a=none):=by show _=_;rw[hT.out,if_neg hn,hd];exact(if_neg (by omega)).trans (if_neg (by omega))
  clear hT hd hn
  go_enter Tryz.func199,Tryz.ntmps199
  go_wp2_with (go_at_call 148;refine(runEnd_digit _ _ _ (by unfold maxLen;omega) (by omega) (by omega)).mono ?_;rintro e w' ⟨rfl,rfl⟩;rw[show((a:Int)+1).toNat=a+1 by omega,HK.out])
  refine(amount_any _ _ hsz hall.out).mono ?_
  rw[hcd.out];rintro e w' ⟨rfl,rfl⟩
  go_wp2_with fail
  refine bodyPost_ret (v:= .tuple #[tkV lab0,.bool false]) (by simp[results,Tryz.results199,tkV,lab0,go_sem]) rfl ⟨by rw[e.out];rfl,?_⟩
  (repeat (first|with_reducible refine Below.setCell ?_ (by simp) _|with_reducible refine Below.alloc ?_ (by simp) _));with_reducible exact Below.refl _ _
end Go.Proofs.YtlhimdjkkiflhaaGreatDoor
