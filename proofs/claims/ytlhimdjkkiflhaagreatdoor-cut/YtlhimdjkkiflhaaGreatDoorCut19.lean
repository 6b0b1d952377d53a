import Derived.Lib.Builder
import Derived.Lib.ItoaMem
import Derived.Lib.AppendStr
import Derived.Lib.UnsafeStr
import Derived.Laws.Externs
import Derived.Test.YtlhimdjkkiflhaaGreatDoorCut18
set_option maxHeartbeats 8000000
set_option maxRecDepth 100000
namespace Go.Proofs.YtlhimdjkkiflhaaGreatDoor
open Go.Proofs.Tryz
open Go.RowKit Go.Loop
theorem rL (s:ByteArray)(a b:Nat):(s.extract a b).data.toList=(s.data.toList.drop a).take (b-a):=by
 simp
theorem fA (s:ByteArray)(a b n:Nat)(h:s.size≤n):(s.extract a b).size≤n:=by
 rw[←bR,rL,List.length_take,zah,bR];omega
theorem yn (c:UInt8)(r:List UInt8)(w:World)(hs:r.length+1≤1000000):Calls prog 201 #[.string ⟨⟨c::r⟩⟩] w λe w'=>e=.returned (.tuple #[bn (ym (gW (c::r))),.bool (gW (c::r)).isSome])∧Below w.heap.size w w':=by
 have key:∀(l:List UInt8) (k:Nat),k<l.length→((⟨⟨l⟩⟩:ByteArray).extract 0 k).data.toList=l.take k∧((⟨⟨l⟩⟩:ByteArray).extract (k+1) (⟨⟨l⟩⟩:ByteArray).size).data.toList=l.drop (k+1):=λl k hk=>by
  refine⟨by rw[rL];simp,?_⟩;rw[rL];show(l.drop (k+1)).take (l.length-(k+1))=_;rw[zaI];rw[zah];exact zaa _
 by_cases Jf:c.toNat=45
 ·have e:gW (c::r)=numberOf true r:=by show(if c.toNat=45 then _ else _)=_;rw[if_pos Jf]
  rw[e];rcases pc r with⟨h1,h2⟩|⟨k,h1,h2,h3⟩
  ·rw[lF h2];exact Ja c r w hs Jf h1
  ·rw[mM h3,←(key r k h2).1,←(key r k h2).2];exact Jb c r w hs Jf k h1 h2 _ _ rfl rfl (fA _ _ _ _ (by show r.length≤_;omega)) (fA _ _ _ _ (by show r.length≤_;omega))
 by_cases Km:c.toNat=43
 ·have e:gW (c::r)=numberOf false r:=by show(if c.toNat=45 then _ else _)=_;rw[if_neg Jf,if_pos Km]
  rw[e];rcases pc r with⟨h1,h2⟩|⟨k,h1,h2,h3⟩
  ·rw[lF h2];exact Jc c r w hs Km h1
  ·rw[mM h3,←(key r k h2).1,←(key r k h2).2];exact Jd c r w hs Km k h1 h2 _ _ rfl rfl (fA _ _ _ _ (by show r.length≤_;omega)) (fA _ _ _ _ (by show r.length≤_;omega))
 ·have e:gW (c::r)=numberOf false (c::r):=by show(if c.toNat=45 then _ else _)=_;rw[if_neg Jf,if_neg Km]
  rw[e];rcases pc (c::r)with⟨h1,h2⟩|⟨k,h1,h2,h3⟩
  ·rw[lF h2];exact Je c r w hs Jf Km h1
  ·rw[mM h3,←(key _ k h2).1,←(key _ k h2).2];exact Jg c r w hs Jf Km k h1 h2 _ _ rfl rfl (fA _ _ _ _ (by show(c::r).length≤_;simp;omega)) (fA _ _ _ _ (by show(c::r).length≤_;simp;omega))
theorem CE (x:ByteArray)(w:World)(hs:x.size≤1000000)(hne:x.data.toList≠[]):Calls prog 201 #[.string x] w λe w'=>e=.returned (.tuple #[bn (ym (gW x.data.toList)),.bool (gW x.data.toList).isSome])∧Below w.heap.size w w':=by
 obtain⟨⟨l⟩⟩:=x;cases l with
 |nil=>exact absurd rfl hne
 |cons c r=>exact yn c r w (by have:(c::r).length≤1000000:=hs;simpa using this)
theorem sV (x:ByteArray)(w:World)(hs:x.size≤1000000)(hne:x.data.toList≠[]):Calls prog 147 #[.string x] w λe w'=>e=.returned (.bool (dn x.data.toList))∧w'=w:=by
 obtain⟨⟨l⟩⟩:=x;cases l with
 |nil=>exact absurd rfl hne
 |cons c r=>exact ji c r w (by have:(c::r).length≤1000000:=hs;unfold maxLen;omega)
theorem oo (s:ByteArray)(a b:Nat):(s.extract a b).data.toList=fR s.data.toList a b:=rL s a b
theorem Ul (s:ByteArray)(a b:Nat):(s.extract a b).toList=fR s.data.toList a b:=by rw[o9,oo]
theorem dz {W w1:World}(hb:Below W.heap.size W w1){b:Nat}{x0 x1 x2 x3 x4 x5 x6:Value}{e:TypeId}(h:W.heap[b]?=some (.cells #[x0,x1,x2,x3,x4,x5,x6] e)):(w1.cell? ⟨b,0,none⟩=some x0∧w1.cell? ⟨b,1,none⟩=some x1∧w1.cell? ⟨b,2,none⟩=some x2∧w1.cell? ⟨b,3,none⟩=some x3∧w1.cell? ⟨b,4,none⟩=some x4∧w1.cell? ⟨b,5,none⟩=some x5∧w1.cell? ⟨b,6,none⟩=some x6)∧(w1.frozen? ⟨b,0,none⟩=false∧w1.frozen? ⟨b,1,none⟩=false∧w1.frozen? ⟨b,2,none⟩=false∧w1.frozen? ⟨b,3,none⟩=false∧w1.frozen? ⟨b,4,none⟩=false∧w1.frozen? ⟨b,5,none⟩=false∧w1.frozen? ⟨b,6,none⟩=false):=by
 have hlt:b<W.heap.size:=(zae.1 h).1;have h1:w1.heap[b]?=some (.cells #[x0,x1,x2,x3,x4,x5,x6] e):=(hb.block b hlt).trans h;refine⟨⟨?_,?_,?_,?_,?_,?_,?_⟩,?_,?_,?_,?_,?_,?_,?_⟩<;>simp[World.cell?,World.frozen?,h1]
theorem gC {w w1:World}(h0:Below w.heap.size w w1)(v0 v1 v2 v3 v4 v5 v6:Value):Below w.heap.size w (((((((w1.setCell ⟨w.heap.size,0,none⟩ v0).setCell ⟨w.heap.size,1,none⟩ v1).setCell ⟨w.heap.size,2,none⟩ v2).setCell ⟨w.heap.size,3,none⟩ v3).setCell ⟨w.heap.size,4,none⟩ v4).setCell ⟨w.heap.size,5,none⟩ v5).setCell ⟨w.heap.size,6,none⟩ v6):=
 ((((((h0.setCell (zaa _) _).setCell (zaa _) _).setCell (zaa _) _).setCell (zaa _) _).setCell (zaa _) _).setCell (zaa _) _).setCell (zaa _) _
theorem pL (s:ByteArray)(a:Nat)(w:World)(hs:s.size≤1000000)(ha:a<s.size):Calls prog 200 #[.string s,.int .i64 a] w λe w'=>e=.returned (bn (dW s.data.toList a))∧Below w.heap.size w w':=by
 have hle:=jv bt (s.data.toList.drop (a+1));rw[zah,bR]at hle;have hT:Hid (dW s.data.toList a=if fR s.data.toList (a+1) (a+1+br bt (s.data.toList.drop (a+1)))=[116]∨fR s.data.toList (a+1) (a+1+br bt (s.data.toList.drop (a+1)))=[116,114,117,101]then { aq 12 a (a+1+br bt (s.data.toList.drop (a+1)))with n:=1 } else if fR s.data.toList (a+1) (a+1+br bt (s.data.toList.drop (a+1)))=[102]∨fR s.data.toList (a+1) (a+1+br bt (s.data.toList.drop (a+1)))=[102,97,108,115,101]then aq 12 a (a+1+br bt (s.data.toList.drop (a+1)))else bY a):=rfl;generalize hk:br bt (s.data.toList.drop (a+1))=k at *;have HK:Hid _:=hk;clear hk;have hc:∀x:List UInt8,((s.extract (a+1) (a+1+k)).toList==x)=decide (fR s.data.toList (a+1) (a+1+k)=x):=λx=>by rw[Ul,zaz];simp
 have q1:=hc [116];have q2:=hc [116,114,117,101];have q3:=hc [102];have q4:=hc [102,97,108,115,101];clear hc;generalize fR s.data.toList (a+1) (a+1+k)=W at *;by_cases c1:W=[116]
 ·have e:Hid (dW s.data.toList a={ aq 12 a (a+1+k)with n:=1 }):=by show _=_;rw[hT.out,if_pos (.inl c1)]
  rw[decide_eq_true c1]at q1;clear q2 q3 q4 c1;clear hT;go_enter func200,ntmps200;go_wp2_with (go_at_call 148;refine(ea _ _ _ (by unfold maxLen;omega) (by omega) (by omega)).mono ?_;rintro e w' ⟨rfl,rfl⟩;rw[show((a:Int)+1).toNat=a+1 by omega,HK.out]);refine bodyPost_ret (v:=bn { aq 12 a (a+1+k)with n:=1 }) (by simp[results,results200,bn,aq,go_sem]) rfl ⟨by rw[e.out],?_⟩
  (repeat (first|with_reducible refine Below.setCell ?_ (by simp) _|with_reducible refine below_drewN ?_ _|with_reducible refine Below.alloc ?_ (by simp) _));with_reducible exact Below.refl _ _
 by_cases c2:W=[116,114,117,101]
 ·have e:Hid (dW s.data.toList a={ aq 12 a (a+1+k)with n:=1 }):=by show _=_;rw[hT.out,if_pos (.inr c2)]
  rw[decide_eq_false c1]at q1;rw[decide_eq_true c2]at q2;clear q3 q4 c1 c2;clear hT;go_enter func200,ntmps200;go_wp2_with (go_at_call 148;refine(ea _ _ _ (by unfold maxLen;omega) (by omega) (by omega)).mono ?_;rintro e w' ⟨rfl,rfl⟩;rw[show((a:Int)+1).toNat=a+1 by omega,HK.out]);refine bodyPost_ret (v:=bn { aq 12 a (a+1+k)with n:=1 }) (by simp[results,results200,bn,aq,go_sem]) rfl ⟨by rw[e.out],?_⟩
  (repeat (first|with_reducible refine Below.setCell ?_ (by simp) _|with_reducible refine below_drewN ?_ _|with_reducible refine Below.alloc ?_ (by simp) _));with_reducible exact Below.refl _ _
 by_cases c3:W=[102]
 ·have e:Hid (dW s.data.toList a=aq 12 a (a+1+k)):=by show _=_;rw[hT.out,if_neg (by simp[c1,c2]),if_pos (.inl c3)]
  rw[decide_eq_false c1]at q1;rw[decide_eq_false c2]at q2;rw[decide_eq_true c3]at q3;clear q4 c1 c2 c3;clear hT;go_enter func200,ntmps200;go_wp2_with (go_at_call 148;refine(ea _ _ _ (by unfold maxLen;omega) (by omega) (by omega)).mono ?_;rintro e w' ⟨rfl,rfl⟩;rw[show((a:Int)+1).toNat=a+1 by omega,HK.out]);refine bodyPost_ret (v:=bn (aq 12 a (a+1+k))) (by simp[results,results200,bn,aq,go_sem]) rfl ⟨by rw[e.out],?_⟩
  (repeat (first|with_reducible refine Below.setCell ?_ (by simp) _|with_reducible refine below_drewN ?_ _|with_reducible refine Below.alloc ?_ (by simp) _));with_reducible exact Below.refl _ _
 by_cases c4:W=[102,97,108,115,101]
 ·have e:Hid (dW s.data.toList a=aq 12 a (a+1+k)):=by show _=_;rw[hT.out,if_neg (by simp[c1,c2]),if_pos (.inr c4)]
  rw[decide_eq_false c1]at q1;rw[decide_eq_false c2]at q2;rw[decide_eq_false c3]at q3;rw[decide_eq_true c4]at q4;clear c1 c2 c3 c4;clear hT;go_enter func200,ntmps200;go_wp2_with (go_at_call 148;refine(ea _ _ _ (by unfold maxLen;omega) (by omega) (by omega)).mono ?_;rintro e w' ⟨rfl,rfl⟩;rw[show((a:Int)+1).toNat=a+1 by omega,HK.out]);refine bodyPost_ret (v:=bn (aq 12 a (a+1+k))) (by simp[results,results200,bn,aq,go_sem]) rfl ⟨by rw[e.out],?_⟩
  (repeat (first|with_reducible refine Below.setCell ?_ (by simp) _|with_reducible refine below_drewN ?_ _|with_reducible refine Below.alloc ?_ (by simp) _));with_reducible exact Below.refl _ _
 ·have e:Hid (dW s.data.toList a=bY a):=by show _=_;rw[hT.out,if_neg (by simp[c1,c2]),if_neg (by simp[c3,c4])]
  rw[decide_eq_false c1]at q1;rw[decide_eq_false c2]at q2;rw[decide_eq_false c3]at q3;rw[decide_eq_false c4]at q4;clear hT c1 c2 c3 c4;go_enter func200,ntmps200;go_wp2_with (go_at_call 148;refine(ea _ _ _ (by unfold maxLen;omega) (by omega) (by omega)).mono ?_;rintro e w' ⟨rfl,rfl⟩;rw[show((a:Int)+1).toNat=a+1 by omega,HK.out]);refine(jl _ _).mono ?_;rintro e1 w1 ⟨rfl,hb⟩;obtain⟨⟨x0,x1,x2,x3,x4,x5,x6⟩,f0,f1,f2,f3,f4,f5,f6⟩:=dz (b:=w.heap.size) hb ((Lib.alloc_old _ _ _ (by simp)).trans (heap_alloc_new w _));have HB:Hid (Below w.heap.size w w1):=((((Below.refl _ w).alloc (zaa _) _).alloc (by simp) _).trans (hb.mono (by simp;omega)));clear hb;unfold bn;go_wp2_with fail;exact bodyPost_ret (v:=bn (bY a)) (by simp[results,results200,bn,aq,bY,go_sem, *]) rfl ⟨by rw[e.out],gC HB.out _ _ _ _ _ _ _⟩
theorem Um (s:ByteArray)(a b:Nat):s.extract a b=⟨⟨fR s.data.toList a b⟩⟩:=by
 have h:=oo s a b;generalize s.extract a b=x at *;obtain⟨⟨l⟩⟩:=x;rw[←h]
theorem AL (s:ByteArray)(a:Nat)(w:World)(hs:s.size≤1000000)(ha:a<s.size)(hw:bt (s[a].toNat :Int)=true):Calls prog 171 #[.string s,.int .i64 a] w λe w'=>e=.returned (bn (jG s.data.toList a))∧Below w.heap.size w w':=by
 have hle:=jv bt (s.data.toList.drop a);rw[zah,bR]at hle;have jS:0<br bt (s.data.toList.drop a):=by rw[drop_cons s a ha];unfold br;rw[if_pos hw];omega
 have hT:Hid (jG s.data.toList a=if fR s.data.toList a (a+br bt (s.data.toList.drop a))=[46]then aq 7 a (a+br bt (s.data.toList.drop a))else if !dn (fR s.data.toList a (a+br bt (s.data.toList.drop a)))then { aq 14 a (a+br bt (s.data.toList.drop a))with text:=fR s.data.toList a (a+br bt (s.data.toList.drop a)) } else match gW (fR s.data.toList a (a+br bt (s.data.toList.drop a)))with|none=>bY a|some (n,d,f)=>{ aq 13 a (a+br bt (s.data.toList.drop a))with n:=n,d:=d,fault:=f }):=rfl;clear hw;generalize hk:br bt (s.data.toList.drop a)=k at *;have HK:Hid _:=hk;clear hk;have hx:=Um s a (a+k);have hlen:(fR s.data.toList a (a+k)).length=k:=by unfold fR;rw[List.length_take,zah,bR];omega
 have hsz:(s.extract a (a+k)).size≤1000000:=fA _ _ _ _ hs;generalize hW:fR s.data.toList a (a+k)=W at *;have hne:W≠[]:=by intro h;rw[h]at hlen;simp at hlen;omega
 clear hW hlen;have hd:(s.extract a (a+k)).data.toList=W:=by rw[hx]
 have ht:(s.extract a (a+k)).toList=W:=by rw[o9,hd]
 have HXW:Hid _:=hx;clear hx;by_cases c1:W=[46]
 ·have e:Hid (jG s.data.toList a=aq 7 a (a+k)):=by show _=_;rw[hT.out,if_pos c1]
  have q1:((s.extract a (a+k)).toList==[46])=true:=by rw[ht,c1];rfl
  clear hT c1 hd ht;go_enter func171,ntmps171;go_wp2_with (go_at_call 148;refine(ea _ _ _ (by unfold maxLen;omega) (by omega) (by omega)).mono ?_;rintro e w' ⟨rfl,rfl⟩;rw[show((a:Int)).toNat=a by omega,HK.out]);refine bodyPost_ret (v:=bn (aq 7 a (a+k))) (by simp[results,results171,bn,aq,go_sem]) rfl ⟨by rw[e.out],?_⟩
  (repeat (first|with_reducible refine Below.setCell ?_ (by simp) _|with_reducible refine below_drewN ?_ _|with_reducible refine Below.alloc ?_ (by simp) _));with_reducible exact Below.refl _ _
 have q1:((s.extract a (a+k)).toList==[46])=false:=by rw[ht,beq_eq_false_iff_ne];exact c1
 have Mn:Hid ((s.extract a (a+k)).data.toList≠[]):=by rw[hd];exact hne
 cases hm:dn W
 ·have e:Hid (jG s.data.toList a={ aq 14 a (a+k)with text:=W }):=by show _=_;rw[hT.out,if_neg c1,hm];rfl
  have Kl:Hid (dn (s.extract a (a+k)).data.toList=false):=by rw[hd];exact hm
  have hv:Hid (s.extract a (a+k)=⟨⟨W⟩⟩):=HXW.out;clear hT c1 hd ht hm;go_enter func171,ntmps171;go_wp2_with (go_at_call 148;refine(ea _ _ _ (by unfold maxLen;omega) (by omega) (by omega)).mono ?_;rintro e w' ⟨rfl,rfl⟩;rw[show((a:Int)).toNat=a by omega,HK.out]);refine(sV _ _ hsz Mn.out).mono ?_;rw[Kl.out];rintro e w' ⟨rfl,rfl⟩;go_wp2_with fail;rw[hv.out];refine bodyPost_ret (v:=bn { aq 14 a (a+k)with text:=W }) (by simp[results,results171,bn,aq,go_sem]) rfl ⟨by rw[e.out],?_⟩
  (repeat (first|with_reducible refine Below.setCell ?_ (by simp) _|with_reducible refine below_drewN ?_ _|with_reducible refine Below.alloc ?_ (by simp) _));with_reducible exact Below.refl _ _
 ·have Kl:Hid (dn (s.extract a (a+k)).data.toList=true):=by rw[hd];exact hm
  have dJ:Hid (gW (s.extract a (a+k)).data.toList=gW W):=by show _=_;rw[hd]
  cases hn:gW W with
  |none=>
   have e:Hid (jG s.data.toList a=bY a):=by show _=_;rw[hT.out,if_neg c1,hm,hn];rfl
   clear hT c1 hd ht hm;go_enter func171,ntmps171;go_wp2_with (go_at_call 148;refine(ea _ _ _ (by unfold maxLen;omega) (by omega) (by omega)).mono ?_;rintro e w' ⟨rfl,rfl⟩;rw[show((a:Int)).toNat=a by omega,HK.out]);refine(sV _ _ hsz Mn.out).mono ?_;rw[Kl.out];rintro e w' ⟨rfl,rfl⟩;go_wp2_with fail;refine(CE _ _ hsz Mn.out).mono ?_;rw[dJ.out,hn];rintro e w1 ⟨rfl,hb⟩;obtain⟨⟨x0,x1,x2,x3,x4,x5,x6⟩,f0,f1,f2,f3,f4,f5,f6⟩:=dz (b:=w.heap.size) hb (heap_alloc_new w _);have hb1:Below w.heap.size w w1:=((Below.refl _ w).alloc (zaa _) _).trans (hb.mono (by simp));have hs1:w.heap.size<w1.heap.size:=by have:=hb.size;simp at this;omega
   have Uf:¬w.heap.size=w1.heap.size:=by omega
   have Pe:¬w1.heap.size=w.heap.size:=by omega
   have HB:Hid (Below w.heap.size w w1):=hb1;have pg:Hid _:=(hb.block w.heap.size (by simp)).trans (heap_alloc_new w _);clear hb hb1;unfold bn ym;go_wp2_with fail;refine(jl _ _).mono ?_;rintro e w2 ⟨rfl,hb2⟩;clear x0 x1 x2 x3 x4 x5 x6 f0 f1 f2 f3 f4 f5 f6;obtain⟨⟨x0,x1,x2,x3,x4,x5,x6⟩,f0,f1,f2,f3,f4,f5,f6⟩:=dz (b:=w.heap.size) hb2 ((Lib.alloc_old _ _ _ hs1).trans pg.out);have ij:Hid (Below w.heap.size w w2):=(HB.out.alloc (by omega) _).trans (hb2.mono (by simp;omega));clear hb2;unfold bn;go_wp2_with fail;exact bodyPost_ret (v:=bn (bY a)) (by simp[results,results171,bn,aq,bY,go_sem, *]) rfl ⟨by rw[e.out],gC ij.out _ _ _ _ _ _ _⟩
  |some p=>
   obtain⟨n,d,f⟩:=p;have e:Hid (jG s.data.toList a={ aq 13 a (a+k)with n:=n,d:=d,fault:=f }):=by show _=_;rw[hT.out,if_neg c1,hm,hn];rfl
   clear hT c1 hd ht hm;go_enter func171,ntmps171;go_wp2_with (go_at_call 148;refine(ea _ _ _ (by unfold maxLen;omega) (by omega) (by omega)).mono ?_;rintro e w' ⟨rfl,rfl⟩;rw[show((a:Int)).toNat=a by omega,HK.out]);refine(sV _ _ hsz Mn.out).mono ?_;rw[Kl.out];rintro e w' ⟨rfl,rfl⟩;go_wp2_with fail;refine(CE _ _ hsz Mn.out).mono ?_;rw[dJ.out,hn];rintro e w1 ⟨rfl,hb⟩;obtain⟨⟨x0,x1,x2,x3,x4,x5,x6⟩,f0,f1,f2,f3,f4,f5,f6⟩:=dz (b:=w.heap.size) hb (heap_alloc_new w _);have hb1:Below w.heap.size w w1:=((Below.refl _ w).alloc (zaa _) _).trans (hb.mono (by simp));have hs1:w.heap.size<w1.heap.size:=by have:=hb.size;simp at this;omega
   have Uf:¬w.heap.size=w1.heap.size:=by omega
   have Pe:¬w1.heap.size=w.heap.size:=by omega
   have HB:Hid (Below w.heap.size w w1):=hb1;have pg:Hid _:=(hb.block w.heap.size (by simp)).trans (heap_alloc_new w _);clear hb hb1;unfold bn ym;go_wp2_with fail;refine bodyPost_ret (v:=bn { aq 13 a (a+k)with n:=n,d:=d,fault:=f }) (by simp[results,results171,bn,aq,go_sem, *]) rfl ⟨by rw[e.out],?_⟩
   (repeat (first|with_reducible refine Below.setCell ?_ (by first|(simp;done)|(simp;omega)) _|with_reducible refine below_drewN ?_ _|with_reducible refine Below.alloc ?_ (by first|omega|(simp;done)|(simp;omega)) _));with_reducible exact HB.out
theorem CF (p:Int→Bool):∀l:List UInt8,(l.take (br p l)).all (λc=>p (c.toNat:Int))=true
 |[]=>rfl
 |c::r=>by
  unfold br;by_cases h:p (c.toNat:Int)=true
  ·rw[if_pos h,List.take_succ_cons,zaf,h,zaW];exact CF p r
  ·rw[if_neg h];rfl
def wZ:Tok:=⟨0,0,0,[],0,0,0⟩
theorem lG (s:ByteArray)(a:Nat)(w:World)(hs:s.size≤1000000)(ha:a<s.size):Calls prog 199 #[.string s,.int .i64 a] w λe w'=>e=.returned (.tuple #[bn ((eo s.data.toList a).getD wZ),.bool (eo s.data.toList a).isSome])∧Below w.heap.size w w':=by
 have hle:=jv cT (s.data.toList.drop (a+1));rw[zah,bR]at hle;have hall:Hid ((s.extract (a+1) (a+1+br cT (s.data.toList.drop (a+1)))).data.toList.all (λc=>cT (c.toNat:Int))=true):=by
  show _=_;rw[oo];unfold fR;rw[show a+1+br cT (s.data.toList.drop (a+1))-(a+1)=br cT (s.data.toList.drop (a+1)) by omega];exact CF _ _
 have hT:Hid (eo s.data.toList a=if br cT (s.data.toList.drop (a+1))=0∨3<br cT (s.data.toList.drop (a+1))then none else match s.data.toList.drop (a+1+br cT (s.data.toList.drop (a+1)))with|[]=>none|c::_=>if c.toNat=61 then some { aq 10 a (a+1+br cT (s.data.toList.drop (a+1))+1)with n:=ae (fR s.data.toList (a+1) (a+1+br cT (s.data.toList.drop (a+1)))) } else if c.toNat=35 then some { aq 11 a (a+1+br cT (s.data.toList.drop (a+1))+1)with n:=ae (fR s.data.toList (a+1) (a+1+br cT (s.data.toList.drop (a+1)))) } else none):=rfl;generalize hk:br cT (s.data.toList.drop (a+1))=k at *;have HK:Hid _:=hk;clear hk;have L8:Hid ((s.extract (a+1) (a+1+k)).data.toList=fR s.data.toList (a+1) (a+1+k)):=oo _ _ _;have hsz:(s.extract (a+1) (a+1+k)).size≤1000000:=fA _ _ _ _ hs;by_cases h0:k=0
 ·have e:Hid (eo s.data.toList a=none):=by show _=_;rw[hT.out,if_pos (.inl h0)]
  have q1:(((a:Int)+1+(k:Int))==(a:Int)+1)=true:=by rw[beq_iff_eq];omega
  clear hT;go_enter func199,ntmps199;go_wp2_with (go_at_call 148;refine(fI _ _ _ (by unfold maxLen;omega) (by omega) (by omega)).mono ?_;rintro e w' ⟨rfl,rfl⟩;rw[show((a:Int)+1).toNat=a+1 by omega,HK.out]);refine bodyPost_ret (v:= .tuple #[bn wZ,.bool false]) (by simp[results,results199,bn,wZ,go_sem]) rfl ⟨by rw[e.out];rfl,?_⟩
  (repeat (first|with_reducible refine Below.setCell ?_ (by simp) _|with_reducible refine Below.alloc ?_ (by simp) _));with_reducible exact Below.refl _ _
 have q1:(((a:Int)+1+(k:Int))==(a:Int)+1)=false:=by rw[beq_eq_false_iff_ne];omega
 by_cases h3:3<k
 ·have e:Hid (eo s.data.toList a=none):=by show _=_;rw[hT.out,if_pos (.inr h3)]
  clear hT;go_enter func199,ntmps199;go_wp2_with (go_at_call 148;refine(fI _ _ _ (by unfold maxLen;omega) (by omega) (by omega)).mono ?_;rintro e w' ⟨rfl,rfl⟩;rw[show((a:Int)+1).toNat=a+1 by omega,HK.out]);refine bodyPost_ret (v:= .tuple #[bn wZ,.bool false]) (by simp[results,results199,bn,wZ,go_sem]) rfl ⟨by rw[e.out];rfl,?_⟩
  (repeat (first|with_reducible refine Below.setCell ?_ (by simp) _|with_reducible refine Below.alloc ?_ (by simp) _));with_reducible exact Below.refl _ _
 have hn:¬(k=0∨3<k):=by omega
 by_cases hE:a+1+k=s.size
 ·have e:Hid (eo s.data.toList a=none):=by show _=_;rw[hT.out,if_neg hn,show s.data.toList.drop (a+1+k)=[] from zbf (by rw[bR];omega)]
  have q2:(((a:Int)+1+(k:Int))==(s.size:Int))=true:=by rw[beq_iff_eq];omega
  clear hT hn;go_enter func199,ntmps199;go_wp2_with (go_at_call 148;refine(fI _ _ _ (by unfold maxLen;omega) (by omega) (by omega)).mono ?_;rintro e w' ⟨rfl,rfl⟩;rw[show((a:Int)+1).toNat=a+1 by omega,HK.out]);refine bodyPost_ret (v:= .tuple #[bn wZ,.bool false]) (by simp[results,results199,bn,wZ,go_sem]) rfl ⟨by rw[e.out];rfl,?_⟩
  (repeat (first|with_reducible refine Below.setCell ?_ (by simp) _|with_reducible refine Below.alloc ?_ (by simp) _));with_reducible exact Below.refl _ _
 have q2:(((a:Int)+1+(k:Int))==(s.size:Int))=false:=by rw[beq_eq_false_iff_ne];omega
 have hlt:a+1+k<s.size:=by omega
 have xQ:1≤k:=by omega
 have hk3:k≤3:=by omega
 have hd:=drop_cons s (a+1+k) hlt;clear h0 h3 hE;by_cases h61:(s[a+1+k].toNat :Int)=61
 ·have e:Hid (eo s.data.toList a=some { aq 10 a (a+1+k+1)with n:=ae (fR s.data.toList (a+1) (a+1+k)) }):=by show _=_;rw[hT.out,if_neg hn,hd];exact if_pos (by omega)
  clear hT hd hn;go_enter func199,ntmps199;go_wp2_with (go_at_call 148;refine(fI _ _ _ (by unfold maxLen;omega) (by omega) (by omega)).mono ?_;rintro e w' ⟨rfl,rfl⟩;rw[show((a:Int)+1).toNat=a+1 by omega,HK.out]);refine(aP _ _ hsz hall.out).mono ?_;rw[L8.out];rintro e w' ⟨rfl,rfl⟩;go_wp2_with fail;refine bodyPost_ret (v:= .tuple #[bn { aq 10 a (a+1+k+1)with n:=ae (fR s.data.toList (a+1) (a+1+k)) },.bool true]) (by simp[results,results199,bn,aq,go_sem]) rfl ⟨by rw[e.out];rfl,?_⟩
  (repeat (first|with_reducible refine Below.setCell ?_ (by simp) _|with_reducible refine Below.alloc ?_ (by simp) _));with_reducible exact Below.refl _ _
 by_cases Un:(s[a+1+k].toNat :Int)=35
 ·have e:Hid (eo s.data.toList a=some { aq 11 a (a+1+k+1)with n:=ae (fR s.data.toList (a+1) (a+1+k)) }):=by show _=_;rw[hT.out,if_neg hn,hd];exact(if_neg (by omega)).trans (if_pos (by omega))
  clear hT hd hn;go_enter func199,ntmps199;go_wp2_with (go_at_call 148;refine(fI _ _ _ (by unfold maxLen;omega) (by omega) (by omega)).mono ?_;rintro e w' ⟨rfl,rfl⟩;rw[show((a:Int)+1).toNat=a+1 by omega,HK.out]);refine(aP _ _ hsz hall.out).mono ?_;rw[L8.out];rintro e w' ⟨rfl,rfl⟩;go_wp2_with fail;refine bodyPost_ret (v:= .tuple #[bn { aq 11 a (a+1+k+1)with n:=ae (fR s.data.toList (a+1) (a+1+k)) },.bool true]) (by simp[results,results199,bn,aq,go_sem]) rfl ⟨by rw[e.out];rfl,?_⟩
  (repeat (first|with_reducible refine Below.setCell ?_ (by simp) _|with_reducible refine Below.alloc ?_ (by simp) _));with_reducible exact Below.refl _ _
 ·have e:Hid (eo s.data.toList a=none):=by show _=_;rw[hT.out,if_neg hn,hd];exact(if_neg (by omega)).trans (if_neg (by omega))
  clear hT hd hn;go_enter func199,ntmps199;go_wp2_with (go_at_call 148;refine(fI _ _ _ (by unfold maxLen;omega) (by omega) (by omega)).mono ?_;rintro e w' ⟨rfl,rfl⟩;rw[show((a:Int)+1).toNat=a+1 by omega,HK.out]);refine(aP _ _ hsz hall.out).mono ?_;rw[L8.out];rintro e w' ⟨rfl,rfl⟩;go_wp2_with fail;refine bodyPost_ret (v:= .tuple #[bn wZ,.bool false]) (by simp[results,results199,bn,wZ,go_sem]) rfl ⟨by rw[e.out];rfl,?_⟩
  (repeat (first|with_reducible refine Below.setCell ?_ (by simp) _|with_reducible refine Below.alloc ?_ (by simp) _));with_reducible exact Below.refl _ _
structure Jh (T:TypeId) (cells off:Nat):Prop where
 lies:liesAt prog prog.depth T (cells/prog.cellsOf T) off 116 1=true
 lt:off<cells
theorem w9:Jh 116 2 0:=⟨by kernel_rfl,by omega⟩
theorem CG:Jh 118 7 4:=⟨by kernel_rfl,by omega⟩
theorem tW:(prog.info? 116).map (·.size)=some 2:=by kernel_rfl
theorem infoByte:(prog.info? 5).map (λi=>(i.zero,i.size,i.bytes))=some (some (.int .u8 0),1,1):=by kernel_rfl
structure fC (w:World) (T:TypeId) (off B b:Nat) (cs:Array Value) (v:Value) (bs:List Value):Prop where
 hB:B≤b
 blk:w.heap[b]?=some (.cells cs T (0,0))
 c0:cs[off]?=some (.pointer none)∨cs[off]?=some (.pointer (some ⟨b,off,none⟩))
 c1:cs[off+1]?=some v
 own:w.ownsRow B 5 1 v bs.length bs
structure iy (w w':World) (b:Nat) (v v':Value):Prop where
 os:w'.os=w.os
 tape:w'.tape=w.tape
 output:w'.output=w.output
 size:w.heap.size≤w'.heap.size
 block:∀k,k<w.heap.size→k≠b→some k≠v.ownBlock→w'.heap[k]?=w.heap[k]?
 buf:v'.ownBlock=v.ownBlock∨∃k,v'.ownBlock=some k∧w.heap.size≤k
theorem iy.refl (w:World)(b:Nat)(v:Value):iy w w b v v:=⟨rfl,rfl,rfl,zaa _,λ_ _ _ _=>rfl,Or.inl rfl⟩
theorem iy.trans {w w' w'':World}{b:Nat}{v v' YE:Value}(h:iy w w' b v v')(k:iy w' w'' b v' YE):iy w w'' b v YE:=by
 refine⟨k.os.trans h.os,k.tape.trans h.tape,k.output.trans h.output,zad h.size k.size,λi hi hb hv=>?_,?_⟩
 ·have hne:some i≠v'.ownBlock:=by
   rcases h.buf with e|⟨g,e,hg⟩
   ·rw[e];exact hv
   ·rw[e];intro x;simp only[zap]at x;omega
  exact(k.block i (zaq hi h.size) hb hne).trans (h.block i hi hb hv)
 ·rcases k.buf with e|⟨g,e,hg⟩
  ·rw[e];exact h.buf
  ·exact Or.inr ⟨g,e,zad h.size hg⟩
theorem iy.below {w w':World}{B b:Nat}{v v':Value}(h:iy w w' b v v')(hB:B≤w.heap.size)(hb:B≤b)(hv:∀k,v.ownBlock=some k→B≤k):Below B w w':=
 ⟨h.os,h.tape,h.output,h.size,λk hk=>h.block k (by omega) (by omega) (λe=>by have:=hv k e.symm;omega)⟩
theorem fC.cell {w:World}{T:TypeId}{off B b:Nat}{cs:Array Value}{v:Value}{bs:List Value}(h:fC w T off B b cs v bs)(j:Nat):w.cell? ⟨b,j,none⟩=cs[j]?:=Lib.cell_of_heap h.blk j
theorem fC.frozen {w:World}{T:TypeId}{off B b:Nat}{cs:Array Value}{v:Value}{bs:List Value}(h:fC w T off B b cs v bs)(j:Nat):w.frozen? ⟨b,j,none⟩=false:=Lib.frozen_of_heap h.blk j
theorem fC.lt {w:World}{T:TypeId}{off B b:Nat}{cs:Array Value}{v:Value}{bs:List Value}(h:fC w T off B b cs v bs):b<w.heap.size:=(zae.1 h.blk).1
theorem xa (b off:Nat)(w:World)(h0:w.cell? ⟨b,off,none⟩=some (.pointer (some ⟨b,off,none⟩))):Calls prog 189 #[.pointer (some ⟨b,off,none⟩)] w λe w'=>e=.returned (.tuple #[])∧w'=w:=by
 obtain⟨j,hj,_⟩:=zam.1 tW;go_enter func189,ntmps189
 go_wp2
 rw[Lib.run_neq_ptr_same w _ underlying114 hj]
 go_wp2
 go_end0
 exact⟨rfl,rfl⟩
theorem uB (T:TypeId)(cells b off:Nat)(X:Jh T cells off)(w:World)(h0:w.cell? ⟨b,off,none⟩=some (.pointer none))(AO:w.shape? b=some (T,cells))(KJ:w.frozen? ⟨b,off,none⟩=false):Calls prog 189 #[.pointer (some ⟨b,off,none⟩)] w λe w'=>e=.returned (.tuple #[])∧w'=w.setCell ⟨b,off,none⟩ (.pointer (some ⟨b,off,none⟩)):=by
 obtain⟨j,hj,hjs⟩:=zam.1 tW;go_enter func189,ntmps189
 go_wp2
 rw[Lib.run_to_unsafe w ⟨b,off,none⟩ underlying114 underlying196 hj (by rw[hjs];decide) AO X.lt];simp only[Result.andThen];rw[Oper.upon_value]
 go_wp2
 rw[run_callFunc_extern func215 (by kernel_rfl) (by kernel_rfl) (by kernel_rfl) (e:=Extern.AbiNoEscape.same) (by kernel_rfl)];rw[Lib.run_noEscape];simp only[Result.andThen];rw[Oper.upon_value]
 go_wp2
 rw[Lib.run_from_unsafe w ⟨b,off,none⟩ underlying196 underlying114 hj AO X.lies];simp only[Result.andThen];rw[Oper.upon_value]
 go_wp2
 go_end0
 exact⟨rfl,rfl⟩
def kL (off b:Nat)(cs:Array Value):Array Value:=cs.setIfInBounds off (.pointer (some ⟨b,off,none⟩))
theorem E0 {off b:Nat}{cs:Array Value}(h:cs[off]?=some (.pointer (some ⟨b,off,none⟩))):kL off b cs=cs:=by
 apply Array.ext_getElem?
 intro i;unfold kL;rw[zbI];split
 ·next e=>subst e;obtain⟨hlt,_⟩:=zae.1 h;rw[if_pos hlt,h]
 ·rfl
theorem pM {w:World}{T:TypeId}{off B b:Nat}{cs:Array Value}{v:Value}{bs:List Value}(X:Jh T cs.size off)(hT:T≠5)(h:fC w T off B b cs v bs):Calls prog 189 #[.pointer (some ⟨b,off,none⟩)] w λe w'=>e=.returned (.tuple #[])∧fC w' T off B b (kL off b cs) v bs∧(kL off b cs)[off]?=some (.pointer (some ⟨b,off,none⟩))∧iy w w' b v v:=by
 have hlt:=X.lt;rcases h.c0 with h0|h0
 ·refine(uB T cs.size b off X w ((h.cell off).trans h0) (by simp[World.shape?,h.blk]) (h.frozen off)).mono ?_;rintro e w' ⟨rfl,rfl⟩;have hn:=Lib.ownBlock_ne h.own h.blk hT;have hu:(kL off b cs)[off]?=some (.pointer (some ⟨b,off,none⟩)):=by simp[kL,hlt]
  refine⟨rfl,⟨h.hB,?_,Or.inr hu,?_,?_⟩,hu,⟨rfl,rfl,rfl,by simp[World.setCell],λk _ hk _=>Below.heap_setCell _ _ _ _ hk,Or.inl rfl⟩⟩
  ·have:=heap_setCell_same w b off cs T (.pointer (some ⟨b,off,none⟩)) h.blk;exact this
  ·unfold kL;rw[zbI,if_neg (by omega)];exact h.c1
  ·exact h.own.kept (row:=some b) ⟨rfl,rfl,rfl,by simp[World.setCell],λk _ hk=>Below.heap_setCell _ _ _ _ (λe=>hk (by simp[e]))⟩ (Or.inr hn)
 ·refine(xa b off w ((h.cell off).trans h0)).mono ?_;rintro e w' ⟨rfl,rfl⟩;rw[E0 h0];exact⟨rfl,h,h0,iy.refl _ _ _⟩
theorem qh {w:World}{T:TypeId}{off B b:Nat}{cs:Array Value}{v:Value}{bs:List Value}(h:fC w T off B b cs v bs):Calls prog 153 #[.pointer (some ⟨b,off,none⟩)] w λe w'=>e=.returned (.int .i64 bs.length)∧w'=w:=by
 have c1:=(h.cell (off+1)).trans h.c1;have hown:=h.own;obtain⟨ao,cap,rfl⟩:∃ao cap,v=.slice ao bs.length cap:=by
  rcases hown.2 with⟨hv,h0⟩|⟨g,cap,cur,hv,_⟩
  ·exact⟨none,0,by rw[hv,h0]⟩
  ·exact⟨_,_,hv⟩
 clear hown h;go_enter func153,ntmps153
 go_wp2
 go_ret;exact⟨rfl,rfl⟩
section
variable {P:Program}
theorem xb (w:World)(base:Nat)(t u ty e:TypeId)(i:TypeInfo)(ht:P.underlying t=some (.slice e))(hu:P.underlying u=some .string)(hi:P.info? e=some i)(hz:i.zero=some (.int .u8 0))
 (hsize:i.size=1)(hby:i.bytes=1)
 (v:Value)(n:Nat)(xs:List Value)(hown:w.ownsRow base e 1 v n xs)(s:ByteArray)
 (h63:n+s.size≤maxLen)(hbytes:n+s.size≤140737488355328)(hbase:base≤w.heap.size):
 ∃v' w',(Builtin.append_ #[t,u] ty #[v,.string s]).run P w=.ok v' w'∧w'.ownsRow base e 1 v' (n+s.size) (xs++Lib.strCells s)∧w.grownBy w' v.ownBlock∧
  (v'.ownBlock=v.ownBlock∨∃k,v'.ownBlock=some k∧w.heap.size≤k):=by
 obtain⟨v',w',hr,h2,h3,h4⟩:=Lib.run_append_own_string (P:=P) w base t u ty e i ht hu hi hz hsize hby v n xs hown s h63 hbytes hbase;refine⟨v',w',hr,h2,h3,?_⟩;have hxl:xs.length=n:=by simpa using hown.1
 have E4:n+s.size≤9223372036854775807:=by simp only[maxLen]at h63;omega
 rcases hown.2 with⟨rfl,rfl⟩|⟨g,cap,cur,rfl,hbg,hg,hnc,hcm,hcs,CH⟩
 ·by_cases hm:s.size=0
  ·have:=h4.2 ⟨rfl,hm⟩;rw[this];exact Or.inl rfl
  ·have l4:=Go.run_append_nil_string (P:=P) w t u ty e i (.int .u8 0) ht hu hi hz s (by omega) (by omega) (by rw[hby];omega);rw[l4]at hr;injection hr with a b;rw[←a];exact Or.inr ⟨_,rfl,zaa _⟩
 ·by_cases hroom:n+s.size≤cap
  ·have acK:cur.size=cap:=by simpa using hcs
   have l4:=Lib.run_append_room_string (P:=P) w t u ty e i ht hu hi hsize g n cap cur hg s hroom (by omega);rw[l4]at hr;injection hr with a b;rw[←a];exact Or.inl rfl
  ·have holds:∀j u,xs[j]?=some u→w.cell? ((⟨g,0,none⟩:Addr).add j)=some u:=hown.cells (g:=g) rfl;have l4:=Lib.run_append_grow_string (P:=P) w t u ty e i (.int .u8 0) ht hu hi hz ⟨g,0,none⟩ n cap xs (by rw[hsize];simpa using hxl) holds s (by omega) (by omega) (by rw[hby];exact growslice_fits (by omega) (by omega));rw[l4]at hr;injection hr with a b;rw[←a];exact Or.inr ⟨_,rfl,zaa _⟩
theorem rM {w:World}{ops:Array Oper}{rest:List Oper}{o:Oper}{a:Act}{Q:Exit→Act→World→Prop}(hgd:o.guard=none)(sl x:Operand)(t u:TypeId)
 (ho:o.op=.call { callee:= .builtin .append,args:=#[sl,x],argTypes:=#[t,u] })
 (base:Nat)(e:TypeId)(i:TypeInfo)(ht:P.underlying t=some (.slice e))(hu:P.underlying u=some .string)(hi:P.info? e=some i)(hz:i.zero=some (.int .u8 0))
 (hsize:i.size=1)(hby:i.bytes=1)
 (v:Value)(n:Nat)(xs:List Value)(hs:a.eval sl=v)(hown:w.ownsRow base e 1 v n xs)(s:ByteArray)(hx:a.eval x=.string s)
 (h63:n+s.size≤maxLen)(hbytes:n+s.size≤140737488355328)(hbase:base≤w.heap.size)
 (h:∀v' w',w'.ownsRow base e 1 v' (n+s.size) (xs++Lib.strCells s)→w.grownBy w' v.ownBlock→(v'.ownBlock=v.ownBlock∨∃k,v'.ownBlock=some k∧w.heap.size≤k)→wpList P ops Q rest (a.put o.dst v') w'):wpList P ops Q (o::rest) a w:=by
 refine wpList_plain hgd λK hK=>?_;obtain⟨v',w',hr,h2,h3,h4⟩:=xb (P:=P) w base t u o.type e i ht hu hi hz hsize hby v n xs hown s h63 hbytes hbase;unfold Oper.wp execOp;simp only[ho,resolve,invoke,builtin,Sem.run_bind,Sem.run_pure,Result.andThen_ok,zbe,zao,zaG,hs,hx,hr];exact hK _ _ (h v' w' h2 h3 h4)
end
theorem fC.put {w w2:World}{T:TypeId}{off B b:Nat}{cs:Array Value}{v v':Value}{bs bs':List Value}(h:fC w T off B b cs v bs)(hT:T≠5)(hg:w.grownBy w2 v.ownBlock)
 (hown:w2.ownsRow B 5 1 v' bs'.length bs')(lH:v'.ownBlock=v.ownBlock∨∃k,v'.ownBlock=some k∧w.heap.size≤k):
 fC (w2.setCell ⟨b,off+1,none⟩ v') T off B b (cs.setIfInBounds (off+1) v') v' bs'∧iy w (w2.setCell ⟨b,off+1,none⟩ v') b v v':=by
 have hn:=Lib.ownBlock_ne h.own h.blk hT;have hlt:=h.lt;have hb2:w2.heap[b]?=some (.cells cs T (0,0)):=(hg.block b hlt (λe=>hn e.symm)).trans h.blk;have Pe:=Lib.ownBlock_ne hown hb2 hT;obtain⟨lN,_⟩:=zae.1 h.c1;refine⟨⟨h.hB,heap_setCell_same w2 b (off+1) cs T v' hb2,?_,?_,?_⟩,⟨hg.os,hg.tape,hg.output,?_,λk hk hkb Wp=>?_,lH⟩⟩
 ·rw[zbI,if_neg (by omega)];exact h.c0
 ·simp[lN]
 ·exact hown.kept (row:=some b) ⟨rfl,rfl,rfl,by simp[World.setCell],λk _ hk=>Below.heap_setCell _ _ _ _ (λe=>hk (by simp[e]))⟩ (Or.inr Pe)
 ·have:=hg.size;simpa[World.setCell]using this
 ·rw[Below.heap_setCell _ _ _ _ hkb];exact hg.block k hk Wp
theorem nu {w:World}{T:TypeId}{off B b:Nat}{cs:Array Value}{v:Value}{bs:List Value}(X:Jh T cs.size off)(hT:T≠5)(h:fC w T off B b cs v bs)(s:ByteArray)(hlen:bs.length+s.size≤140737488355328)(Po:B≤w.heap.size):Calls prog 154 #[.pointer (some ⟨b,off,none⟩),.string s] w λe w'=>e=.returned (.tuple #[.int .i64 s.size,.nilIface])∧∃v',fC w' T off B b ((kL off b cs).setIfInBounds (off+1) v') v' (bs++Lib.strCells s)∧iy w w' b v v':=by
 obtain⟨i0,hi,hz0,hz1,hz2⟩:=info_parts infoByte;go_enter func154,ntmps154;go_wp2_with (go_at_call 189;refine(pM X hT h).mono ?_);rintro e w1 ⟨rfl,h1,hc0,qy⟩;have c0:w1.cell? ⟨b,off,none⟩=some (.pointer (some ⟨b,off,none⟩)):=(h1.cell off).trans hc0;have c1:w1.cell? ⟨b,off+1,none⟩=some v:=(h1.cell (off+1)).trans h1.c1;have hs1:=qy.size;go_wp2_with (at_builtin;refine rM rfl _ _ 80 9 rfl B 5 i0 underlying80 underlying9 hi hz0 hz1 hz2 _ _ _ rfl h1.own s rfl ?c3 ?c4 ?c5 ?_)
 case c3=>unfold maxLen;omega
 case c4=>omega
 case c5=>omega
 intro v' w2 hown' hgrow lH;obtain⟨hA,hTo⟩:=h1.put hT hgrow (bs':=bs++Lib.strCells s) (by simpa[Lib.strCells_length]using hown') lH;have hn:=Lib.ownBlock_ne h1.own h1.blk hT;have hb2:w2.heap[b]?=some (.cells (kL off b cs) T (0,0)):=(hgrow.block b h1.lt (λe=>hn e.symm)).trans h1.blk;have d0:w2.cell? ⟨b,off,none⟩=some (.pointer (some ⟨b,off,none⟩)):=(Lib.cell_of_heap hb2 _).trans hc0;have d1:w2.cell? ⟨b,off+1,none⟩=some v:=(Lib.cell_of_heap hb2 _).trans h1.c1;have f1:w2.frozen? ⟨b,off+1,none⟩=false:=Lib.frozen_of_heap hb2 _;obtain⟨ao,n',cap,rfl⟩:∃ao n' cap,v'=.slice ao n' cap:=by
  rcases hown'.2 with⟨hv,_⟩|⟨g,cap,cur,hv,_⟩
  ·exact⟨_,_,_,hv⟩
  ·exact⟨_,_,_,hv⟩
 go_wp2
 go_ret2;exact⟨rfl,_,hA,qy.trans hTo⟩
section
variable {P:Program}
theorem xc (w:World)(base:Nat)(t ty e:TypeId)(i:TypeInfo)(z:Value)(ht:P.underlying t=some (.slice e))(hi:P.info? e=some i)(hz:i.zero=some z)
 (hsize:i.size=1)(hby:i.bytes=1)(hzs:z.cells.size=1)
 (v:Value)(n:Nat)(xs:List Value)(hown:w.ownsRow base e 1 v n xs)
 (a:Addr)(m c:Nat)(news:List Value)(hm:m≠0)(hl:news.length=m*1)(hnews:∀j u,news[j]?=some u→w.cell? (a.add j)=some u)(h1:∀u∈news,u.oneCell'=true)
 (h63:n+m≤maxLen)(hbytes:(n+m)*1≤140737488355328)(hbase:base≤w.heap.size):
 ∃v' w',(Builtin.append_ #[t,t] ty #[v,.slice (some a) m c]).run P w=.ok v' w'∧w'.ownsRow base e 1 v' (n+m) (xs++news)∧w.grownBy w' v.ownBlock∧
  (v'.ownBlock=v.ownBlock∨∃k,v'.ownBlock=some k∧w.heap.size≤k):=by
 obtain⟨v',w',hr,h2,h3,h4⟩:=run_append_own (P:=P) w base t ty e i z 1 1 ht hi hz hsize hby hzs (by decide) v n xs hown a m c news hl hnews h1 h63 hbytes hbase;refine⟨v',w',hr,h2,h3,?_⟩;have E4:n+m≤9223372036854775807:=by simp only[maxLen]at h63;omega
 rcases hown.2 with⟨rfl,rfl⟩|⟨g,cap,cur,rfl,hbg,hg,hnc,hcm,hcs,CH⟩
 ·have l4:=run_append_nil (P:=P) w t ty e i z ht hi hz a m c news (by rw[hsize];exact hl) hnews (by omega) (by omega) (by rw[hby];omega);rw[l4]at hr;injection hr with a b;rw[←a];exact Or.inr ⟨_,rfl,zaa _⟩
 ·by_cases hroom:n+m≤cap
  ·have l4:=run_append_room (P:=P) w t ty e i ht hi g n cap cur hg a m c news (by rw[hsize];exact hl) hnews h1 hroom (by rw[hsize];omega);rw[l4]at hr;injection hr with a b;rw[←a];exact Or.inl rfl
  ·have holds:∀j u,xs[j]?=some u→w.cell? ((⟨g,0,none⟩:Addr).add j)=some u:=hown.cells (g:=g) rfl;have l4:=run_append_grow (P:=P) w t ty e i z ht hi hz ⟨g,0,none⟩ n cap xs (by rw[hsize];exact hown.1) holds a m c news (by rw[hsize];exact hl) hnews (by omega) (by omega) (by rw[hby];exact growslice_fits (by omega) hbytes);rw[l4]at hr;injection hr with a b;rw[←a];exact Or.inr ⟨_,rfl,zaa _⟩
theorem rN {w:World}{ops:Array Oper}{rest:List Oper}{o:Oper}{a:Act}{Q:Exit→Act→World→Prop}(hgd:o.guard=none)(sl x:Operand)(t:TypeId)
 (ho:o.op=.call { callee:= .builtin .append,args:=#[sl,x],argTypes:=#[t,t] })
 (base:Nat)(e:TypeId)(i:TypeInfo)(z:Value)(ht:P.underlying t=some (.slice e))(hi:P.info? e=some i)(hz:i.zero=some z)
 (hsize:i.size=1)(hby:i.bytes=1)(hzs:z.cells.size=1)
 (v:Value)(n:Nat)(xs:List Value)(hs:a.eval sl=v)(hown:w.ownsRow base e 1 v n xs)
 (ad:Addr)(m c:Nat)(news:List Value)(hx:a.eval x=.slice (some ad) m c)(hm:m≠0)(hl:news.length=m*1)(hnews:∀j u,news[j]?=some u→w.cell? (ad.add j)=some u)(h1:∀u∈news,u.oneCell'=true)
 (h63:n+m≤maxLen)(hbytes:(n+m)*1≤140737488355328)(hbase:base≤w.heap.size)
 (h:∀v' w',w'.ownsRow base e 1 v' (n+m) (xs++news)→w.grownBy w' v.ownBlock→(v'.ownBlock=v.ownBlock∨∃k,v'.ownBlock=some k∧w.heap.size≤k)→wpList P ops Q rest (a.put o.dst v') w'):wpList P ops Q (o::rest) a w:=by
 refine wpList_plain hgd λK hK=>?_;obtain⟨v',w',hr,h2,h3,h4⟩:=xc (P:=P) w base t o.type e i z ht hi hz hsize hby hzs v n xs hown ad m c news hm hl hnews h1 h63 hbytes hbase;unfold Oper.wp execOp;simp only[ho,resolve,invoke,builtin,Sem.run_bind,Sem.run_pure,Result.andThen_ok,zbe,zao,zaG,hs,hx,hr];exact hK _ _ (h v' w' h2 h3 h4)
end
theorem fC.alloc {w:World}{T:TypeId}{off B b:Nat}{cs:Array Value}{v:Value}{bs:List Value}(h:fC w T off B b cs v bs)(o:Obj):fC (w.alloc o) T off B b cs v bs:=
 ⟨h.hB,(Lib.alloc_old w o b h.lt).trans h.blk,h.c0,h.c1,h.own.alloc o⟩
theorem iy.aJ {w w':World}{b:Nat}{v:Value}(h:Below w.heap.size w w'):iy w w' b v v:=⟨h.os,h.tape,h.output,h.size,λk hk _ _=>h.block k hk,Or.inl rfl⟩
theorem pN {w:World}{T:TypeId}{off B b:Nat}{cs:Array Value}{v:Value}{bs:List Value}(X:Jh T cs.size off)(hT:T≠5)(h:fC w T off B b cs v bs)(c:Int)(hlen:bs.length+1≤140737488355328)(Po:B≤w.heap.size):Calls prog 191 #[.pointer (some ⟨b,off,none⟩),.int .u8 c] w λe w'=>e=.returned .nilIface∧∃v',fC w' T off B b ((kL off b cs).setIfInBounds (off+1) v') v' (bs++[.int .u8 c])∧iy w w' b v v':=by
 obtain⟨i0,hi,hz0,hz1,hz2⟩:=info_parts infoByte;go_enter func191,ntmps191;go_wp2_with (go_at_call 189;refine(pM X hT h).mono ?_);rintro e w1 ⟨rfl,h1,hc0,qy⟩;have c0:w1.cell? ⟨b,off,none⟩=some (.pointer (some ⟨b,off,none⟩)):=(h1.cell off).trans hc0;have c1:w1.cell? ⟨b,off+1,none⟩=some v:=(h1.cell (off+1)).trans h1.c1;have hs1:=qy.size;go_wp2_with (at_builtin;refine rN rfl _ _ 80 rfl B 5 i0 (.int .u8 0) underlying80 hi hz0 hz1 hz2 rfl _ _ _ rfl (h1.alloc _).own ⟨w1.heap.size,0,none⟩ 1 1 [.int .u8 c] rfl (by decide) rfl ?c1 ?c2 ?c3 ?c4 ?c5 ?_)
 case c1=>
  intro j u hj
  match j,hj with
  |0,hj=>simp at hj;subst hj;simp[Addr.add]
 case c2=>intro u hu;simp at hu;subst hu;rfl
 case c3=>unfold maxLen;omega
 case c4=>omega
 case c5=>simp;omega
 intro v' w2 hown' hgrow lH;have YF:=h1.alloc (.cells #[.int .u8 c] 5);obtain⟨hA,hTo⟩:=YF.put hT hgrow (bs':=bs++[.int .u8 c]) (by simpa using hown') (by simpa using lH);have hn:=Lib.ownBlock_ne YF.own YF.blk hT;have hb2:w2.heap[b]?=some (.cells (kL off b cs) T (0,0)):=(hgrow.block b YF.lt (λe=>hn e.symm)).trans YF.blk;have d0:w2.cell? ⟨b,off,none⟩=some (.pointer (some ⟨b,off,none⟩)):=(Lib.cell_of_heap hb2 _).trans hc0;have d1:w2.cell? ⟨b,off+1,none⟩=some v:=(Lib.cell_of_heap hb2 _).trans h1.c1;have f1:w2.frozen? ⟨b,off+1,none⟩=false:=Lib.frozen_of_heap hb2 _;obtain⟨ao,n',cap,rfl⟩:∃ao n' cap,v'=.slice ao n' cap:=by
  rcases hown'.2 with⟨hv,_⟩|⟨g,cap,cur,hv,_⟩
  ·exact⟨_,_,_,hv⟩
  ·exact⟨_,_,_,hv⟩
 go_wp2
 go_ret;exact⟨rfl,_,hA,(qy.trans (iy.aJ ((Below.refl _ _).alloc (zaa _) _))).trans hTo⟩
theorem lI {w:World}{T:TypeId}{off B b:Nat}{cs:Array Value}{v:Value}{l:List UInt8}(h:fC w T off B b cs v (Lib.byteCells l))(h0:l≠[]):Calls prog 63 #[.pointer (some ⟨b,off,none⟩)] w λe w'=>e=.returned (.string ⟨l.toArray⟩)∧iy w w' b v v:=by
 have hl0:l.length≠0:=by simpa using h0
 have hown:=h.own;rw[Lib.byteCells_length]at hown;have hc1:=h.c1;have DU:=h.blk;clear h;obtain⟨g,cap,cur,rfl,hbg,hg,hnc,hcm,hcs,CH⟩:∃g cap cur,v=.slice (some ⟨g,0,none⟩) l.length cap∧B≤g∧w.heap[g]?=some (.cells cur 5 (0,0))∧l.length≤cap∧cap≤maxLen∧cur.size=cap*1∧cur.toList.take (l.length*1)=Lib.byteCells l:=by
  rcases hown.2 with⟨_,hz⟩|⟨g,cap,cur,hv,r⟩
  ·exact absurd hz hl0
  ·exact⟨g,cap,cur,hv,r⟩
 have c1:w.drew.cell? ⟨b,off+1,none⟩=some (.slice (some ⟨g,0,none⟩) l.length cap):=by
  have:w.drew.heap[b]?=some (.cells cs T (0,0)):=DU;rw[Lib.cell_of_heap this];exact hc1
 have hSD:(Builtin.unsafeSliceData_ #[80] 190 #[.slice (some ⟨g,0,none⟩) l.length cap]).run prog w.drew=.ok (.pointer (some ⟨g,0,none⟩)) w.drew:=
  Lib.run_unsafeSliceData_row _ _ _ _ _ _ (by omega)
 have hUS:(Builtin.unsafeString_ #[190,3] 9 #[.pointer (some ⟨g,0,none⟩),.int .i64 l.length]).run prog w.drew=.ok (.string ⟨l.toArray⟩) (w.drew.freeze ⟨g,0,none⟩ l.length):=by
  refine Lib.run_unsafeString_row w.drew 190 3 9 5 underlying190 (by kernel_rfl) g cur.size (by have p5:w.drew.heap[g]?=some (.cells cur 5 (0,0)):=hg;simp[World.shape?,p5]) l h0 (by omega) (by unfold maxLen at hcm;omega) ?_;intro j x hx;have:=hown.cells (g:=g) rfl j (.int .u8 x.toNat) (by simp[Lib.byteCells,hx]);exact this
 have hF:Hid (iy w (w.drew.freeze ⟨g,0,none⟩ l.length) b (.slice (some ⟨g,0,none⟩) l.length cap) (.slice (some ⟨g,0,none⟩) l.length cap)):=by
  unfold World.freeze;split
  ·exact⟨rfl,rfl,rfl,zaa _,λ_ _ _ _=>rfl,Or.inl rfl⟩
  ·refine⟨rfl,rfl,rfl,by simp,λk hk hkb Wp=>?_,Or.inl rfl⟩;simp only[Array.getElem?_modify];rw[if_neg (λe=>Wp (by simp[Value.ownBlock,←e]))];rfl
 clear hown DU hc1 hg CH;go_enter func63,ntmps63
 go_wp2
 go_region;all_goals (go_wp2;go_ret;exact⟨rfl,hF.out⟩)
end Go.Proofs.YtlhimdjkkiflhaaGreatDoor
