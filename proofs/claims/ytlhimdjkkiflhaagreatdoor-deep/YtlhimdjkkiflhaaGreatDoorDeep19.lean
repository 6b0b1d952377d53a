import Derived.Test.YtlhimdjkkiflhaaGreatDoorDeep18
namespace Go.Proofs.YtlhimdjkkiflhaaGreatDoor
open Go.RowKit Go.Loop
theorem ba_get (l:List UInt8)(k:Nat)(h:k<(ByteArray.mk (Array.mk l)).size):(ByteArray.mk (Array.mk l))[k]'h=l[k]'h:=rfl
section
attribute [local go_sem] ba_get0 ba_get ba_ext1 ba_ext2 ba_toList
theorem isSym_eq (l:List UInt8)(h1:l.isEmpty=false)(h2:(l==[46])=false)(h3:mustNum l=false):((runL wordB l:Nat)==l.length)=isSym l:=by
 unfold isSym;rw[h1,h2,h3];simp only[Bool.not_false,Bool.true_and]
 rw[show(l.all wordU)=l.all (fun c=>wordB (c.toNat:Int)) from rfl,←runL_all,Bool.eq_iff_iff];simp
set_option maxHeartbeats 400000 in
theorem isSymbol_any (l:List UInt8)(w:World)(hs:l.length≤maxLen):
 Calls Tryz.prog 96 #[.string ⟨⟨l⟩⟩] w fun e w'=>e= .returned (.bool (isSym l))∧w'=w:=by
 cases l with
 |nil=>
  go_enter Tryz.func96,Tryz.ntmps96
  go_wp2_with fail
  go_ret
  exact⟨rfl,rfl⟩
 |cons c r=>
 cases h2:((c::r)==[46])
 ·have H2:Hid (((c::r)==[46])=false):=h2
  have h2':¬ (c::r)=[46]:=by simpa using h2
  have hsz:(ByteArray.mk (Array.mk (c::r))).size≤maxLen:=hs
  cases h3:mustNum (c::r)
  ·have H3:=isSym_eq (c::r) rfl h2 h3
   have H:Hid ((((runL wordB (c::r):Nat):Int)==(r.length:Int)+1)=isSym (c::r)):=by
    show _=_;rw[←H3,Bool.eq_iff_iff];simp;omega
   clear H3
   go_enter Tryz.func96,Tryz.ntmps96
   go_wp2_with fail
   refine(mustBeNumber_any _ _ _ hs).mono ?_
   rw[h3];rintro e w' ⟨rfl,rfl⟩
   go_wp2_with fail
   refine(runEnd_word _ _ _ hsz (by omega) (by omega)).mono ?_
   rintro e w' ⟨rfl,rfl⟩
   simp only[Int.toNat_zero,List.drop_zero,Int.zero_add]
   go_wp2_with fail
   go_ret
   exact⟨ret_bool H.out,rfl⟩
  ·have H:Hid (isSym (c::r)=false):=by show _=_;simp[isSym,h3]
   go_enter Tryz.func96,Tryz.ntmps96
   go_wp2_with fail
   refine(mustBeNumber_any _ _ _ hs).mono ?_
   rw[h3];rintro e w' ⟨rfl,rfl⟩
   go_wp2_with fail
   go_ret
   exact⟨ret_bool H.out.symm,rfl⟩
 ·have h2':(c::r)=[46]:=by simpa using h2
  rw[h2']
  go_enter Tryz.func96,Tryz.ntmps96
  go_wp2_with fail
  go_ret
  exact⟨rfl,rfl⟩
set_option maxHeartbeats 400000 in
theorem nameOf_any (n:Int)(w:World):
 Calls Tryz.prog 151 #[.int .i64 n] w fun e w'=>e= .returned (.tuple #[.string ⟨⟨nameOf n⟩⟩,.bool (hasName n)])∧w'=w:=by
 go_enter Tryz.func151,Tryz.ntmps151
 go_wp2_with fail
 all_goals
  go_ret2
  refine⟨?_,rfl⟩
  simp_all [nameOf,hasName]
set_option maxHeartbeats 400000 in
theorem isOwnChar_any (n:Int)(w:World):
 Calls Tryz.prog 152 #[.int .i64 n] w fun e w'=>e= .returned (.bool (decide (33≤n∧n≤126)))∧w'=w:=by
 go_enter Tryz.func152,Tryz.ntmps152
 go_wp2_with fail
 all_goals
  go_ret
  exact⟨ret_bool (by simp;try omega),rfl⟩
set_option maxHeartbeats 400000 in
theorem isChar_any (n:Int)(w:World):
 Calls Tryz.prog 98 #[.int .i64 n] w fun e w'=>e= .returned (.bool (charB n))∧w'=w:=by
 cases h:hasName n
 ·go_enter Tryz.func98,Tryz.ntmps98
  go_wp2_with fail
  refine(nameOf_any _ _).mono ?_
  rw[h];rintro e w' ⟨rfl,rfl⟩
  go_wp2_with fail
  refine(isOwnChar_any _ _).mono ?_
  rintro e w' ⟨rfl,rfl⟩
  go_wp2_with fail
  go_ret
  exact⟨ret_bool (by simp[charB,h]),rfl⟩
 ·go_enter Tryz.func98,Tryz.ntmps98
  go_wp2_with fail
  refine(nameOf_any _ _).mono ?_
  rw[h];rintro e w' ⟨rfl,rfl⟩
  go_wp2_with fail
  go_ret
  exact⟨ret_bool (by simp[charB,h]),rfl⟩
set_option maxHeartbeats 400000 in
theorem bare_any (l:List UInt8)(n d:Int)(a:Option Addr)(len cap:Nat)(w:World):
 Calls Tryz.prog 95 #[.string ⟨⟨l⟩⟩,.int .i64 n,.int .i64 d,.slice a len cap] w fun e w'=>e= .returned (.bool (decide (l=[]∧n=0∧d=0∧len=0)))∧w'=w:=by
 go_enter Tryz.func95,Tryz.ntmps95
 go_wp2_with fail
 all_goals
  go_ret
  refine⟨ret_bool ?_,rfl⟩
  first|(simp_all;done)|(simp_all;rw[Bool.eq_iff_iff];simp)
theorem ret_strl {a b:List UInt8}(h:a=b):Ending.returned (.string ⟨⟨a⟩⟩)= .returned (.string ⟨⟨b⟩⟩):=by rw[h]
end
set_option maxHeartbeats 400000 in
theorem isBlank_any (c:Int)(w:World):
 Calls Tryz.prog 73 #[.int .u8 c] w fun e w'=>e= .returned (.bool (decide (c=32∨c=9∨c=10)))∧w'=w:=by
 go_enter Tryz.func73,Tryz.ntmps73
 go_wp2
 all_goals
  go_ret
  refine⟨ret_bool ?_,rfl⟩
  rw[Bool.eq_iff_iff];simp;try omega
theorem len_data (s:ByteArray):s.data.toList.length=s.size:=rfl
theorem sliceL (s:ByteArray)(k:Nat):(s.extract k s.size).data.toList=s.data.toList.drop k:=by
 rw[ByteArray.data_extract,Array.toList_extract]
 simp only[List.extract]
 rw[List.take_of_length_le]
 rw[List.length_drop,len_data]
 exact Nat.le_refl _
theorem idx_line:∀ l:List UInt8,(0≤Lib.indexByte l 10→Lib.indexByte l 10=(lineL l:Int))∧(Lib.indexByte l 10<0→lineL l=l.length)
 |[]=>by simp[Lib.indexByte,lineL]
 |c::r=>by
  have ih:=idx_line r
  have hg:=Lib.indexByte_ge r 10
  unfold Lib.indexByte lineL
  by_cases hc:c=10
  ·subst hc;simp
  ·have hc':(c==10)=false:=by simpa using hc
   rw[hc',if_neg hc]
   simp only[Bool.false_eq_true,if_false]
   by_cases hm:Lib.indexByte r 10=-1
   ·simp only[hm,BEq.rfl,if_true]
    refine⟨by omega,fun _=>?_⟩
    rw[ih.2 (by omega)];simp
   ·have hm':(Lib.indexByte r 10==-1)=false:=by simpa using hm
    rw[hm']
    simp only[Bool.false_eq_true,if_false]
    refine⟨fun _=>?_,fun h=>by omega⟩
    rw[ih.1 (by omega)];simp
set_option maxHeartbeats 400000 in
theorem lineEnd_any (s:ByteArray)(a:Nat)(w:World)(hs:s.size≤1000000)(ha:a≤s.size):
 Calls Tryz.prog 74 #[.string s,.int .i64 a] w fun e w'=>e= .returned (.int .i64 ((a:Int)+lineL (s.data.toList.drop a)))∧w'=w:=by
 have h:=idx_line (s.data.toList.drop a)
 have hg:=Lib.indexByte_ge (s.data.toList.drop a) 10
 have hle:=lineL_le (s.data.toList.drop a)
 have hlen:(s.data.toList.drop a).length=s.size-a:=by rw[List.length_drop,len_data]
 generalize hi:Lib.indexByte (s.data.toList.drop a) 10=i at *
 have HI:Hid (Lib.indexByte (s.data.toList.drop a) 10=i):=hi
 clear hi
 go_enter Tryz.func74,Tryz.ntmps74
 go_wp2_with fail
 refine(Tryz.strings_IndexByte _ _ _).mono ?_
 rintro e w' ⟨rfl,rfl⟩
 have hq:Lib.indexByte (s.extract a s.size).data.toList (Int.toNat 10).toUInt8=i:=by rw[sliceL];exact HI.out
 rw[hq]
 by_cases h0:0≤i
 ·have:=h.1 h0
  go_wp2_with fail
  go_ret
  exact⟨ret_int (by omega),rfl⟩
 ·have:=h.2 (by omega)
  go_wp2_with fail
  go_ret
  exact⟨ret_int (by omega),rfl⟩
set_option maxHeartbeats 400000 in
theorem runEnd_digit (s:ByteArray)(at0:Int)(w:World)(hs:s.size≤maxLen)(h0:0≤at0)(h1:at0≤s.size):
 Calls Tryz.prog 148 #[.string s,.int .i64 at0,.func (.func 186) #[] #[]] w fun e w'=>e= .returned (.int .i64 (at0+runL digB (s.data.toList.drop at0.toNat)))∧w'=w:=by
 unfold maxLen at hs
 obtain⟨a,rfl⟩:=Int.eq_ofNat_of_zero_le h0
 rw[Int.toNat_natCast]
 go_enter Tryz.func148,Tryz.ntmps148
 go_wp2_with fail
 go_loop [1] (fun i=>∃ k:Nat,a≤k∧k≤s.size∧i= .int .i64 k∧Hid ((a:Int)+runL digB (s.data.toList.drop a)=(k:Int)+runL digB (s.data.toList.drop k))) (fun i=>s.size-(intOf i).toNat)
 case atStart=>exact⟨a,Nat.le_refl _,by omega,rfl,rfl⟩
 case round=>
  obtain⟨k,hk0,hk,rfl,hr⟩:=hrel
  by_cases hlt:k<s.size
  ·have hd:Hid (s.data.toList.drop k=s[k]::s.data.toList.drop (k+1)):=by show _=_;rw[List.drop_eq_getElem_cons (by simpa using hlt)];rfl
   cases hp:digB (s[k].toNat :Int)
   ·have H:Hid (runL digB (s.data.toList.drop k)=0):=by show _=_;rw[hd.out];simp[runL,hp]
    go_wp2_with fail
    refine(isDigit_any _ _).mono ?_
    rw[hp];rintro e w' ⟨rfl,rfl⟩
    go_wp2_with fail
    go_ret
    refine⟨ret_int ?_,rfl⟩
    rw[hr.out,H.out];simp
   ·have H:Hid (runL digB (s.data.toList.drop k)=runL digB (s.data.toList.drop (k+1))+1):=by show _=_;rw[hd.out];simp[runL,hp]
    go_wp2_with fail
    refine(isDigit_any _ _).mono ?_
    rw[hp];rintro e w' ⟨rfl,rfl⟩
    go_wp2_with fail
    go_round
    case rel=>exact⟨k+1,by omega,by omega,by go_num,by show _=_;rw[hr.out,H.out];omega⟩
    case measure=>simp[intOf];omega
  ·have H:Hid (runL digB (s.data.toList.drop k)=0):=by show _=_;rw[List.drop_of_length_le (by simp;omega)];rfl
   go_wp2_with fail
   go_ret
   refine⟨ret_int ?_,rfl⟩
   rw[hr.out,H.out];simp
set_option maxHeartbeats 400000 in
theorem runEnd_letter (s:ByteArray)(at0:Int)(w:World)(hs:s.size≤maxLen)(h0:0≤at0)(h1:at0≤s.size):
 Calls Tryz.prog 148 #[.string s,.int .i64 at0,.func (.func 187) #[] #[]] w fun e w'=>e= .returned (.int .i64 (at0+runL letB (s.data.toList.drop at0.toNat)))∧w'=w:=by
 unfold maxLen at hs
 obtain⟨a,rfl⟩:=Int.eq_ofNat_of_zero_le h0
 rw[Int.toNat_natCast]
 go_enter Tryz.func148,Tryz.ntmps148
 go_wp2_with fail
 go_loop [1] (fun i=>∃ k:Nat,a≤k∧k≤s.size∧i= .int .i64 k∧Hid ((a:Int)+runL letB (s.data.toList.drop a)=(k:Int)+runL letB (s.data.toList.drop k))) (fun i=>s.size-(intOf i).toNat)
 case atStart=>exact⟨a,Nat.le_refl _,by omega,rfl,rfl⟩
 case round=>
  obtain⟨k,hk0,hk,rfl,hr⟩:=hrel
  by_cases hlt:k<s.size
  ·have hd:Hid (s.data.toList.drop k=s[k]::s.data.toList.drop (k+1)):=by show _=_;rw[List.drop_eq_getElem_cons (by simpa using hlt)];rfl
   cases hp:letB (s[k].toNat :Int)
   ·have H:Hid (runL letB (s.data.toList.drop k)=0):=by show _=_;rw[hd.out];simp[runL,hp]
    go_wp2_with fail
    refine(isLetter_any _ _).mono ?_
    rw[hp];rintro e w' ⟨rfl,rfl⟩
    go_wp2_with fail
    go_ret
    refine⟨ret_int ?_,rfl⟩
    rw[hr.out,H.out];simp
   ·have H:Hid (runL letB (s.data.toList.drop k)=runL letB (s.data.toList.drop (k+1))+1):=by show _=_;rw[hd.out];simp[runL,hp]
    go_wp2_with fail
    refine(isLetter_any _ _).mono ?_
    rw[hp];rintro e w' ⟨rfl,rfl⟩
    go_wp2_with fail
    go_round
    case rel=>exact⟨k+1,by omega,by omega,by go_num,by show _=_;rw[hr.out,H.out];omega⟩
    case measure=>simp[intOf];omega
  ·have H:Hid (runL letB (s.data.toList.drop k)=0):=by show _=_;rw[List.drop_of_length_le (by simp;omega)];rfl
   go_wp2_with fail
   go_ret
   refine⟨ret_int ?_,rfl⟩
   rw[hr.out,H.out];simp
theorem pre2 (x y c d:UInt8)(r:List UInt8):Lib.hasPrefix (c::d::r) [x,y]=decide (c=x∧d=y):=by
 simp only[Lib.hasPrefix,List.isPrefixOf]
 rw[Bool.eq_iff_iff]
 simp
 exact⟨fun h=>⟨h.1.symm,h.2.symm⟩,fun h=>⟨h.1.symm,h.2.symm⟩⟩
theorem pre2_one (x y c:UInt8):Lib.hasPrefix [c] [x,y]=false:=by simp[Lib.hasPrefix,List.isPrefixOf]
theorem pre2_nil (x y:UInt8):Lib.hasPrefix [] [x,y]=false:=by simp[Lib.hasPrefix,List.isPrefixOf]
theorem pre2_len {l:List UInt8}{x y:UInt8}(h:Lib.hasPrefix l [x,y]=true):2≤l.length:=by
 match l,h with
 |c::d::r,_=>simp
 |[c],h=>rw[pre2_one] at h;cases h
 |[],h=>rw[pre2_nil] at h;cases h
theorem hash_pre:∀ l:List UInt8,hashBar l=Lib.hasPrefix l [35,124]
 |[]=>by rw[pre2_nil];rfl
 |[c]=>by rw[pre2_one];rfl
 |c::d::r=>by rw[pre2];rfl
theorem comm_open {o:Nat}:∀ {l:List UInt8},Lib.hasPrefix l [35,124]=true→commL o l=((commL (o+1) (l.drop 2)).1+2,(commL (o+1) (l.drop 2)).2)
 |[],h=>by rw[pre2_nil] at h;cases h
 |[c],h=>by rw[pre2_one] at h;cases h
 |c::d::r,h=>by
  rw[pre2,decide_eq_true_eq] at h
  rw[commL,if_pos h]
  rfl
theorem comm_close {o:Nat}:∀ {l:List UInt8},Lib.hasPrefix l [35,124]=false→Lib.hasPrefix l [124,35]=true→commL o l=if o≤1 then(2,true) else((commL (o-1) (l.drop 2)).1+2,(commL (o-1) (l.drop 2)).2)
 |[],_,h=>by rw[pre2_nil] at h;cases h
 |[c],_,h=>by rw[pre2_one] at h;cases h
 |c::d::r,h1,h=>by
  rw[pre2,decide_eq_false_iff_not] at h1
  rw[pre2,decide_eq_true_eq] at h
  rw[commL,if_neg h1,if_pos h]
  rfl
theorem comm_else {o:Nat}:∀ {l:List UInt8},Lib.hasPrefix l [35,124]=false→Lib.hasPrefix l [124,35]=false→l≠[]→commL o l=((commL o (l.drop 1)).1+1,(commL o (l.drop 1)).2)
 |[],_,_,h=>absurd rfl h
 |[c],_,_,_=>by simp[commL]
 |c::d::r,h1,h,_=>by
  rw[pre2,decide_eq_false_iff_not] at h1 h
  rw[commL,if_neg h1,if_neg h]
  rfl
set_option maxHeartbeats 1000000 in
theorem commentEnd_any (s:ByteArray)(a:Nat)(w:World)(hs:s.size≤1000000)(hh:hashBar (s.data.toList.drop a)=true):
 Calls Tryz.prog 76 #[.string s,.int .i64 a] w fun e w'=>e= .returned (.tuple #[.int .i64 ((a:Int)+(commL 0 (s.data.toList.drop a)).1),.bool (commL 0 (s.data.toList.drop a)).2])∧w'=w:=by
 have hh':Hid (Lib.hasPrefix (s.data.toList.drop a) [35,124]=true):=by rw[←hash_pre];exact hh
 have ha:a+2≤s.size:=by have:=pre2_len hh'.out;rw[List.length_drop,len_data] at this;omega
 clear hh
 go_enter Tryz.func76,Tryz.ntmps76
 go_wp2_with fail
 go_loop [1,6] (fun i d=>∃ k o:Nat,a≤k∧k≤s.size∧o≤k∧((k=a∧o=0)∨1≤o)∧i= .int .i64 k∧d= .int .i64 o∧Hid ((a:Int)+(commL 0 (s.data.toList.drop a)).1=(k:Int)+(commL o (s.data.toList.drop k)).1∧(commL 0 (s.data.toList.drop a)).2=(commL o (s.data.toList.drop k)).2)) (fun i _=>s.size-(intOf i).toNat)
 case atStart=>exact⟨a,0,Nat.le_refl _,by omega,by omega,.inl ⟨rfl,rfl⟩,rfl,rfl,rfl,rfl⟩
 case round=>
  obtain⟨k,o,hk0,hk,hok,ho,rfl,rfl,hr⟩:=hrel
  by_cases hlt:k<s.size
  ·have hne:Hid (s.data.toList.drop k≠[]):=by
    intro h
    have:=congrArg List.length h
    rw[List.length_drop,len_data] at this
    simp at this
    omega
   cases hp1:Lib.hasPrefix (s.data.toList.drop k) [35,124]
   ·have hp1':Hid (Lib.hasPrefix (s.data.toList.drop k) [35,124]=false):=hp1
    have ho1:1≤o:=by
     rcases ho with⟨rfl,rfl⟩|h
     ·rw[hh'.out] at hp1;cases hp1
     ·exact h
    cases hp2:Lib.hasPrefix (s.data.toList.drop k) [124,35]
    ·have H:Hid _:=comm_else (o:=o) hp1 hp2 hne.out
     go_wp2_with fail
     refine(Tryz.strings_HasPrefix _ _ _).mono ?_
     rintro e w' ⟨rfl,rfl⟩
     rw[sliceL,hp1'.out]
     go_wp2_with fail
     refine(Tryz.strings_HasPrefix _ _ _).mono ?_
     rintro e w' ⟨rfl,rfl⟩
     rw[sliceL,show Lib.hasPrefix (s.data.toList.drop k) [124,35]=false from hp2]
     go_wp2_with fail
     go_round
     case rel=>exact⟨k+1,o,by omega,by omega,by omega,.inr ho1,by go_num,rfl,by
      have h1:=hr.out;rw[H.out,List.drop_drop] at h1
      exact⟨by rw[h1.1];simp;omega,h1.2⟩⟩
     case measure=>simp[intOf];omega
    ·have hl2:=pre2_len hp2
     rw[List.length_drop,len_data] at hl2
     have H:Hid _:=comm_close (o:=o) hp1 hp2
     go_wp2_with fail
     refine(Tryz.strings_HasPrefix _ _ _).mono ?_
     rintro e w' ⟨rfl,rfl⟩
     rw[sliceL,hp1'.out]
     go_wp2_with fail
     refine(Tryz.strings_HasPrefix _ _ _).mono ?_
     rintro e w' ⟨rfl,rfl⟩
     rw[sliceL,show Lib.hasPrefix (s.data.toList.drop k) [124,35]=true from hp2]
     by_cases ho2:o=1
     ·subst ho2
      go_wp2_with fail
      go_ret2
      have h1:=hr.out;rw[H.out] at h1
      refine⟨?_,rfl⟩
      rw[h1.1,h1.2]
      simp
     ·go_wp2_with fail
      go_round
      case rel=>exact⟨k+2,o-1,by omega,by omega,by omega,.inr (by omega),by go_num,by go_num,by
       have h1:=hr.out;rw[H.out,if_neg (by omega),List.drop_drop] at h1
       exact⟨by rw[h1.1];simp;omega,h1.2⟩⟩
      case measure=>simp[intOf];omega
   ·have hl2:=pre2_len hp1
    rw[List.length_drop,len_data] at hl2
    have H:Hid _:=comm_open (o:=o) hp1
    go_wp2_with fail
    refine(Tryz.strings_HasPrefix _ _ _).mono ?_
    rintro e w' ⟨rfl,rfl⟩
    rw[sliceL,show Lib.hasPrefix (s.data.toList.drop k) [35,124]=true from hp1]
    go_wp2_with fail
    go_round
    case rel=>exact⟨k+2,o+1,by omega,by omega,by omega,.inr (by omega),by go_num,by go_num,by
     have h1:=hr.out;rw[H.out,List.drop_drop] at h1
     exact⟨by rw[h1.1];simp;omega,h1.2⟩⟩
    case measure=>simp[intOf];omega
  ·have hkk:k=s.size:=by omega
   have hd:s.data.toList.drop k=[]:=by rw[hkk,←len_data];exact List.drop_length
   have h1:=hr.out
   rw[hd] at h1
   have H:Hid _:=h1
   clear h1 hd
   go_wp2_with fail
   go_ret2
   refine⟨?_,rfl⟩
   rw[H.out.1,H.out.2]
   simp[commL]
   try omega
theorem skip_nil {n:Nat}{b:Bool}:skipL n b []=(0,b):=by cases n<;>rfl
theorem commL_pos' {o:Nat}{l:List UInt8}(h:hashBar l=true):0<(commL o l).1:=by have:=commL_pos o l h;omega
theorem skip_fuel:∀ (n m:Nat) (b:Bool) (l:List UInt8),l.length≤n→l.length≤m→skipL n b l=skipL m b l
 |0,m,b,l,h,_=>by
  have:l=[]:=List.eq_nil_of_length_eq_zero (by omega)
  subst this;rw[skip_nil,skip_nil]
 |n+1,0,b,l,_,h=>by
  have:l=[]:=List.eq_nil_of_length_eq_zero (by omega)
  subst this;rw[skip_nil,skip_nil]
 |n+1,m+1,b,[],_,_=>rfl
 |n+1,m+1,b,c::r,h1,h2=>by
  simp only[List.length_cons] at h1 h2
  have e1:=skip_fuel n m b r (by omega) (by omega)
  have e2:=skip_fuel n m b (r.drop (lineL r)) (by rw[List.length_drop];omega) (by rw[List.length_drop];omega)
  rw[skipL,skipL,e1,e2]
  by_cases hh:hashBar (c::r)=true
  ·have hp:=commL_pos' (o:=0) hh
   have e3:=skip_fuel n m (commL 0 (c::r)).2 ((c::r).drop (commL 0 (c::r)).1) (by rw[List.length_drop,List.length_cons];omega) (by rw[List.length_drop,List.length_cons];omega)
   rw[e3]
  ·simp only[if_neg hh]
def skW (b:Bool)(l:List UInt8):Nat×Bool:=skipL l.length b l
theorem sk_nil {b:Bool}:skW b []=(0,b):=rfl
theorem sk_blank {b:Bool}{c:UInt8}{r:List UInt8}(h:blankB c=true):skW b (c::r)=((skW b r).1+1,(skW b r).2):=by
 unfold skW;rw[List.length_cons,skipL,if_pos h]
theorem sk_line {b:Bool}{c:UInt8}{r:List UInt8}(h:blankB c=false)(h2:c.toNat=59):skW b (c::r)=((skW b (r.drop (lineL r))).1+(lineL r+1),(skW b (r.drop (lineL r))).2):=by
 unfold skW
 rw[List.length_cons,skipL,if_neg (by rw[h];simp),if_pos h2]
 have e:=skip_fuel r.length (r.drop (lineL r)).length b (r.drop (lineL r)) (by rw[List.length_drop];omega) (Nat.le_refl _)
 rw[e]
theorem sk_comm {b:Bool}{c:UInt8}{r:List UInt8}(h:blankB c=false)(h2:c.toNat≠59)(h3:hashBar (c::r)=true):skW b (c::r)=((skW (commL 0 (c::r)).2 ((c::r).drop (commL 0 (c::r)).1)).1+(commL 0 (c::r)).1,(skW (commL 0 (c::r)).2 ((c::r).drop (commL 0 (c::r)).1)).2):=by
 unfold skW
 rw[List.length_cons,skipL,if_neg (by rw[h];simp),if_neg h2,if_pos h3]
 have hp:=commL_pos' (o:=0) h3
 have e:=skip_fuel r.length ((c::r).drop (commL 0 (c::r)).1).length (commL 0 (c::r)).2 ((c::r).drop (commL 0 (c::r)).1) (by rw[List.length_drop,List.length_cons];omega) (Nat.le_refl _)
 rw[e]
theorem sk_else {b:Bool}{c:UInt8}{r:List UInt8}(h:blankB c=false)(h2:c.toNat≠59)(h3:hashBar (c::r)=false):skW b (c::r)=(0,b):=by
 unfold skW
 rw[List.length_cons,skipL,if_neg (by rw[h];simp),if_neg h2,if_neg (by rw[h3];simp)]
theorem blank_int (c:UInt8):decide ((c.toNat:Int)=32∨(c.toNat:Int)=9∨(c.toNat:Int)=10)=blankB c:=by
 unfold blankB
 rw[Bool.eq_iff_iff];simp;omega
theorem drop_cons (s:ByteArray)(k:Nat)(h:k<s.size):s.data.toList.drop k=s[k]::s.data.toList.drop (k+1):=by rw[List.drop_eq_getElem_cons (by simpa using h)];rfl
set_option maxHeartbeats 1000000 in
theorem skip_any (s:ByteArray)(a:Nat)(w:World)(hs:s.size≤1000000)(ha:a≤s.size):
 Calls Tryz.prog 44 #[.string s,.int .i64 a] w fun e w'=>e= .returned (.tuple #[.int .i64 ((a:Int)+(skW true (s.data.toList.drop a)).1),.bool (skW true (s.data.toList.drop a)).2])∧w'=w:=by
 go_enter Tryz.func44,Tryz.ntmps44
 go_wp2_with fail
 go_loop [1,6] (fun i d=>∃ (k:Nat) (b:Bool),a≤k∧k≤s.size∧i= .int .i64 k∧d= .bool b∧Hid ((a:Int)+(skW true (s.data.toList.drop a)).1=(k:Int)+(skW b (s.data.toList.drop k)).1∧(skW true (s.data.toList.drop a)).2=(skW b (s.data.toList.drop k)).2)) (fun i _=>s.size-(intOf i).toNat)
 case atStart=>exact⟨a,true,Nat.le_refl _,by omega,rfl,rfl,rfl,rfl⟩
 case round=>
  obtain⟨k,b,hk0,hk,rfl,rfl,hr⟩:=hrel
  by_cases hlt:k<s.size
  ·have hd:Hid _:=drop_cons s k hlt
   have hbl:=blank_int s[k]
   cases hb:blankB s[k]
   ·rw[hb] at hbl
    by_cases h59:(s[k].toNat :Int)=59
    ·have H:Hid _:=sk_line (b:=b) (r:=s.data.toList.drop (k+1)) hb (by omega)
     have hle:=lineL_le (s.data.toList.drop (k+1))
     rw[List.length_drop,len_data] at hle
     have hline:Hid (lineL (s.data.toList.drop k)=lineL (s.data.toList.drop (k+1))+1):=by
      show _=_
      rw[hd.out,lineL,if_neg (by intro e;rw[e] at h59;exact absurd h59 (by decide))]
     generalize hm:lineL (s.data.toList.drop (k+1))=m at *
     go_wp2_with fail
     refine(isBlank_any _ _).mono ?_
     rw[show decide ((59:Int)=32∨(59:Int)=9∨(59:Int)=10)=false from by decide]
     rintro e w' ⟨rfl,rfl⟩
     go_wp2_with fail
     refine(lineEnd_any _ _ _ hs (by omega)).mono ?_
     rw[hline.out]
     rintro e w' ⟨rfl,rfl⟩
     go_wp2_with fail
     go_round
     case rel=>exact⟨k+(m+1),b,by omega,by omega,by go_num,rfl,by
      have h1:=hr.out;rw[hd.out,H.out,List.drop_drop] at h1
      rw[show k+1+m=k+(m+1) by omega] at h1
      exact⟨by rw[h1.1];simp;omega,h1.2⟩⟩
     case measure=>simp[intOf];omega
    ·cases hh:hashBar (s.data.toList.drop k)
     ·have H:Hid _:=sk_else (b:=b) (r:=s.data.toList.drop (k+1)) hb (by omega) (by rw[←hd.out];exact hh)
      have hp:Hid (Lib.hasPrefix (s.data.toList.drop k) [35,124]=false):=by rw[←hash_pre];exact hh
      go_wp2_with fail
      refine(isBlank_any _ _).mono ?_
      rw[hbl]
      rintro e w' ⟨rfl,rfl⟩
      go_wp2_with fail
      refine(Tryz.strings_HasPrefix _ _ _).mono ?_
      rintro e w' ⟨rfl,rfl⟩
      rw[sliceL,hp.out]
      go_wp2_with fail
      go_ret2
      have h1:=hr.out;rw[hd.out,H.out] at h1
      refine⟨?_,rfl⟩
      rw[h1.1,h1.2]
      simp
     ·have H:Hid _:=sk_comm (b:=b) (r:=s.data.toList.drop (k+1)) hb (by omega) (by rw[←hd.out];exact hh)
      have hp:Hid (Lib.hasPrefix (s.data.toList.drop k) [35,124]=true):=by rw[←hash_pre];exact hh
      have hh':Hid (hashBar (s.data.toList.drop k)=true):=hh
      have hpos:=commL_pos' (o:=0) hh
      have hle:=commL_le 0 (s.data.toList.drop k)
      rw[List.length_drop,len_data] at hle
      have HH:Hid _:=H.out
      rw[←hd.out] at HH
      clear H
      generalize hm:commL 0 (s.data.toList.drop k)=cm at *
      have hm':Hid _:=hm
      clear hm
      go_wp2_with fail
      refine(isBlank_any _ _).mono ?_
      rw[hbl]
      rintro e w' ⟨rfl,rfl⟩
      go_wp2_with fail
      refine(Tryz.strings_HasPrefix _ _ _).mono ?_
      rintro e w' ⟨rfl,rfl⟩
      rw[sliceL,hp.out]
      go_wp2_with fail
      refine(commentEnd_any _ _ _ hs hh'.out).mono ?_
      rw[hm'.out]
      rintro e w' ⟨rfl,rfl⟩
      go_wp2_with fail
      go_round
      case rel=>exact⟨k+cm.1,cm.2,by omega,by omega,by go_num,rfl,by
       have h1:=hr.out;rw[HH.out,List.drop_drop] at h1
       exact⟨by rw[h1.1];simp;omega,h1.2⟩⟩
      case measure=>simp[intOf];omega
   ·have H:Hid _:=sk_blank (b:=b) (r:=s.data.toList.drop (k+1)) hb
    rw[hb] at hbl
    go_wp2_with fail
    refine(isBlank_any _ _).mono ?_
    rw[hbl]
    rintro e w' ⟨rfl,rfl⟩
    go_wp2_with fail
    go_round
    case rel=>exact⟨k+1,b,by omega,by omega,by go_num,rfl,by
     have h1:=hr.out;rw[hd.out,H.out] at h1
     exact⟨by rw[h1.1];simp;omega,h1.2⟩⟩
    case measure=>simp[intOf];omega
  ·have hkk:k=s.size:=by omega
   have hd:s.data.toList.drop k=[]:=by rw[hkk,←len_data];exact List.drop_length
   have h1:=hr.out
   rw[hd,sk_nil] at h1
   have H:Hid _:=h1
   clear h1 hd
   go_wp2_with fail
   go_ret2
   refine⟨?_,rfl⟩
   rw[H.out.1,H.out.2]
   simp
   try omega
def tkV (t:Tok):Value:= .agg #[.int .i64 t.kind,.int .i64 t.from_,.int .i64 t.to_,.string ⟨⟨t.text⟩⟩,.int .i64 t.n,.int .i64 t.d,.int .i64 t.fault]
set_option maxHeartbeats 400000 in
theorem wrong_any (a:Nat)(w:World):
 Calls Tryz.prog 172 #[.int .i64 a] w fun e w'=>e= .returned (tkV (wrongP a))∧Below w.heap.size w w':=by
 go_enter Tryz.func172,Tryz.ntmps172
 go_wp2_with fail
 exact bodyPost_ret (v:=tkV (wrongP a)) (by simp[results,Tryz.results172,tkV,wrongP,tok0,go_sem]) rfl ⟨rfl,(Below.refl _ _).alloc (Nat.le_refl _) _⟩
set_option maxHeartbeats 400000 in
theorem endOf_any (s:ByteArray)(w:World):
 Calls Tryz.prog 168 #[.string s] w fun e w'=>e= .returned (tkV (endP s.data.toList))∧Below w.heap.size w w':=by
 go_enter Tryz.func168,Tryz.ntmps168
 go_wp2_with fail
 exact bodyPost_ret (v:=tkV (endP s.data.toList)) (by simp[results,Tryz.results168,tkV,endP,tok0,go_sem];try rfl) rfl ⟨rfl,(Below.refl _ _).alloc (Nat.le_refl _) _⟩
set_option maxHeartbeats 400000 in
theorem last_any (t:Tok)(w:World):
 Calls Tryz.prog 121 #[tkV t] w fun e _=>e= .returned (.bool t.lastB):=by
 unfold tkV
 go_enter Tryz.func121,Tryz.ntmps121
 go_wp2
 all_goals
  go_ret
  refine ret_bool ?_
  unfold Tok.lastB
  rw[Bool.eq_iff_iff];simp;try omega
set_option maxHeartbeats 400000 in
theorem escaped_any (c:UInt8)(w:World):
 Calls Tryz.prog 197 #[.int .u8 (c.toNat:Int)] w fun e w'=>e= .returned (.tuple #[.int .u8 (((escB c).getD 0).toNat :Int),.bool (escB c).isSome])∧w'=w:=by
 have key:∀ c:UInt8,((c.toNat:Int)=92↔c=92)∧((c.toNat:Int)=34↔c=34)∧((c.toNat:Int)=110↔c=110)∧((c.toNat:Int)=116↔c=116):=by
  intro c
  have h:∀ n:Nat,n<256→(c.toNat=n↔c=n.toUInt8):=fun n hn=>by
   rw[←UInt8.toNat_inj]
   simp[Nat.mod_eq_of_lt hn]
  have h1:=h 92 (by omega);have h2:=h 34 (by omega);have h3:=h 110 (by omega);have h4:=h 116 (by omega)
  exact⟨by rw[show(92:UInt8)=Nat.toUInt8 92 from rfl,←h1];omega,by rw[show(34:UInt8)=Nat.toUInt8 34 from rfl,←h2];omega,by rw[show(110:UInt8)=Nat.toUInt8 110 from rfl,←h3];omega,by rw[show(116:UInt8)=Nat.toUInt8 116 from rfl,←h4];omega⟩
 obtain⟨k1,k2,k3,k4⟩:=key c
 clear key
 by_cases h1:c=92
 ·subst h1
  go_enter Tryz.func197,Tryz.ntmps197
  go_wp2_with fail
  go_ret2
  exact⟨rfl,rfl⟩
 by_cases h2:c=34
 ·subst h2
  go_enter Tryz.func197,Tryz.ntmps197
  go_wp2_with fail
  go_ret2
  exact⟨rfl,rfl⟩
 by_cases h3:c=110
 ·subst h3
  go_enter Tryz.func197,Tryz.ntmps197
  go_wp2_with fail
  go_ret2
  exact⟨rfl,rfl⟩
 by_cases h4:c=116
 ·subst h4
  go_enter Tryz.func197,Tryz.ntmps197
  go_wp2_with fail
  go_ret2
  exact⟨rfl,rfl⟩
 have e:escB c=none:=by unfold escB;rw[if_neg (by simp[h1,h2]),if_neg h3,if_neg h4]
 rw[e]
 have q1:((c.toNat:Int)==92)=false:=by rw[beq_eq_false_iff_ne];exact fun h=>h1 (k1.1 h)
 have q2:((c.toNat:Int)==34)=false:=by rw[beq_eq_false_iff_ne];exact fun h=>h2 (k2.1 h)
 have q3:((c.toNat:Int)==110)=false:=by rw[beq_eq_false_iff_ne];exact fun h=>h3 (k3.1 h)
 have q4:((c.toNat:Int)==116)=false:=by rw[beq_eq_false_iff_ne];exact fun h=>h4 (k4.1 h)
 clear k1 k2 k3 k4 h1 h2 h3 h4 e
 go_enter Tryz.func197,Tryz.ntmps197
 go_wp2_with fail
 go_ret2
 exact⟨rfl,rfl⟩
theorem to_data (x:ByteArray):x.toList=x.data.toList:=by cases x with|mk d=>cases d with|mk l=>exact ba_toList l
theorem code_name (l:List UInt8)(k:Nat):hasName (k:Int)=true→nameOf (k:Int)=l→codeOf l=k:=by
 intro h1 h2
 unfold hasName at h1
 simp at h1
 unfold nameOf at h2
 rcases h1 with h|h|h|h|h|h<;>(rw[h] at h2 ⊢;simp at h2;subst h2;decide)
theorem name_code (l:List UInt8)(h:0≤codeOf l):hasName (codeOf l)=true∧nameOf (codeOf l)=l∧codeOf l<128:=by
 unfold codeOf at h ⊢
 repeat' split
 all_goals first
  |(simp_all;done)
  |(subst_vars;decide)
set_option maxRecDepth 4000 in
set_option maxHeartbeats 1000000 in
theorem codeOf_any (s:ByteArray)(w:World):
 Calls Tryz.prog 223 #[.string s] w fun e w'=>e= .returned (.tuple #[.int .i64 ((codeP s.data.toList).getD 0),.bool (codeP s.data.toList).isSome])∧w'=w:=by
 have hc:Hid (∀ k:Nat,hasName (k:Int)=true→nameOf (k:Int)=s.data.toList→codeP s.data.toList=some (k:Int)):=fun k h1 h2=>by
  have:=code_name _ k h1 h2
  unfold codeP;rw[this,if_pos (by omega)]
 have hn:Hid (0≤codeOf s.data.toList→hasName (codeOf s.data.toList)=true∧nameOf (codeOf s.data.toList)=s.data.toList∧codeOf s.data.toList<128):=name_code _
 go_enter Tryz.func223,Tryz.ntmps223
 go_wp2_with fail
 go_loop [7] (fun i=>∃ k:Nat,k≤128∧i= .int .i64 k∧Hid (∀ j:Nat,j<k→¬ (hasName (j:Int)=true∧nameOf (j:Int)=s.data.toList))) (fun i=>128-(intOf i).toNat)
 case atStart=>exact⟨0,by omega,rfl,fun j hj=>by omega⟩
 case round=>
  obtain⟨k,hk,rfl,hr⟩:=hrel
  by_cases hlt:k<128
  ·cases hb:hasName (k:Int)
   ·go_wp2_with fail
    refine(nameOf_any _ _).mono ?_
    rw[hb];rintro e w' ⟨rfl,rfl⟩
    go_wp2_with fail
    go_round
    case rel=>exact⟨k+1,by omega,by go_num,fun j hj h=>by
     by_cases e:j=k
     ·subst e;rw[hb] at h;cases h.1
     ·exact hr.out j (by omega) h⟩
    case measure=>simp[intOf];omega
   ·by_cases he:nameOf (k:Int)=s.data.toList
    ·have hq:=hc.out k hb he
     have he':(nameOf (k:Int)==s.toList)=true:=by rw[to_data,he,beq_iff_eq]
     go_wp2_with fail
     refine(nameOf_any _ _).mono ?_
     rw[hb];rintro e w' ⟨rfl,rfl⟩
     go_wp2_with fail
     go_ret2
     refine⟨?_,rfl⟩
     rw[hq];rfl
    ·have he':(nameOf (k:Int)==s.toList)=false:=by
      rw[to_data,beq_eq_false_iff_ne]
      exact he
     go_wp2_with fail
     refine(nameOf_any _ _).mono ?_
     rw[hb];rintro e w' ⟨rfl,rfl⟩
     go_wp2_with fail
     go_round
     case rel=>exact⟨k+1,by omega,by go_num,fun j hj h=>by
      by_cases e:j=k
      ·subst e;exact he h.2
      ·exact hr.out j (by omega) h⟩
     case measure=>simp[intOf];omega
  ·have hq:codeP s.data.toList=none:=by
    unfold codeP
    rw[if_neg]
    intro h
    obtain⟨h1,h2,h3⟩:=hn.out h
    obtain⟨m,hm⟩:=Int.eq_ofNat_of_zero_le h
    rw[hm] at h1 h2 h3
    exact hr.out m (by omega) ⟨h1,h2⟩
   have hq':Hid _:=hq
   clear hq
   go_wp2_with fail
   go_ret2
   refine⟨?_,rfl⟩
   rw[hq'.out];rfl
set_option maxHeartbeats 400000 in
theorem numberFault_any (n d:Int)(w:World):
 Calls Tryz.prog 227 #[.int .i64 n,.int .i64 d] w fun e w'=>e= .returned (.int .i64 (if 1000000<n∨1000000<d then 7 else if d=0 then 3 else 0))∧w'=w:=by
 go_enter Tryz.func227,Tryz.ntmps227
 go_wp2
 all_goals
  go_ret
  refine⟨ret_int ?_,rfl⟩
  simp_all
  try omega
theorem amount_snoc (l:List UInt8)(c:UInt8)(n:Int):amountFrom n (l++[c])=min (amountFrom n l*10+((c.toNat:Int)-48)) 1000001:=by
 simp[amountFrom]
theorem amount_bd:∀ (l:List UInt8) (n:Int),0≤n→n≤1000001→l.all (fun c=>digB (c.toNat:Int))=true→0≤amountFrom n l∧amountFrom n l≤1000001
 |[],n,h1,h2,_=>⟨h1,h2⟩
 |c::r,n,h1,h2,h3=>by
  simp only[List.all_cons,Bool.and_eq_true] at h3
  have hd:48≤(c.toNat:Int):=by have:=h3.1;unfold digB at this;simp at this;omega
  show 0≤amountFrom (min (n*10+((c.toNat:Int)-48)) 1000001) r∧amountFrom (min (n*10+((c.toNat:Int)-48)) 1000001) r≤1000001
  exact amount_bd r _ (by omega) (by omega) h3.2
set_option maxHeartbeats 1000000 in
theorem amount_any (s:ByteArray)(w:World)(hs:s.size≤1000000)(hd:s.data.toList.all (fun c=>digB (c.toNat:Int))=true):
 Calls Tryz.prog 224 #[.string s] w fun e w'=>e= .returned (.int .i64 (amountP s.data.toList))∧w'=w:=by
 have hdg:Hid (∀ k (h:k<s.size),48≤(s[k].toNat :Int)∧(s[k].toNat :Int)≤57):=fun k h=>by
  rw[List.all_eq_true] at hd
  have:=hd s[k] (by exact List.getElem_mem (l:=s.data.toList) (n:=k) h)
  unfold digB at this
  simpa using this
 have hbd:Hid (∀ k,0≤amountP (s.data.toList.take k)∧amountP (s.data.toList.take k)≤1000001):=fun k=>amount_bd _ 0 (by omega) (by omega) (by
  rw[List.all_eq_true] at hd ⊢
  exact fun x hx=>hd x (List.mem_of_mem_take hx))
 clear hd
 go_enter Tryz.func224,Tryz.ntmps224
 go_wp2_with fail
 go_loop [7,3] (fun i n=>∃ k:Nat,k≤s.size∧i= .int .i64 k∧n= .int .i64 (amountP (s.data.toList.take k))) (fun i _=>s.size-(intOf i).toNat)
 case atStart=>exact⟨0,by omega,rfl,rfl⟩
 case round=>
  obtain⟨k,hk,rfl,rfl⟩:=hrel
  by_cases hlt:k<s.size
  ·obtain⟨d1,d2⟩:=hdg.out k hlt
   obtain⟨b1,b2⟩:=hbd.out k
   have hst:Hid (amountP (s.data.toList.take (k+1))=min (amountP (s.data.toList.take k)*10+((s[k].toNat :Int)-48)) 1000001):=by
    show _=_
    rw[take_snoc s k hlt];exact amount_snoc _ _ 0
   generalize amountP (s.data.toList.take k)=m at *
   generalize hx:(s[k].toNat :Int)=x at *
   go_wp2_with fail
   go_round
   case rel=>exact⟨k+1,by omega,by go_num,by rw[hst.out];try (congr 1;omega)⟩
   case measure=>simp[intOf];omega
  ·have hf:Hid (s.data.toList.take k=s.data.toList):=take_all s k (by omega)
   go_wp2_with fail
   go_ret
   refine⟨ret_int ?_,rfl⟩
   rw[hf.out]
theorem slash_idx:∀ l:List UInt8,(Lib.indexByte l 47=-1∧slashL l=none)∨∃ k:Nat,Lib.indexByte l 47=(k:Int)∧k<l.length∧slashL l=some (l.take k,l.drop (k+1))
 |[]=> .inl ⟨rfl,rfl⟩
 |c::r=>by
  unfold Lib.indexByte slashL
  by_cases hc:c=47
  ·subst hc
   exact .inr ⟨0,by simp,by simp,by simp⟩
  ·have hc':(c==47)=false:=by simpa using hc
   have hn:¬ c.toNat=47:=fun h=>hc (by rw[←UInt8.toNat_inj];exact h)
   rw[hc',if_neg hn]
   simp only[Bool.false_eq_true,if_false]
   rcases slash_idx r with⟨h1,h2⟩|⟨k,h1,h2,h3⟩
   ·left;rw[h1,h2];simp
   ·right
    refine⟨k+1,?_,by simp;omega,?_⟩
    ·rw[h1]
     have:((k:Int)==-1)=false:=by rw[beq_eq_false_iff_ne];omega
     rw[this];simp
    ·rw[h3];simp
set_option maxHeartbeats 1000000 in
theorem liteCut_miss (s:ByteArray)(w:World)(h:Lib.indexByte s.data.toList 47=-1):
 Calls Tryz.prog 243 #[.string s,.string ⟨#[47]⟩] w fun e w'=>e= .returned (.tuple #[.string s,.string ⟨#[]⟩,.bool false])∧∃ n,w'=w.drewN n:=by
 go_enter Tryz.func243,Tryz.ntmps243
 go_wp2_with (go_at_call 247;refine(Tryz.stringslite_Index_one _ _ _).mono ?_;rintro e w' ⟨rfl,rfl⟩;rw[h])
 go_ret3
 exact⟨rfl,0,rfl⟩
set_option maxHeartbeats 1000000 in
theorem liteCut_hit (s:ByteArray)(k:Nat)(w:World)(h:Lib.indexByte s.data.toList 47=(k:Int))(hk:k<s.size)(hs:s.size≤1000000):
 Calls Tryz.prog 243 #[.string s,.string ⟨#[47]⟩] w fun e w'=>e= .returned (.tuple #[.string (s.extract 0 k),.string (s.extract (k+1) s.size),.bool true])∧∃ n,w'=w.drewN n:=by
 have c1:(0:Int)≤↑k:=by omega
 have c2:(↑k:Int)≤↑s.size:=by omega
 have c3:(0:Int)≤↑k+1:=by omega
 have c4:(↑k+1:Int)≤↑s.size:=by omega
 have mixed:Tryz.prog.follows Departure.mixedOrders=true:=by kernel_rfl
 go_enter Tryz.func243,Tryz.ntmps243
 go_wp2_with (go_at_call 247;refine(Tryz.stringslite_Index_one _ _ _).mono ?_;rintro e w' ⟨rfl,rfl⟩;rw[h])
 go_region_o
 go_wp2
 go_ret3
 exact⟨rfl,1,rfl⟩
set_option maxHeartbeats 1000000 in
theorem cut_miss (s:ByteArray)(w:World)(h:Lib.indexByte s.data.toList 47=-1):
 Calls Tryz.prog 225 #[.string s,.string ⟨#[47]⟩] w fun e w'=>e= .returned (.tuple #[.string s,.string ⟨#[]⟩,.bool false])∧∃ n,w'=w.drewN n:=by
 go_enter Tryz.func225,Tryz.ntmps225
 go_wp2_with (go_at_call 243;refine(liteCut_miss _ _ h).mono ?_;rintro e w' ⟨rfl,n,rfl⟩)
 go_ret3
 exact⟨rfl,n,rfl⟩
set_option maxHeartbeats 1000000 in
theorem cut_hit (s:ByteArray)(k:Nat)(w:World)(h:Lib.indexByte s.data.toList 47=(k:Int))(hk:k<s.size)(hs:s.size≤1000000):
 Calls Tryz.prog 225 #[.string s,.string ⟨#[47]⟩] w fun e w'=>e= .returned (.tuple #[.string (s.extract 0 k),.string (s.extract (k+1) s.size),.bool true])∧∃ n,w'=w.drewN n:=by
 go_enter Tryz.func225,Tryz.ntmps225
 go_wp2_with (go_at_call 243;refine(liteCut_hit _ _ _ h hk hs).mono ?_;rintro e w' ⟨rfl,n,rfl⟩)
 go_ret3
 exact⟨rfl,n,rfl⟩
set_option maxHeartbeats 400000 in
theorem allDigits_any (s:ByteArray)(w:World)(hs:s.size≤1000000):
 Calls Tryz.prog 226 #[.string s] w fun e w'=>e= .returned (.bool (digsB s.data.toList))∧w'=w:=by
 have hr:Hid (decide (runL digB s.data.toList=s.data.toList.length)=s.data.toList.all (fun c=>digB (c.toNat:Int))):=runL_all digB _
 have hle:=runL_le digB s.data.toList
 rw[len_data] at hle
 by_cases h0:s.data.toList=[]
 ·have h0':s.toList=[]:=by rw[to_data,h0]
  have h1':(s.toList==[])=true:=by rw[h0'];rfl
  have hf:Hid (digsB s.data.toList=false):=by show _=_;rw[h0];rfl
  clear h0
  go_enter Tryz.func226,Tryz.ntmps226
  go_wp2_with fail
  all_goals
   go_ret
   exact⟨ret_bool hf.out.symm,rfl⟩
 ·have h0':¬ s.toList=[]:=by rw[to_data];exact h0
  have h1':(s.toList==[])=false:=by rw[beq_eq_false_iff_ne];exact h0'
  have hf:Hid (digsB s.data.toList=decide ((runL digB s.data.toList:Int)=s.size)):=by
   show _=_
   unfold digsB
   rw[←hr.out,len_data]
   have:s.data.toList.isEmpty=false:=by simpa using h0
   rw[this,Bool.eq_iff_iff];simp;omega
  clear h0 hr
  go_enter Tryz.func226,Tryz.ntmps226
  go_wp2_with (go_at_call 148;refine(runEnd_digit _ _ _ (by unfold maxLen;omega) (by omega) (by omega)).mono ?_;rintro e w' ⟨rfl,rfl⟩;simp only[Int.toNat_zero,List.drop_zero,Int.zero_add])
  all_goals
   go_ret
   refine⟨ret_bool ?_,rfl⟩
   rw[hf.out]
   try (rw[Bool.eq_iff_iff];simp)
end Go.Proofs.YtlhimdjkkiflhaaGreatDoor
