import Derived.Test.YtlhimdjkkiflhaaGreatDoorCut16
set_option maxHeartbeats 8000000
set_option maxRecDepth 100000
namespace Go.Proofs.YtlhimdjkkiflhaaGreatDoor
open Go.Proofs.Tryz
open Go.RowKit Go.Loop
theorem lh (c:Int)(w:World):Calls prog 73 #[.int .u8 c] w λe w'=>e=.returned (.bool (decide (c=32∨c=9∨c=10)))∧w'=w:=by
 go_enter func73,ntmps73
 go_wp2
 all_goals
  go_ret;refine⟨aK ?_,rfl⟩;rw[zaz];simp;try omega
theorem bR (s:ByteArray):s.data.toList.length=s.size:=rfl
theorem oh (s:ByteArray)(k:Nat):(s.extract k s.size).data.toList=s.data.toList.drop k:=by
 rw[ByteArray.data_extract,Array.toList_extract];simp only[List.extract];rw[zaI];rw[zah,bR];exact zaa _
theorem Cy:∀l:List UInt8,(0≤Lib.indexByte l 10→Lib.indexByte l 10=(fQ l:Int))∧(Lib.indexByte l 10<0→fQ l=l.length)
 |[]=>by simp[Lib.indexByte,fQ]
 |c::r=>by
  have ih:=Cy r;have hg:=Lib.indexByte_ge r 10;unfold Lib.indexByte fQ;by_cases hc:c=10
  ·subst hc;simp
  ·have hc':(c==10)=false:=by simpa using hc
   rw[hc',if_neg hc];simp only[zav,if_false];by_cases hm:Lib.indexByte r 10=-1
   ·simp only[hm,BEq.rfl,if_true];refine⟨by omega,λ_=>?_⟩;rw[ih.2 (by omega)];simp
   ·have Kl:(Lib.indexByte r 10==-1)=false:=by simpa using hm
    rw[Kl];simp only[zav,if_false];refine⟨λ_=>?_,λh=>by omega⟩;rw[ih.1 (by omega)];simp
theorem Cz (s:ByteArray)(a:Nat)(w:World)(hs:s.size≤1000000)(ha:a≤s.size):Calls prog 74 #[.string s,.int .i64 a] w λe w'=>e=.returned (.int .i64 ((a:Int)+fQ (s.data.toList.drop a)))∧w'=w:=by
 have h:=Cy (s.data.toList.drop a);have hg:=Lib.indexByte_ge (s.data.toList.drop a) 10;have hle:=rD (s.data.toList.drop a);have hlen:(s.data.toList.drop a).length=s.size-a:=by rw[zah,bR]
 generalize hi:Lib.indexByte (s.data.toList.drop a) 10=i at *;have HI:Hid (Lib.indexByte (s.data.toList.drop a) 10=i):=hi;clear hi;go_enter func74,ntmps74;go_wp2_with fail;refine(Tryz.strings_IndexByte _ _ _).mono ?_;rintro e w' ⟨rfl,rfl⟩;have hq:Lib.indexByte (s.extract a s.size).data.toList (Int.toNat 10).toUInt8=i:=by rw[oh];exact HI.out
 rw[hq];by_cases h0:0≤i
 ·have:=h.1 h0;go_wp2_with fail;go_ret;exact⟨gI (by omega),rfl⟩
 ·have:=h.2 (by omega);go_wp2_with fail;go_ret;exact⟨gI (by omega),rfl⟩
theorem fI (s:ByteArray)(Cu:Int)(w:World)(hs:s.size≤maxLen)(h0:0≤Cu)(h1:Cu≤s.size):Calls prog 148 #[.string s,.int .i64 Cu,.func (.func 186) #[] #[]] w λe w'=>e=.returned (.int .i64 (Cu+br cT (s.data.toList.drop Cu.toNat)))∧w'=w:=by
 unfold maxLen at hs;obtain⟨a,rfl⟩:=zbl h0;rw[zaB];go_enter func148,ntmps148;go_wp2_with fail;go_loop [1] (λi=>∃k:Nat,a≤k∧k≤s.size∧i=.int .i64 k∧Hid ((a:Int)+br cT (s.data.toList.drop a)=(k:Int)+br cT (s.data.toList.drop k))) (λi=>s.size-(intOf i).toNat)
 case atStart=>exact⟨a,zaa _,by omega,rfl,rfl⟩
 case round=>
  obtain⟨k,I1,hk,rfl,hr⟩:=hrel;by_cases hlt:k<s.size
  ·have hd:Hid (s.data.toList.drop k=s[k]::s.data.toList.drop (k+1)):=by show _=_;rw[zbB (by simpa using hlt)];rfl
   cases hp:cT (s[k].toNat :Int)
   ·have H:Hid (br cT (s.data.toList.drop k)=0):=by show _=_;rw[hd.out];simp[br,hp]
    go_wp2_with fail;refine(dZ _ _).mono ?_;rw[hp];rintro e w' ⟨rfl,rfl⟩;go_wp2_with fail;go_ret;refine⟨gI ?_,rfl⟩;rw[hr.out,H.out];simp
   ·have H:Hid (br cT (s.data.toList.drop k)=br cT (s.data.toList.drop (k+1))+1):=by show _=_;rw[hd.out];simp[br,hp]
    go_wp2_with fail;refine(dZ _ _).mono ?_;rw[hp];rintro e w' ⟨rfl,rfl⟩;go_wp2_with fail
    go_round
    case rel=>exact⟨k+1,by omega,by omega,by go_num,by show _=_;rw[hr.out,H.out];omega⟩
    case measure=>simp[intOf];omega
  ·have H:Hid (br cT (s.data.toList.drop k)=0):=by show _=_;rw[zbf (by simp;omega)];rfl
   go_wp2_with fail;go_ret;refine⟨gI ?_,rfl⟩;rw[hr.out,H.out];simp
theorem gP (s:ByteArray)(Cu:Int)(w:World)(hs:s.size≤maxLen)(h0:0≤Cu)(h1:Cu≤s.size):Calls prog 148 #[.string s,.int .i64 Cu,.func (.func 187) #[] #[]] w λe w'=>e=.returned (.int .i64 (Cu+br gw (s.data.toList.drop Cu.toNat)))∧w'=w:=by
 unfold maxLen at hs;obtain⟨a,rfl⟩:=zbl h0;rw[zaB];go_enter func148,ntmps148;go_wp2_with fail;go_loop [1] (λi=>∃k:Nat,a≤k∧k≤s.size∧i=.int .i64 k∧Hid ((a:Int)+br gw (s.data.toList.drop a)=(k:Int)+br gw (s.data.toList.drop k))) (λi=>s.size-(intOf i).toNat)
 case atStart=>exact⟨a,zaa _,by omega,rfl,rfl⟩
 case round=>
  obtain⟨k,I1,hk,rfl,hr⟩:=hrel;by_cases hlt:k<s.size
  ·have hd:Hid (s.data.toList.drop k=s[k]::s.data.toList.drop (k+1)):=by show _=_;rw[zbB (by simpa using hlt)];rfl
   cases hp:gw (s[k].toNat :Int)
   ·have H:Hid (br gw (s.data.toList.drop k)=0):=by show _=_;rw[hd.out];simp[br,hp]
    go_wp2_with fail;refine(iO _ _).mono ?_;rw[hp];rintro e w' ⟨rfl,rfl⟩;go_wp2_with fail;go_ret;refine⟨gI ?_,rfl⟩;rw[hr.out,H.out];simp
   ·have H:Hid (br gw (s.data.toList.drop k)=br gw (s.data.toList.drop (k+1))+1):=by show _=_;rw[hd.out];simp[br,hp]
    go_wp2_with fail;refine(iO _ _).mono ?_;rw[hp];rintro e w' ⟨rfl,rfl⟩;go_wp2_with fail
    go_round
    case rel=>exact⟨k+1,by omega,by omega,by go_num,by show _=_;rw[hr.out,H.out];omega⟩
    case measure=>simp[intOf];omega
  ·have H:Hid (br gw (s.data.toList.drop k)=0):=by show _=_;rw[zbf (by simp;omega)];rfl
   go_wp2_with fail;go_ret;refine⟨gI ?_,rfl⟩;rw[hr.out,H.out];simp
theorem Mk (x y c d:UInt8)(r:List UInt8):Lib.hasPrefix (c::d::r) [x,y]=decide (c=x∧d=y):=by
 simp only[Lib.hasPrefix,List.isPrefixOf];rw[zaz];simp;exact⟨λh=>⟨h.1.symm,h.2.symm⟩,λh=>⟨h.1.symm,h.2.symm⟩⟩
theorem rI (x y c:UInt8):Lib.hasPrefix [c] [x,y]=false:=by simp[Lib.hasPrefix,List.isPrefixOf]
theorem rJ (x y:UInt8):Lib.hasPrefix [] [x,y]=false:=by simp[Lib.hasPrefix,List.isPrefixOf]
theorem wU {l:List UInt8}{x y:UInt8}(h:Lib.hasPrefix l [x,y]=true):2≤l.length:=by
 match l,h with
 |c::d::r,_=>simp
 |[c],h=>rw[rI]at h;cases h
 |[],h=>rw[rJ]at h;cases h
theorem wV:∀l:List UInt8,cg l=Lib.hasPrefix l [35,124]
 |[]=>by rw[rJ];rfl
 |[c]=>by rw[rI];rfl
 |c::d::r=>by rw[Mk];rfl
theorem I2 {o:Nat}:∀{l:List UInt8},Lib.hasPrefix l [35,124]=true→cy o l=((cy (o+1) (l.drop 2)).1+2,(cy (o+1) (l.drop 2)).2)
 |[],h=>by rw[rJ]at h;cases h
 |[c],h=>by rw[rI]at h;cases h
 |c::d::r,h=>by
  rw[Mk,decide_eq_true_eq]at h;rw[cy,if_pos h];rfl
theorem EZ {o:Nat}:∀{l:List UInt8},Lib.hasPrefix l [35,124]=false→Lib.hasPrefix l [124,35]=true→cy o l=if o≤1 then(2,true)else((cy (o-1) (l.drop 2)).1+2,(cy (o-1) (l.drop 2)).2)
 |[],_,h=>by rw[rJ]at h;cases h
 |[c],_,h=>by rw[rI]at h;cases h
 |c::d::r,h1,h=>by
  rw[Mk,decide_eq_false_iff_not]at h1;rw[Mk,decide_eq_true_eq]at h;rw[cy,if_neg h1,if_pos h];rfl
theorem I3 {o:Nat}:∀{l:List UInt8},Lib.hasPrefix l [35,124]=false→Lib.hasPrefix l [124,35]=false→l≠[]→cy o l=((cy o (l.drop 1)).1+1,(cy o (l.drop 1)).2)
 |[],_,_,h=>absurd rfl h
 |[c],_,_,_=>by simp[cy]
 |c::d::r,h1,h,_=>by
  rw[Mk,decide_eq_false_iff_not]at h1 h;rw[cy,if_neg h1,if_neg h];rfl
theorem wW (s:ByteArray)(a:Nat)(w:World)(hs:s.size≤1000000)(hh:cg (s.data.toList.drop a)=true):Calls prog 76 #[.string s,.int .i64 a] w λe w'=>e=.returned (.tuple #[.int .i64 ((a:Int)+(cy 0 (s.data.toList.drop a)).1),.bool (cy 0 (s.data.toList.drop a)).2])∧w'=w:=by
 have WL:Hid (Lib.hasPrefix (s.data.toList.drop a) [35,124]=true):=by rw[←wV];exact hh
 have ha:a+2≤s.size:=by have:=wU WL.out;rw[zah,bR]at this;omega
 clear hh;go_enter func76,ntmps76;go_wp2_with fail;go_loop [1,6] (λi d=>∃k o:Nat,a≤k∧k≤s.size∧o≤k∧((k=a∧o=0)∨1≤o)∧i=.int .i64 k∧d=.int .i64 o∧Hid ((a:Int)+(cy 0 (s.data.toList.drop a)).1=(k:Int)+(cy o (s.data.toList.drop k)).1∧(cy 0 (s.data.toList.drop a)).2=(cy o (s.data.toList.drop k)).2)) (λi _=>s.size-(intOf i).toNat)
 case atStart=>exact⟨a,0,zaa _,by omega,by omega,.inl ⟨rfl,rfl⟩,rfl,rfl,rfl,rfl⟩
 case round=>
  obtain⟨k,o,I1,hk,cC,ho,rfl,rfl,hr⟩:=hrel;by_cases hlt:k<s.size
  ·have hne:Hid (s.data.toList.drop k≠[]):=by
    intro h;have:=congrArg List.length h;rw[zah,bR]at this;simp at this;omega
   cases vP:Lib.hasPrefix (s.data.toList.drop k) [35,124]
   ·have YB:Hid (Lib.hasPrefix (s.data.toList.drop k) [35,124]=false):=vP;have WB:1≤o:=by
     rcases ho with⟨rfl,rfl⟩|h
     ·rw[WL.out]at vP;cases vP
     ·exact h
    cases Pj:Lib.hasPrefix (s.data.toList.drop k) [124,35]
    ·have H:Hid _:=I3 (o:=o) vP Pj hne.out;go_wp2_with fail;refine(Tryz.strings_HasPrefix _ _ _).mono ?_;rintro e w' ⟨rfl,rfl⟩;rw[oh,YB.out];go_wp2_with fail;refine(Tryz.strings_HasPrefix _ _ _).mono ?_;rintro e w' ⟨rfl,rfl⟩;rw[oh,show Lib.hasPrefix (s.data.toList.drop k) [124,35]=false from Pj];go_wp2_with fail
     go_round
     case rel=>exact⟨k+1,o,by omega,by omega,by omega,.inr WB,by go_num,rfl,by
      have h1:=hr.out;rw[H.out,zbm]at h1;exact⟨by rw[h1.1];simp;omega,h1.2⟩⟩
     case measure=>simp[intOf];omega
    ·have hl2:=wU Pj;rw[zah,bR]at hl2;have H:Hid _:=EZ (o:=o) vP Pj;go_wp2_with fail;refine(Tryz.strings_HasPrefix _ _ _).mono ?_;rintro e w' ⟨rfl,rfl⟩;rw[oh,YB.out];go_wp2_with fail;refine(Tryz.strings_HasPrefix _ _ _).mono ?_;rintro e w' ⟨rfl,rfl⟩;rw[oh,show Lib.hasPrefix (s.data.toList.drop k) [124,35]=true from Pj];by_cases ho2:o=1
     ·subst ho2;go_wp2_with fail;go_ret2;have h1:=hr.out;rw[H.out]at h1;refine⟨?_,rfl⟩;rw[h1.1,h1.2];simp
     ·go_wp2_with fail
      go_round
      case rel=>exact⟨k+2,o-1,by omega,by omega,by omega,.inr (by omega),by go_num,by go_num,by
       have h1:=hr.out;rw[H.out,if_neg (by omega),zbm]at h1;exact⟨by rw[h1.1];simp;omega,h1.2⟩⟩
      case measure=>simp[intOf];omega
   ·have hl2:=wU vP;rw[zah,bR]at hl2;have H:Hid _:=I2 (o:=o) vP;go_wp2_with fail;refine(Tryz.strings_HasPrefix _ _ _).mono ?_;rintro e w' ⟨rfl,rfl⟩;rw[oh,show Lib.hasPrefix (s.data.toList.drop k) [35,124]=true from vP];go_wp2_with fail
    go_round
    case rel=>exact⟨k+2,o+1,by omega,by omega,by omega,.inr (by omega),by go_num,by go_num,by
     have h1:=hr.out;rw[H.out,zbm]at h1;exact⟨by rw[h1.1];simp;omega,h1.2⟩⟩
    case measure=>simp[intOf];omega
  ·have gU:k=s.size:=by omega
   have hd:s.data.toList.drop k=[]:=by rw[gU,←bR];exact List.drop_length
   have h1:=hr.out;rw[hd]at h1;have H:Hid _:=h1;clear h1 hd;go_wp2_with fail;go_ret2;refine⟨?_,rfl⟩;rw[H.out.1,H.out.2];simp[cy];try omega
theorem rK {n:Nat}{b:Bool}:bB n b []=(0,b):=by cases n<;>rfl
theorem qg {o:Nat}{l:List UInt8}(h:cg l=true):0<(cy o l).1:=by have:=zh o l h;omega
theorem jk:∀(n m:Nat) (b:Bool) (l:List UInt8),l.length≤n→l.length≤m→bB n b l=bB m b l
 |0,m,b,l,h,_=>by
  have:l=[]:=zby (by omega);subst this;rw[rK,rK]
 |n+1,0,b,l,_,h=>by
  have:l=[]:=zby (by omega);subst this;rw[rK,rK]
 |n+1,m+1,b,[],_,_=>rfl
 |n+1,m+1,b,c::r,h1,h2=>by
  simp only[zak]at h1 h2;have e1:=jk n m b r (by omega) (by omega);have e2:=jk n m b (r.drop (fQ r)) (by rw[zah];omega) (by rw[zah];omega);rw[bB,bB,e1,e2];by_cases hh:cg (c::r)=true
  ·have hp:=qg (o:=0) hh;have e3:=jk n m (cy 0 (c::r)).2 ((c::r).drop (cy 0 (c::r)).1) (by rw[zah,zak];omega) (by rw[zah,zak];omega);rw[e3]
  ·simp only[if_neg hh]
def tU (b:Bool)(l:List UInt8):Nat×Bool:=bB l.length b l
theorem Uk {b:Bool}:tU b []=(0,b):=rfl
theorem Ml {b:Bool}{c:UInt8}{r:List UInt8}(h:bK c=true):tU b (c::r)=((tU b r).1+1,(tU b r).2):=by
 unfold tU;rw[zak,bB,if_pos h]
theorem Pk {b:Bool}{c:UInt8}{r:List UInt8}(h:bK c=false)(h2:c.toNat=59):tU b (c::r)=((tU b (r.drop (fQ r))).1+(fQ r+1),(tU b (r.drop (fQ r))).2):=by
 unfold tU;rw[zak,bB,if_neg (by rw[h];simp),if_pos h2];have e:=jk r.length (r.drop (fQ r)).length b (r.drop (fQ r)) (by rw[zah];omega) (zaa _);rw[e]
theorem Pm {b:Bool}{c:UInt8}{r:List UInt8}(h:bK c=false)(h2:c.toNat≠59)(h3:cg (c::r)=true):tU b (c::r)=((tU (cy 0 (c::r)).2 ((c::r).drop (cy 0 (c::r)).1)).1+(cy 0 (c::r)).1,(tU (cy 0 (c::r)).2 ((c::r).drop (cy 0 (c::r)).1)).2):=by
 unfold tU;rw[zak,bB,if_neg (by rw[h];simp),if_neg h2,if_pos h3];have hp:=qg (o:=0) h3;have e:=jk r.length ((c::r).drop (cy 0 (c::r)).1).length (cy 0 (c::r)).2 ((c::r).drop (cy 0 (c::r)).1) (by rw[zah,zak];omega) (zaa _);rw[e]
theorem Pn {b:Bool}{c:UInt8}{r:List UInt8}(h:bK c=false)(h2:c.toNat≠59)(h3:cg (c::r)=false):tU b (c::r)=(0,b):=by
 unfold tU;rw[zak,bB,if_neg (by rw[h];simp),if_neg h2,if_neg (by rw[h3];simp)]
theorem I4 (c:UInt8):decide ((c.toNat:Int)=32∨(c.toNat:Int)=9∨(c.toNat:Int)=10)=bK c:=by
 unfold bK;rw[zaz];simp;omega
theorem drop_cons (s:ByteArray)(k:Nat)(h:k<s.size):s.data.toList.drop k=s[k]::s.data.toList.drop (k+1):=by rw[zbB (by simpa using h)];rfl
theorem jJ (s:ByteArray)(a:Nat)(w:World)(hs:s.size≤1000000)(ha:a≤s.size):Calls prog 44 #[.string s,.int .i64 a] w λe w'=>e=.returned (.tuple #[.int .i64 ((a:Int)+(tU true (s.data.toList.drop a)).1),.bool (tU true (s.data.toList.drop a)).2])∧w'=w:=by
 go_enter func44,ntmps44;go_wp2_with fail;go_loop [1,6] (λi d=>∃(k:Nat) (b:Bool),a≤k∧k≤s.size∧i=.int .i64 k∧d=.bool b∧Hid ((a:Int)+(tU true (s.data.toList.drop a)).1=(k:Int)+(tU b (s.data.toList.drop k)).1∧(tU true (s.data.toList.drop a)).2=(tU b (s.data.toList.drop k)).2)) (λi _=>s.size-(intOf i).toNat)
 case atStart=>exact⟨a,true,zaa _,by omega,rfl,rfl,rfl,rfl⟩
 case round=>
  obtain⟨k,b,I1,hk,rfl,rfl,hr⟩:=hrel;by_cases hlt:k<s.size
  ·have hd:Hid _:=drop_cons s k hlt;have hbl:=I4 s[k];cases hb:bK s[k]
   ·rw[hb]at hbl;by_cases YC:(s[k].toNat :Int)=59
    ·have H:Hid _:=Pk (b:=b) (r:=s.data.toList.drop (k+1)) hb (by omega);have hle:=rD (s.data.toList.drop (k+1));rw[zah,bR]at hle;have YD:Hid (fQ (s.data.toList.drop k)=fQ (s.data.toList.drop (k+1))+1):=by
      show _=_;rw[hd.out,fQ,if_neg (by intro e;rw[e]at YC;exact absurd YC (by decide))]
     generalize hm:fQ (s.data.toList.drop (k+1))=m at *;go_wp2_with fail;refine(lh _ _).mono ?_;rw[show decide ((59:Int)=32∨(59:Int)=9∨(59:Int)=10)=false from by decide];rintro e w' ⟨rfl,rfl⟩;go_wp2_with fail;refine(Cz _ _ _ hs (by omega)).mono ?_;rw[YD.out];rintro e w' ⟨rfl,rfl⟩;go_wp2_with fail
     go_round
     case rel=>exact⟨k+(m+1),b,by omega,by omega,by go_num,rfl,by
      have h1:=hr.out;rw[hd.out,H.out,zbm]at h1;rw[show k+1+m=k+(m+1) by omega]at h1;exact⟨by rw[h1.1];simp;omega,h1.2⟩⟩
     case measure=>simp[intOf];omega
    ·cases hh:cg (s.data.toList.drop k)
     ·have H:Hid _:=Pn (b:=b) (r:=s.data.toList.drop (k+1)) hb (by omega) (by rw[←hd.out];exact hh);have hp:Hid (Lib.hasPrefix (s.data.toList.drop k) [35,124]=false):=by rw[←wV];exact hh
      go_wp2_with fail;refine(lh _ _).mono ?_;rw[hbl];rintro e w' ⟨rfl,rfl⟩;go_wp2_with fail;refine(Tryz.strings_HasPrefix _ _ _).mono ?_;rintro e w' ⟨rfl,rfl⟩;rw[oh,hp.out];go_wp2_with fail;go_ret2;have h1:=hr.out;rw[hd.out,H.out]at h1;refine⟨?_,rfl⟩;rw[h1.1,h1.2];simp
     ·have H:Hid _:=Pm (b:=b) (r:=s.data.toList.drop (k+1)) hb (by omega) (by rw[←hd.out];exact hh);have hp:Hid (Lib.hasPrefix (s.data.toList.drop k) [35,124]=true):=by rw[←wV];exact hh
      have WL:Hid (cg (s.data.toList.drop k)=true):=hh;have jS:=qg (o:=0) hh;have hle:=Ck 0 (s.data.toList.drop k);rw[zah,bR]at hle;have HH:Hid _:=H.out;rw[←hd.out]at HH;clear H;generalize hm:cy 0 (s.data.toList.drop k)=cm at *;have Kl:Hid _:=hm;clear hm;go_wp2_with fail;refine(lh _ _).mono ?_;rw[hbl];rintro e w' ⟨rfl,rfl⟩;go_wp2_with fail;refine(Tryz.strings_HasPrefix _ _ _).mono ?_;rintro e w' ⟨rfl,rfl⟩;rw[oh,hp.out];go_wp2_with fail;refine(wW _ _ _ hs WL.out).mono ?_;rw[Kl.out];rintro e w' ⟨rfl,rfl⟩;go_wp2_with fail
      go_round
      case rel=>exact⟨k+cm.1,cm.2,by omega,by omega,by go_num,rfl,by
       have h1:=hr.out;rw[HH.out,zbm]at h1;exact⟨by rw[h1.1];simp;omega,h1.2⟩⟩
      case measure=>simp[intOf];omega
   ·have H:Hid _:=Ml (b:=b) (r:=s.data.toList.drop (k+1)) hb;rw[hb]at hbl;go_wp2_with fail;refine(lh _ _).mono ?_;rw[hbl];rintro e w' ⟨rfl,rfl⟩;go_wp2_with fail
    go_round
    case rel=>exact⟨k+1,b,by omega,by omega,by go_num,rfl,by
     have h1:=hr.out;rw[hd.out,H.out]at h1;exact⟨by rw[h1.1];simp;omega,h1.2⟩⟩
    case measure=>simp[intOf];omega
  ·have gU:k=s.size:=by omega
   have hd:s.data.toList.drop k=[]:=by rw[gU,←bR];exact List.drop_length
   have h1:=hr.out;rw[hd,Uk]at h1;have H:Hid _:=h1;clear h1 hd;go_wp2_with fail;go_ret2;refine⟨?_,rfl⟩;rw[H.out.1,H.out.2];simp;try omega
def bn (t:Tok):Value:= .agg #[.int .i64 t.kind,.int .i64 t.from_,.int .i64 t.dF,.string ⟨⟨t.text⟩⟩,.int .i64 t.n,.int .i64 t.d,.int .i64 t.fault]
theorem jl (a:Nat)(w:World):Calls prog 172 #[.int .i64 a] w λe w'=>e=.returned (bn (bY a))∧Below w.heap.size w w':=by
 go_enter func172,ntmps172;go_wp2_with fail;exact bodyPost_ret (v:=bn (bY a)) (by simp[results,results172,bn,bY,aq,go_sem]) rfl ⟨rfl,(Below.refl _ _).alloc (zaa _) _⟩
theorem sT (s:ByteArray)(w:World):Calls prog 168 #[.string s] w λe w'=>e=.returned (bn (b9 s.data.toList))∧Below w.heap.size w w':=by
 go_enter func168,ntmps168;go_wp2_with fail;exact bodyPost_ret (v:=bn (b9 s.data.toList)) (by simp[results,results168,bn,b9,aq,go_sem];try rfl) rfl ⟨rfl,(Below.refl _ _).alloc (zaa _) _⟩
theorem Mm (t:Tok)(w:World):Calls prog 121 #[bn t] w λe _=>e=.returned (.bool t.lastB):=by
 unfold bn;go_enter func121,ntmps121
 go_wp2
 all_goals
  go_ret;refine aK ?_;unfold Tok.lastB;rw[zaz];simp;try omega
theorem tV (c:UInt8)(w:World):Calls prog 197 #[.int .u8 (c.toNat:Int)] w λe w'=>e=.returned (.tuple #[.int .u8 (((Cj c).getD 0).toNat :Int),.bool (Cj c).isSome])∧w'=w:=by
 have key:∀c:UInt8,((c.toNat:Int)=92↔c=92)∧((c.toNat:Int)=34↔c=34)∧((c.toNat:Int)=110↔c=110)∧((c.toNat:Int)=116↔c=116):=by
  intro c;have h:∀n:Nat,n<256→(c.toNat=n↔c=n.toUInt8):=λn hn=>by
   rw[←UInt8.toNat_inj];simp[Nat.mod_eq_of_lt hn]
  have h1:=h 92 (by omega);have h2:=h 34 (by omega);have h3:=h 110 (by omega);have h4:=h 116 (by omega);exact⟨by rw[show(92:UInt8)=Nat.toUInt8 92 from rfl,←h1];omega,by rw[show(34:UInt8)=Nat.toUInt8 34 from rfl,←h2];omega,by rw[show(110:UInt8)=Nat.toUInt8 110 from rfl,←h3];omega,by rw[show(116:UInt8)=Nat.toUInt8 116 from rfl,←h4];omega⟩
 obtain⟨k1,k2,k3,k4⟩:=key c;clear key;by_cases h1:c=92
 ·subst h1;go_enter func197,ntmps197;go_wp2_with fail;go_ret2;exact⟨rfl,rfl⟩
 by_cases h2:c=34
 ·subst h2;go_enter func197,ntmps197;go_wp2_with fail;go_ret2;exact⟨rfl,rfl⟩
 by_cases h3:c=110
 ·subst h3;go_enter func197,ntmps197;go_wp2_with fail;go_ret2;exact⟨rfl,rfl⟩
 by_cases h4:c=116
 ·subst h4;go_enter func197,ntmps197;go_wp2_with fail;go_ret2;exact⟨rfl,rfl⟩
 have e:Cj c=none:=by unfold Cj;rw[if_neg (by simp[h1,h2]),if_neg h3,if_neg h4]
 rw[e];have q1:((c.toNat:Int)==92)=false:=by rw[beq_eq_false_iff_ne];exact λh=>h1 (k1.1 h)
 have q2:((c.toNat:Int)==34)=false:=by rw[beq_eq_false_iff_ne];exact λh=>h2 (k2.1 h)
 have q3:((c.toNat:Int)==110)=false:=by rw[beq_eq_false_iff_ne];exact λh=>h3 (k3.1 h)
 have q4:((c.toNat:Int)==116)=false:=by rw[beq_eq_false_iff_ne];exact λh=>h4 (k4.1 h)
 clear k1 k2 k3 k4 h1 h2 h3 h4 e;go_enter func197,ntmps197;go_wp2_with fail;go_ret2;exact⟨rfl,rfl⟩
theorem o9 (x:ByteArray):x.toList=x.data.toList:=by cases x with|mk d=>cases d with|mk l=>exact mb l
theorem I5 (l:List UInt8)(k:Nat):hasName (k:Int)=true→nameOf (k:Int)=l→jU l=k:=by
 intro h1 h2;unfold hasName at h1;simp at h1;unfold nameOf at h2;rcases h1 with h|h|h|h|h|h<;>(rw[h]at h2 ⊢;simp at h2;subst h2;decide)
theorem I6 (l:List UInt8)(h:0≤jU l):hasName (jU l)=true∧nameOf (jU l)=l∧jU l<128:=by
 unfold jU at h ⊢;repeat' split
 all_goals first
  |(simp_all;done)
  |(subst_vars;decide)
theorem wY (s:ByteArray)(w:World):Calls prog 223 #[.string s] w λe w'=>e=.returned (.tuple #[.int .i64 ((rC s.data.toList).getD 0),.bool (rC s.data.toList).isSome])∧w'=w:=by
 have hc:Hid (∀k:Nat,hasName (k:Int)=true→nameOf (k:Int)=s.data.toList→rC s.data.toList=some (k:Int)):=λk h1 h2=>by
  have:=I5 _ k h1 h2;unfold rC;rw[this,if_pos (by omega)]
 have hn:Hid (0≤jU s.data.toList→hasName (jU s.data.toList)=true∧nameOf (jU s.data.toList)=s.data.toList∧jU s.data.toList<128):=I6 _;go_enter func223,ntmps223;go_wp2_with fail;go_loop [7] (λi=>∃k:Nat,k≤128∧i=.int .i64 k∧Hid (∀j:Nat,j<k→¬(hasName (j:Int)=true∧nameOf (j:Int)=s.data.toList))) (λi=>128-(intOf i).toNat)
 case atStart=>exact⟨0,by omega,rfl,λj hj=>by omega⟩
 case round=>
  obtain⟨k,hk,rfl,hr⟩:=hrel;by_cases hlt:k<128
  ·cases hb:hasName (k:Int)
   ·go_wp2_with fail;refine(ig _ _).mono ?_;rw[hb];rintro e w' ⟨rfl,rfl⟩;go_wp2_with fail
    go_round
    case rel=>exact⟨k+1,by omega,by go_num,λj hj h=>by
     by_cases e:j=k
     ·subst e;rw[hb]at h;cases h.1
     ·exact hr.out j (by omega) h⟩
    case measure=>simp[intOf];omega
   ·by_cases he:nameOf (k:Int)=s.data.toList
    ·have hq:=hc.out k hb he;have XZ:(nameOf (k:Int)==s.toList)=true:=by rw[o9,he,beq_iff_eq]
     go_wp2_with fail;refine(ig _ _).mono ?_;rw[hb];rintro e w' ⟨rfl,rfl⟩;go_wp2_with fail;go_ret2;refine⟨?_,rfl⟩;rw[hq];rfl
    ·have XZ:(nameOf (k:Int)==s.toList)=false:=by
      rw[o9,beq_eq_false_iff_ne];exact he
     go_wp2_with fail;refine(ig _ _).mono ?_;rw[hb];rintro e w' ⟨rfl,rfl⟩;go_wp2_with fail
     go_round
     case rel=>exact⟨k+1,by omega,by go_num,λj hj h=>by
      by_cases e:j=k
      ·subst e;exact he h.2
      ·exact hr.out j (by omega) h⟩
     case measure=>simp[intOf];omega
  ·have hq:rC s.data.toList=none:=by
    unfold rC;rw[if_neg];intro h;obtain⟨h1,h2,h3⟩:=hn.out h;obtain⟨m,hm⟩:=zbl h;rw[hm]at h1 h2 h3;exact hr.out m (by omega) ⟨h1,h2⟩
   have hq':Hid _:=hq;clear hq;go_wp2_with fail;go_ret2;refine⟨?_,rfl⟩;rw[hq'.out];rfl
theorem ba (n d:Int)(w:World):Calls prog 227 #[.int .i64 n,.int .i64 d] w λe w'=>e=.returned (.int .i64 (if 1000000<n∨1000000<d then 7 else if d=0 then 3 else 0))∧w'=w:=by
 go_enter func227,ntmps227
 go_wp2
 all_goals
  go_ret;refine⟨gI ?_,rfl⟩;simp_all;try omega
theorem CB (l:List UInt8)(c:UInt8)(n:Int):gz n (l++[c])=min (gz n l*10+((c.toNat:Int)-48)) 1000001:=by
 simp[gz]
theorem sU:∀(l:List UInt8) (n:Int),0≤n→n≤1000001→l.all (λc=>cT (c.toNat:Int))=true→0≤gz n l∧gz n l≤1000001
 |[],n,h1,h2,_=>⟨h1,h2⟩
 |c::r,n,h1,h2,h3=>by
  simp only[zaf,zac]at h3;have hd:48≤(c.toNat:Int):=by have:=h3.1;unfold cT at this;simp at this;omega
  show 0≤gz (min (n*10+((c.toNat:Int)-48)) 1000001) r∧gz (min (n*10+((c.toNat:Int)-48)) 1000001) r≤1000001;exact sU r _ (by omega) (by omega) h3.2
theorem aP (s:ByteArray)(w:World)(hs:s.size≤1000000)(hd:s.data.toList.all (λc=>cT (c.toNat:Int))=true):Calls prog 224 #[.string s] w λe w'=>e=.returned (.int .i64 (ae s.data.toList))∧w'=w:=by
 have hdg:Hid (∀k (h:k<s.size),48≤(s[k].toNat :Int)∧(s[k].toNat :Int)≤57):=λk h=>by
  rw[zaE]at hd;have:=hd s[k] (by exact zaN (l:=s.data.toList) (n:=k) h);unfold cT at this;simpa using this
 have pZ:Hid (∀k,0≤ae (s.data.toList.take k)∧ae (s.data.toList.take k)≤1000001):=λk=>sU _ 0 (by omega) (by omega) (by
  rw[zaE]at hd ⊢;exact λx hx=>hd x (List.mem_of_mem_take hx))
 clear hd;go_enter func224,ntmps224;go_wp2_with fail;go_loop [7,3] (λi n=>∃k:Nat,k≤s.size∧i=.int .i64 k∧n=.int .i64 (ae (s.data.toList.take k))) (λi _=>s.size-(intOf i).toNat)
 case atStart=>exact⟨0,by omega,rfl,rfl⟩
 case round=>
  obtain⟨k,hk,rfl,rfl⟩:=hrel;by_cases hlt:k<s.size
  ·obtain⟨d1,d2⟩:=hdg.out k hlt;obtain⟨b1,b2⟩:=pZ.out k;have hst:Hid (ae (s.data.toList.take (k+1))=min (ae (s.data.toList.take k)*10+((s[k].toNat :Int)-48)) 1000001):=by
    show _=_;rw[I0 s k hlt];exact CB _ _ 0
   generalize ae (s.data.toList.take k)=m at *;generalize hx:(s[k].toNat :Int)=x at *;go_wp2_with fail
   go_round
   case rel=>exact⟨k+1,by omega,by go_num,by rw[hst.out];try (congr 1;omega)⟩
   case measure=>simp[intOf];omega
  ·have hf:Hid (s.data.toList.take k=s.data.toList):=Mh s k (by omega);go_wp2_with fail;go_ret;refine⟨gI ?_,rfl⟩;rw[hf.out]
theorem pc:∀l:List UInt8,(Lib.indexByte l 47=-1∧qa l=none)∨∃k:Nat,Lib.indexByte l 47=(k:Int)∧k<l.length∧qa l=some (l.take k,l.drop (k+1))
 |[]=> .inl ⟨rfl,rfl⟩
 |c::r=>by
  unfold Lib.indexByte qa;by_cases hc:c=47
  ·subst hc;exact .inr ⟨0,by simp,by simp,by simp⟩
  ·have hc':(c==47)=false:=by simpa using hc
   have hn:¬c.toNat=47:=λh=>hc (by rw[←UInt8.toNat_inj];exact h);rw[hc',if_neg hn];simp only[zav,if_false];rcases pc r with⟨h1,h2⟩|⟨k,h1,h2,h3⟩
   ·left;rw[h1,h2];simp
   ·right;refine⟨k+1,?_,by simp;omega,?_⟩
    ·rw[h1];have:((k:Int)==-1)=false:=by rw[beq_eq_false_iff_ne];omega
     rw[this];simp
    ·rw[h3];simp
theorem AJ (s:ByteArray)(w:World)(h:Lib.indexByte s.data.toList 47=-1):Calls prog 243 #[.string s,.string ⟨#[47]⟩] w λe w'=>e=.returned (.tuple #[.string s,.string ⟨#[]⟩,.bool false])∧∃n,w'=w.drewN n:=by
 go_enter func243,ntmps243;go_wp2_with (go_at_call 247;refine(Tryz.stringslite_Index_one _ _ _).mono ?_;rintro e w' ⟨rfl,rfl⟩;rw[h])
 go_ret3
 exact⟨rfl,0,rfl⟩
theorem CC (s:ByteArray)(k:Nat)(w:World)(h:Lib.indexByte s.data.toList 47=(k:Int))(hk:k<s.size)(hs:s.size≤1000000):Calls prog 243 #[.string s,.string ⟨#[47]⟩] w λe w'=>e=.returned (.tuple #[.string (s.extract 0 k),.string (s.extract (k+1) s.size),.bool true])∧∃n,w'=w.drewN n:=by
 have c1:(0:Int)≤↑k:=by omega
 have c2:(↑k:Int)≤↑s.size:=by omega
 have c3:(0:Int)≤↑k+1:=by omega
 have c4:(↑k+1:Int)≤↑s.size:=by omega
 have mixed:prog.follows Departure.mixedOrders=true:=by kernel_rfl
 go_enter func243,ntmps243;go_wp2_with (go_at_call 247;refine(Tryz.stringslite_Index_one _ _ _).mono ?_;rintro e w' ⟨rfl,rfl⟩;rw[h])
 go_region_o
 go_wp2
 go_ret3
 exact⟨rfl,1,rfl⟩
theorem et (s:ByteArray)(w:World)(h:Lib.indexByte s.data.toList 47=-1):Calls prog 225 #[.string s,.string ⟨#[47]⟩] w λe w'=>e=.returned (.tuple #[.string s,.string ⟨#[]⟩,.bool false])∧∃n,w'=w.drewN n:=by
 go_enter func225,ntmps225;go_wp2_with (go_at_call 243;refine(AJ _ _ h).mono ?_;rintro e w' ⟨rfl,n,rfl⟩)
 go_ret3
 exact⟨rfl,n,rfl⟩
theorem fJ (s:ByteArray)(k:Nat)(w:World)(h:Lib.indexByte s.data.toList 47=(k:Int))(hk:k<s.size)(hs:s.size≤1000000):Calls prog 225 #[.string s,.string ⟨#[47]⟩] w λe w'=>e=.returned (.tuple #[.string (s.extract 0 k),.string (s.extract (k+1) s.size),.bool true])∧∃n,w'=w.drewN n:=by
 go_enter func225,ntmps225;go_wp2_with (go_at_call 243;refine(CC _ _ _ h hk hs).mono ?_;rintro e w' ⟨rfl,n,rfl⟩)
 go_ret3
 exact⟨rfl,n,rfl⟩
theorem au (s:ByteArray)(w:World)(hs:s.size≤1000000):Calls prog 226 #[.string s] w λe w'=>e=.returned (.bool (aV s.data.toList))∧w'=w:=by
 have hr:Hid (decide (br cT s.data.toList=s.data.toList.length)=s.data.toList.all (λc=>cT (c.toNat:Int))):=Ci cT _;have hle:=jv cT s.data.toList;rw[bR]at hle;by_cases h0:s.data.toList=[]
 ·have vV:s.toList=[]:=by rw[o9,h0]
  have NU:(s.toList==[])=true:=by rw[vV];rfl
  have hf:Hid (aV s.data.toList=false):=by show _=_;rw[h0];rfl
  clear h0;go_enter func226,ntmps226;go_wp2_with fail;all_goals
   go_ret;exact⟨aK hf.out.symm,rfl⟩
 ·have vV:¬s.toList=[]:=by rw[o9];exact h0
  have NU:(s.toList==[])=false:=by rw[beq_eq_false_iff_ne];exact vV
  have hf:Hid (aV s.data.toList=decide ((br cT s.data.toList:Int)=s.size)):=by
   show _=_;unfold aV;rw[←hr.out,bR];have:s.data.toList.isEmpty=false:=by simpa using h0
   rw[this,zaz];simp;omega
  clear h0 hr;go_enter func226,ntmps226;go_wp2_with (go_at_call 148;refine(fI _ _ _ (by unfold maxLen;omega) (by omega) (by omega)).mono ?_;rintro e w' ⟨rfl,rfl⟩;simp only[Int.toNat_zero,zaJ,Int.zero_add]);all_goals
   go_ret;refine⟨aK ?_,rfl⟩;rw[hf.out];try (rw[zaz];simp)
end Go.Proofs.YtlhimdjkkiflhaaGreatDoor
