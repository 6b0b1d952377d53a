import Derived.Test.YtlhimdjkkiflhaaGreatDoorKnown15
set_option maxHeartbeats 8000000
set_option maxRecDepth 100000
namespace Go.Proofs.YtlhimdjkkiflhaaGreatDoor
open Go.Proofs.Tryz
open Go.RowKit Go.Loop
theorem rA {n:Nat}{b:Bool}:fZ n b []=(0,b):=by cases n<;>rfl
theorem pZ {o:Nat}{l:List UInt8}(h:im l=true):0<(bQ o l).1:=by have:=JH o l h;omega
theorem lM:∀(n m:Nat) (b:Bool) (l:List UInt8),l.length≤n→l.length≤m→fZ n b l=fZ m b l
 |0,m,b,l,h,_=>by
  have:l=[]:=zbi (by omega);subst this;rw[rA,rA]
 |n+1,0,b,l,_,h=>by
  have:l=[]:=zbi (by omega);subst this;rw[rA,rA]
 |n+1,m+1,b,[],_,_=>rfl
 |n+1,m+1,b,c::r,h1,h2=>by
  simp only[zat]at h1 h2;have e1:=lM n m b r (by omega) (by omega);have e2:=lM n m b (r.drop (fT r)) (by rw[zaj];omega) (by rw[zaj];omega);rw[fZ,fZ,e1,e2];by_cases hh:im (c::r)=true
  ·have hp:=pZ (o:=0) hh;have e3:=lM n m (bQ 0 (c::r)).2 ((c::r).drop (bQ 0 (c::r)).1) (by rw[zaj,zat];omega) (by rw[zaj,zat];omega);rw[e3]
  ·simp only[if_neg hh]
def rB (b:Bool)(l:List UInt8):Nat×Bool:=fZ l.length b l
theorem UW {b:Bool}:rB b []=(0,b):=rfl
theorem NK {b:Bool}{c:UInt8}{r:List UInt8}(h:nO c=true):rB b (c::r)=((rB b r).1+1,(rB b r).2):=by
 unfold rB;rw[zat,fZ,if_pos h]
theorem Ro {b:Bool}{c:UInt8}{r:List UInt8}(h:nO c=false)(h2:c.toNat=59):rB b (c::r)=((rB b (r.drop (fT r))).1+(fT r+1),(rB b (r.drop (fT r))).2):=by
 unfold rB;rw[zat,fZ,if_neg (by rw[h];simp),if_pos h2];have e:=lM r.length (r.drop (fT r)).length b (r.drop (fT r)) (by rw[zaj];omega) (zaa _);rw[e]
theorem Rp {b:Bool}{c:UInt8}{r:List UInt8}(h:nO c=false)(h2:c.toNat≠59)(h3:im (c::r)=true):rB b (c::r)=((rB (bQ 0 (c::r)).2 ((c::r).drop (bQ 0 (c::r)).1)).1+(bQ 0 (c::r)).1,(rB (bQ 0 (c::r)).2 ((c::r).drop (bQ 0 (c::r)).1)).2):=by
 unfold rB;rw[zat,fZ,if_neg (by rw[h];simp),if_neg h2,if_pos h3];have hp:=pZ (o:=0) h3;have e:=lM r.length ((c::r).drop (bQ 0 (c::r)).1).length (bQ 0 (c::r)).2 ((c::r).drop (bQ 0 (c::r)).1) (by rw[zaj,zat];omega) (zaa _);rw[e]
theorem Rq {b:Bool}{c:UInt8}{r:List UInt8}(h:nO c=false)(h2:c.toNat≠59)(h3:im (c::r)=false):rB b (c::r)=(0,b):=by
 unfold rB;rw[zat,fZ,if_neg (by rw[h];simp),if_neg h2,if_neg (by rw[h3];simp)]
theorem JY (c:UInt8):decide ((c.toNat:Int)=32∨(c.toNat:Int)=9∨(c.toNat:Int)=10)=nO c:=by
 unfold nO;rw[zar];simp;omega
theorem drop_cons (s:ByteArray)(k:Nat)(h:k<s.size):s.data.toList.drop k=s[k]::s.data.toList.drop (k+1):=by rw[zba (by simpa using h)];rfl
theorem iv (s:ByteArray)(a:Nat)(w:World)(hs:s.size≤1000000)(ha:a≤s.size):Calls prog 44 #[.string s,.int .i64 a] w λe w'=>e=.returned (.tuple #[.int .i64 ((a:Int)+(rB true (s.data.toList.drop a)).1),.bool (rB true (s.data.toList.drop a)).2])∧w'=w:=by
 go_enter func44,ntmps44;go_wp2_with fail;go_loop [1,6] (λi d=>∃(k:Nat) (b:Bool),a≤k∧k≤s.size∧i=.int .i64 k∧d=.bool b∧Hid ((a:Int)+(rB true (s.data.toList.drop a)).1=(k:Int)+(rB b (s.data.toList.drop k)).1∧(rB true (s.data.toList.drop a)).2=(rB b (s.data.toList.drop k)).2)) (λi _=>s.size-(intOf i).toNat)
 case atStart=>exact⟨a,true,zaa _,by omega,rfl,rfl,rfl,rfl⟩
 case round=>
  obtain⟨k,b,JV,hk,rfl,rfl,hr⟩:=hrel;by_cases hlt:k<s.size
  ·have hd:Hid _:=drop_cons s k hlt;have hbl:=JY s[k];cases hb:nO s[k]
   ·rw[hb]at hbl;by_cases Y8:(s[k].toNat :Int)=59
    ·have H:Hid _:=Ro (b:=b) (r:=s.data.toList.drop (k+1)) hb (by omega);have hle:=ri (s.data.toList.drop (k+1));rw[zaj,bA]at hle;have Y9:Hid (fT (s.data.toList.drop k)=fT (s.data.toList.drop (k+1))+1):=by
      show _=_;rw[hd.out,fT,if_neg (by intro e;rw[e]at Y8;exact absurd Y8 (by decide))]
     generalize hm:fT (s.data.toList.drop (k+1))=m at *;go_wp2_with fail;refine(kP _ _).mono ?_;rw[show decide ((59:Int)=32∨(59:Int)=9∨(59:Int)=10)=false from by decide];rintro e w' ⟨rfl,rfl⟩;go_wp2_with fail;refine(CS _ _ _ hs (by omega)).mono ?_;rw[Y9.out];rintro e w' ⟨rfl,rfl⟩;go_wp2_with fail
     go_round
     case rel=>exact⟨k+(m+1),b,by omega,by omega,by go_num,rfl,by
      have h1:=hr.out;rw[hd.out,H.out,zbb]at h1;rw[show k+1+m=k+(m+1) by omega]at h1;exact⟨by rw[h1.1];simp;omega,h1.2⟩⟩
     case measure=>simp[intOf];omega
    ·cases hh:im (s.data.toList.drop k)
     ·have H:Hid _:=Rq (b:=b) (r:=s.data.toList.drop (k+1)) hb (by omega) (by rw[←hd.out];exact hh);have hp:Hid (Lib.hasPrefix (s.data.toList.drop k) [35,124]=false):=by rw[←wR];exact hh
      go_wp2_with fail;refine(kP _ _).mono ?_;rw[hbl];rintro e w' ⟨rfl,rfl⟩;go_wp2_with fail;refine(Tryz.strings_HasPrefix _ _ _).mono ?_;rintro e w' ⟨rfl,rfl⟩;rw[nR,hp.out];go_wp2_with fail;go_ret2;have h1:=hr.out;rw[hd.out,H.out]at h1;refine⟨?_,rfl⟩;rw[h1.1,h1.2];simp
     ·have H:Hid _:=Rp (b:=b) (r:=s.data.toList.drop (k+1)) hb (by omega) (by rw[←hd.out];exact hh);have hp:Hid (Lib.hasPrefix (s.data.toList.drop k) [35,124]=true):=by rw[←wR];exact hh
      have Tg:Hid (im (s.data.toList.drop k)=true):=hh;have iP:=pZ (o:=0) hh;have hle:=CE 0 (s.data.toList.drop k);rw[zaj,bA]at hle;have HH:Hid _:=H.out;rw[←hd.out]at HH;clear H;generalize hm:bQ 0 (s.data.toList.drop k)=cm at *;have PQ:Hid _:=hm;clear hm;go_wp2_with fail;refine(kP _ _).mono ?_;rw[hbl];rintro e w' ⟨rfl,rfl⟩;go_wp2_with fail;refine(Tryz.strings_HasPrefix _ _ _).mono ?_;rintro e w' ⟨rfl,rfl⟩;rw[nR,hp.out];go_wp2_with fail;refine(wS _ _ _ hs Tg.out).mono ?_;rw[PQ.out];rintro e w' ⟨rfl,rfl⟩;go_wp2_with fail
      go_round
      case rel=>exact⟨k+cm.1,cm.2,by omega,by omega,by go_num,rfl,by
       have h1:=hr.out;rw[HH.out,zbb]at h1;exact⟨by rw[h1.1];simp;omega,h1.2⟩⟩
      case measure=>simp[intOf];omega
   ·have H:Hid _:=NK (b:=b) (r:=s.data.toList.drop (k+1)) hb;rw[hb]at hbl;go_wp2_with fail;refine(kP _ _).mono ?_;rw[hbl];rintro e w' ⟨rfl,rfl⟩;go_wp2_with fail
    go_round
    case rel=>exact⟨k+1,b,by omega,by omega,by go_num,rfl,by
     have h1:=hr.out;rw[hd.out,H.out]at h1;exact⟨by rw[h1.1];simp;omega,h1.2⟩⟩
    case measure=>simp[intOf];omega
  ·have cP:k=s.size:=by omega
   have hd:s.data.toList.drop k=[]:=by rw[cP,←bA];exact List.drop_length
   have h1:=hr.out;rw[hd,UW]at h1;have H:Hid _:=h1;clear h1 hd;go_wp2_with fail;go_ret2;refine⟨?_,rfl⟩;rw[H.out.1,H.out.2];simp;try omega
def aX (t:Tok):Value:= .agg #[.int .i64 t.kind,.int .i64 t.from_,.int .i64 t.cA,.string ⟨⟨t.text⟩⟩,.int .i64 t.n,.int .i64 t.d,.int .i64 t.fault]
theorem iU (a:Nat)(w:World):Calls prog 172 #[.int .i64 a] w λe w'=>e=.returned (aX (bJ a))∧Below w.heap.size w w':=by
 go_enter func172,ntmps172;go_wp2_with fail;exact bodyPost_ret (v:=aX (bJ a)) (by simp[results,results172,aX,bJ,aQ,go_sem]) rfl ⟨rfl,(Below.refl _ _).alloc (zaa _) _⟩
theorem s8 (s:ByteArray)(w:World):Calls prog 168 #[.string s] w λe w'=>e=.returned (aX (oY s.data.toList))∧Below w.heap.size w w':=by
 go_enter func168,ntmps168;go_wp2_with fail;exact bodyPost_ret (v:=aX (oY s.data.toList)) (by simp[results,results168,aX,oY,aQ,go_sem];try rfl) rfl ⟨rfl,(Below.refl _ _).alloc (zaa _) _⟩
theorem NL (t:Tok)(w:World):Calls prog 121 #[aX t] w λe _=>e=.returned (.bool t.lastB):=by
 unfold aX;go_enter func121,ntmps121
 go_wp2
 all_goals
  go_ret;refine az ?_;unfold Tok.lastB;rw[zar];simp;try omega
theorem ue (c:UInt8)(w:World):Calls prog 197 #[.int .u8 (c.toNat:Int)] w λe w'=>e=.returned (.tuple #[.int .u8 (((CC c).getD 0).toNat :Int),.bool (CC c).isSome])∧w'=w:=by
 have key:∀c:UInt8,((c.toNat:Int)=92↔c=92)∧((c.toNat:Int)=34↔c=34)∧((c.toNat:Int)=110↔c=110)∧((c.toNat:Int)=116↔c=116):=by
  intro c;have h:∀n:Nat,n<256→(c.toNat=n↔c=n.toUInt8):=λn hn=>by
   rw[←UInt8.toNat_inj];simp[Nat.mod_eq_of_lt hn]
  have h1:=h 92 (by omega);have h2:=h 34 (by omega);have h3:=h 110 (by omega);have h4:=h 116 (by omega);exact⟨by rw[show(92:UInt8)=Nat.toUInt8 92 from rfl,←h1];omega,by rw[show(34:UInt8)=Nat.toUInt8 34 from rfl,←h2];omega,by rw[show(110:UInt8)=Nat.toUInt8 110 from rfl,←h3];omega,by rw[show(116:UInt8)=Nat.toUInt8 116 from rfl,←h4];omega⟩
 obtain⟨k1,k2,k3,k4⟩:=key c;clear key;by_cases h1:c=92
 ·subst h1;go_enter func197,ntmps197;go_wp2_with fail;go_ret2;exact⟨rfl,rfl⟩
 by_cases h2:c=34
 ·subst h2;go_enter func197,ntmps197;go_wp2_with fail;go_ret2;exact⟨rfl,rfl⟩
 by_cases h3:c=110
 ·subst h3;go_enter func197,ntmps197;go_wp2_with fail;go_ret2;exact⟨rfl,rfl⟩
 by_cases h4:c=116
 ·subst h4;go_enter func197,ntmps197;go_wp2_with fail;go_ret2;exact⟨rfl,rfl⟩
 have e:CC c=none:=by unfold CC;rw[if_neg (by simp[h1,h2]),if_neg h3,if_neg h4]
 rw[e];have q1:((c.toNat:Int)==92)=false:=by rw[beq_eq_false_iff_ne];exact λh=>h1 (k1.1 h)
 have q2:((c.toNat:Int)==34)=false:=by rw[beq_eq_false_iff_ne];exact λh=>h2 (k2.1 h)
 have q3:((c.toNat:Int)==110)=false:=by rw[beq_eq_false_iff_ne];exact λh=>h3 (k3.1 h)
 have q4:((c.toNat:Int)==116)=false:=by rw[beq_eq_false_iff_ne];exact λh=>h4 (k4.1 h)
 clear k1 k2 k3 k4 h1 h2 h3 h4 e;go_enter func197,ntmps197;go_wp2_with fail;go_ret2;exact⟨rfl,rfl⟩
theorem oO (x:ByteArray):x.toList=x.data.toList:=by cases x with|mk d=>cases d with|mk l=>exact lK l
theorem JZ (l:List UInt8)(k:Nat):hasName (k:Int)=true→nameOf (k:Int)=l→jx l=k:=by
 intro h1 h2;unfold hasName at h1;simp at h1;unfold nameOf at h2;rcases h1 with h|h|h|h|h|h<;>(rw[h]at h2 ⊢;simp at h2;subst h2;decide)
theorem J0 (l:List UInt8)(h:0≤jx l):hasName (jx l)=true∧nameOf (jx l)=l∧jx l<128:=by
 unfold jx at h ⊢;repeat' split
 all_goals first
  |(simp_all;done)
  |(subst_vars;decide)
theorem wU (s:ByteArray)(w:World):Calls prog 223 #[.string s] w λe w'=>e=.returned (.tuple #[.int .i64 ((rh s.data.toList).getD 0),.bool (rh s.data.toList).isSome])∧w'=w:=by
 have hc:Hid (∀k:Nat,hasName (k:Int)=true→nameOf (k:Int)=s.data.toList→rh s.data.toList=some (k:Int)):=λk h1 h2=>by
  have:=JZ _ k h1 h2;unfold rh;rw[this,if_pos (by omega)]
 have hn:Hid (0≤jx s.data.toList→hasName (jx s.data.toList)=true∧nameOf (jx s.data.toList)=s.data.toList∧jx s.data.toList<128):=J0 _;go_enter func223,ntmps223;go_wp2_with fail;go_loop [7] (λi=>∃k:Nat,k≤128∧i=.int .i64 k∧Hid (∀j:Nat,j<k→¬(hasName (j:Int)=true∧nameOf (j:Int)=s.data.toList))) (λi=>128-(intOf i).toNat)
 case atStart=>exact⟨0,by omega,rfl,λj hj=>by omega⟩
 case round=>
  obtain⟨k,hk,rfl,hr⟩:=hrel;by_cases hlt:k<128
  ·cases hb:hasName (k:Int)
   ·go_wp2_with fail;refine(gI _ _).mono ?_;rw[hb];rintro e w' ⟨rfl,rfl⟩;go_wp2_with fail
    go_round
    case rel=>exact⟨k+1,by omega,by go_num,λj hj h=>by
     by_cases e:j=k
     ·subst e;rw[hb]at h;cases h.1
     ·exact hr.out j (by omega) h⟩
    case measure=>simp[intOf];omega
   ·by_cases he:nameOf (k:Int)=s.data.toList
    ·have hq:=hc.out k hb he;have Ym:(nameOf (k:Int)==s.toList)=true:=by rw[oO,he,beq_iff_eq]
     go_wp2_with fail;refine(gI _ _).mono ?_;rw[hb];rintro e w' ⟨rfl,rfl⟩;go_wp2_with fail;go_ret2;refine⟨?_,rfl⟩;rw[hq];rfl
    ·have Ym:(nameOf (k:Int)==s.toList)=false:=by
      rw[oO,beq_eq_false_iff_ne];exact he
     go_wp2_with fail;refine(gI _ _).mono ?_;rw[hb];rintro e w' ⟨rfl,rfl⟩;go_wp2_with fail
     go_round
     case rel=>exact⟨k+1,by omega,by go_num,λj hj h=>by
      by_cases e:j=k
      ·subst e;exact he h.2
      ·exact hr.out j (by omega) h⟩
     case measure=>simp[intOf];omega
  ·have hq:rh s.data.toList=none:=by
    unfold rh;rw[if_neg];intro h;obtain⟨h1,h2,h3⟩:=hn.out h;obtain⟨m,hm⟩:=zbh h;rw[hm]at h1 h2 h3;exact hr.out m (by omega) ⟨h1,h2⟩
   have hq':Hid _:=hq;clear hq;go_wp2_with fail;go_ret2;refine⟨?_,rfl⟩;rw[hq'.out];rfl
theorem aS (n d:Int)(w:World):Calls prog 227 #[.int .i64 n,.int .i64 d] w λe w'=>e=.returned (.int .i64 (if 1000000<n∨1000000<d then 7 else if d=0 then 3 else 0))∧w'=w:=by
 go_enter func227,ntmps227
 go_wp2
 all_goals
  go_ret;refine⟨fC ?_,rfl⟩;simp_all;try omega
theorem CU (l:List UInt8)(c:UInt8)(n:Int):fI n (l++[c])=min (fI n l*10+((c.toNat:Int)-48)) 1000001:=by
 simp[fI]
theorem s9:∀(l:List UInt8) (n:Int),0≤n→n≤1000001→l.all (λc=>dO (c.toNat:Int))=true→0≤fI n l∧fI n l≤1000001
 |[],n,h1,h2,_=>⟨h1,h2⟩
 |c::r,n,h1,h2,h3=>by
  simp only[zax,zae]at h3;have hd:48≤(c.toNat:Int):=by have:=h3.1;unfold dO at this;simp at this;omega
  show 0≤fI (min (n*10+((c.toNat:Int)-48)) 1000001) r∧fI (min (n*10+((c.toNat:Int)-48)) 1000001) r≤1000001;exact s9 r _ (by omega) (by omega) h3.2
theorem aF (s:ByteArray)(w:World)(hs:s.size≤1000000)(hd:s.data.toList.all (λc=>dO (c.toNat:Int))=true):Calls prog 224 #[.string s] w λe w'=>e=.returned (.int .i64 (af s.data.toList))∧w'=w:=by
 have hdg:Hid (∀k (h:k<s.size),48≤(s[k].toNat :Int)∧(s[k].toNat :Int)≤57):=λk h=>by
  rw[zav]at hd;have:=hd s[k] (by exact zaC (l:=s.data.toList) (n:=k) h);unfold dO at this;simpa using this
 have qQ:Hid (∀k,0≤af (s.data.toList.take k)∧af (s.data.toList.take k)≤1000001):=λk=>s9 _ 0 (by omega) (by omega) (by
  rw[zav]at hd ⊢;exact λx hx=>hd x (List.mem_of_mem_take hx))
 clear hd;go_enter func224,ntmps224;go_wp2_with fail;go_loop [7,3] (λi n=>∃k:Nat,k≤s.size∧i=.int .i64 k∧n=.int .i64 (af (s.data.toList.take k))) (λi _=>s.size-(intOf i).toNat)
 case atStart=>exact⟨0,by omega,rfl,rfl⟩
 case round=>
  obtain⟨k,hk,rfl,rfl⟩:=hrel;by_cases hlt:k<s.size
  ·obtain⟨d1,d2⟩:=hdg.out k hlt;obtain⟨b1,b2⟩:=qQ.out k;have hst:Hid (af (s.data.toList.take (k+1))=min (af (s.data.toList.take k)*10+((s[k].toNat :Int)-48)) 1000001):=by
    show _=_;rw[JU s k hlt];exact CU _ _ 0
   generalize af (s.data.toList.take k)=m at *;generalize hx:(s[k].toNat :Int)=x at *;go_wp2_with fail
   go_round
   case rel=>exact⟨k+1,by omega,by go_num,by rw[hst.out];try (congr 1;omega)⟩
   case measure=>simp[intOf];omega
  ·have hf:Hid (s.data.toList.take k=s.data.toList):=NF s k (by omega);go_wp2_with fail;go_ret;refine⟨fC ?_,rfl⟩;rw[hf.out]
theorem oP:∀l:List UInt8,(Lib.indexByte l 47=-1∧pU l=none)∨∃k:Nat,Lib.indexByte l 47=(k:Int)∧k<l.length∧pU l=some (l.take k,l.drop (k+1))
 |[]=> .inl ⟨rfl,rfl⟩
 |c::r=>by
  unfold Lib.indexByte pU;by_cases hc:c=47
  ·subst hc;exact .inr ⟨0,by simp,by simp,by simp⟩
  ·have hc':(c==47)=false:=by simpa using hc
   have hn:¬c.toNat=47:=λh=>hc (by rw[←UInt8.toNat_inj];exact h);rw[hc',if_neg hn];simp only[zau,if_false];rcases oP r with⟨h1,h2⟩|⟨k,h1,h2,h3⟩
   ·left;rw[h1,h2];simp
   ·right;refine⟨k+1,?_,by simp;omega,?_⟩
    ·rw[h1];have:((k:Int)==-1)=false:=by rw[beq_eq_false_iff_ne];omega
     rw[this];simp
    ·rw[h3];simp
theorem AY (s:ByteArray)(w:World)(h:Lib.indexByte s.data.toList 47=-1):Calls prog 243 #[.string s,.string ⟨#[47]⟩] w λe w'=>e=.returned (.tuple #[.string s,.string ⟨#[]⟩,.bool false])∧∃n,w'=w.drewN n:=by
 go_enter func243,ntmps243;go_wp2_with (go_at_call 247;refine(Tryz.stringslite_Index_one _ _ _).mono ?_;rintro e w' ⟨rfl,rfl⟩;rw[h])
 go_ret3
 exact⟨rfl,0,rfl⟩
theorem CV (s:ByteArray)(k:Nat)(w:World)(h:Lib.indexByte s.data.toList 47=(k:Int))(hk:k<s.size)(hs:s.size≤1000000):Calls prog 243 #[.string s,.string ⟨#[47]⟩] w λe w'=>e=.returned (.tuple #[.string (s.extract 0 k),.string (s.extract (k+1) s.size),.bool true])∧∃n,w'=w.drewN n:=by
 have c1:(0:Int)≤↑k:=by omega
 have c2:(↑k:Int)≤↑s.size:=by omega
 have c3:(0:Int)≤↑k+1:=by omega
 have c4:(↑k+1:Int)≤↑s.size:=by omega
 have mixed:prog.follows Departure.mixedOrders=true:=by kernel_rfl
 go_enter func243,ntmps243;go_wp2_with (go_at_call 247;refine(Tryz.stringslite_Index_one _ _ _).mono ?_;rintro e w' ⟨rfl,rfl⟩;rw[h])
 go_region_o
 go_wp2
 go_ret3
 exact⟨rfl,1,rfl⟩
theorem dH (s:ByteArray)(w:World)(h:Lib.indexByte s.data.toList 47=-1):Calls prog 225 #[.string s,.string ⟨#[47]⟩] w λe w'=>e=.returned (.tuple #[.string s,.string ⟨#[]⟩,.bool false])∧∃n,w'=w.drewN n:=by
 go_enter func225,ntmps225;go_wp2_with (go_at_call 243;refine(AY _ _ h).mono ?_;rintro e w' ⟨rfl,n,rfl⟩)
 go_ret3
 exact⟨rfl,n,rfl⟩
theorem eW (s:ByteArray)(k:Nat)(w:World)(h:Lib.indexByte s.data.toList 47=(k:Int))(hk:k<s.size)(hs:s.size≤1000000):Calls prog 225 #[.string s,.string ⟨#[47]⟩] w λe w'=>e=.returned (.tuple #[.string (s.extract 0 k),.string (s.extract (k+1) s.size),.bool true])∧∃n,w'=w.drewN n:=by
 go_enter func225,ntmps225;go_wp2_with (go_at_call 243;refine(CV _ _ _ h hk hs).mono ?_;rintro e w' ⟨rfl,n,rfl⟩)
 go_ret3
 exact⟨rfl,n,rfl⟩
theorem aq (s:ByteArray)(w:World)(hs:s.size≤1000000):Calls prog 226 #[.string s] w λe w'=>e=.returned (.bool (aO s.data.toList))∧w'=w:=by
 have hr:Hid (decide (bI dO s.data.toList=s.data.toList.length)=s.data.toList.all (λc=>dO (c.toNat:Int))):=CB dO _;have hle:=i7 dO s.data.toList;rw[bA]at hle;by_cases h0:s.data.toList=[]
 ·have Jt:s.toList=[]:=by rw[oO,h0]
  have PR:(s.toList==[])=true:=by rw[Jt];rfl
  have hf:Hid (aO s.data.toList=false):=by show _=_;rw[h0];rfl
  clear h0;go_enter func226,ntmps226;go_wp2_with fail;all_goals
   go_ret;exact⟨az hf.out.symm,rfl⟩
 ·have Jt:¬s.toList=[]:=by rw[oO];exact h0
  have PR:(s.toList==[])=false:=by rw[beq_eq_false_iff_ne];exact Jt
  have hf:Hid (aO s.data.toList=decide ((bI dO s.data.toList:Int)=s.size)):=by
   show _=_;unfold aO;rw[←hr.out,bA];have:s.data.toList.isEmpty=false:=by simpa using h0
   rw[this,zar];simp;omega
  clear h0 hr;go_enter func226,ntmps226;go_wp2_with (go_at_call 148;refine(eV _ _ _ (by unfold maxLen;omega) (by omega) (by omega)).mono ?_;rintro e w' ⟨rfl,rfl⟩;simp only[Int.toNat_zero,zaA,Int.zero_add]);all_goals
   go_ret;refine⟨az ?_,rfl⟩;rw[hf.out];try (rw[zar];simp)
end Go.Proofs.YtlhimdjkkiflhaaGreatDoor
