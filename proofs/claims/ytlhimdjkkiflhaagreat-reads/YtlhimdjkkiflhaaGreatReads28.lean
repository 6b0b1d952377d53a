import Derived.Deep.DeepCutAuto
import Derived.Test.YtlhimdjkkiflhaaGreatReads24
set_option maxHeartbeats 8000000
set_option maxRecDepth 100000
open Go.Value renaming int→Γ
open Go.IntKind renaming i64→Δ
open Go.Lib renaming hasPrefix→Θ
open Go renaming World→Λ,Calls→Φ,Value→ζ
open Go.RowKit renaming intOf→Ξ
open ByteArray renaming mk→Ω
namespace Go.Proofs.YtlhimdjkkiflhaaGreat
open Go.Proofs.Tryz
open Go.RowKit Go.Loop
def aK (k f t:Int)(l:List UInt8)(n d:Int):ζ:= .agg #[.int .u8 k,Γ Δ f,Γ Δ t,.string ⟨⟨l⟩⟩,Γ Δ n,Γ Δ d]
section
attribute [local go_sem] ry A9 oU rB jg
theorem xM (l:List UInt8)(a:Nat)(w:Λ)(hs:l.length≤1000000)(ha:a≤1000000)(hm:bN l=false)(hne:l.isEmpty=false)(hd:(l==[46])=false):Φ prog 63 #[.string ⟨⟨l⟩⟩,Γ Δ a] w λe w'=>e=.returned (aK 119 a (a+l.length) l 0 0)∧Below w.heap.size w w':=by
 go_enter func63,ntmps63;go_wp2_with fail;refine(iF _ _ (by unfold maxLen;omega)).mono ?_;rw[hm];rintro e w' ⟨rfl,rfl⟩;go_wp2_with fail;exact zak (v:=aK 119 a (a+l.length) l 0 0) (by simp[results,results63,aK,go_sem]) rfl ⟨rfl,(zad _ _).alloc (zab _) _⟩
end
theorem Ad {W w1:Λ}(hb:Below W.heap.size W w1):(∀b o,b<W.heap.size→w1.cell? ⟨b,o,none⟩=W.cell? ⟨b,o,none⟩)∧(∀b o,b<W.heap.size→w1.frozen? ⟨b,o,none⟩=W.frozen? ⟨b,o,none⟩):=
 ⟨λb o h=>hb.cell (p:=⟨b,o,none⟩) h,λb o h=>hb.frozen (p:=⟨b,o,none⟩) h⟩
theorem Ae (s:ByteArray)(w:Λ):Φ prog 112 #[.string s] w λe w'=>e=.returned (Γ Δ (cW s.data.toList))∧w'=w:=C7 s.data.toList w
theorem J8 (l:List UInt8): -1≤cW l∧cW l≤127:=by
 unfold cW;repeat' split
 all_goals omega
theorem Np (w:Λ)(c:UInt8):(convert 162 9 (.slice (some ⟨w.heap.size,0,none⟩) 1 1)).run prog (w.alloc (.cells #[.int .u8 (c.toNat:Int)] 5))=.ok (.string ⟨⟨[c]⟩⟩) (w.alloc (.cells #[.int .u8 (c.toNat:Int)] 5)):=
 run_convert_bytes_back (P:=prog) _ _ _ _ ⟨w.heap.size,0,none⟩ 1 [c] underlying162 underlying5 underlying9 (λj hj=>by
  have:j=0:=by simpa using hj
  subst this;exact Λ.cell?_alloc_at _ _ _ _ rfl)
theorem QU (a b:List UInt8):(Ω (Array.mk a))++(Ω (Array.mk b))=⟨⟨a++b⟩⟩:=by
 apply ByteArray.ext;simp
theorem jk {w wr:Λ}{o:Obj}(h:Below (w.heap.size+1) (w.alloc o) wr)(a b c d e f:ζ):Below w.heap.size w ((((((wr.setCell ⟨w.heap.size,0,none⟩ a).setCell ⟨w.heap.size,1,none⟩ b).setCell ⟨w.heap.size,2,none⟩ c).setCell ⟨w.heap.size,3,none⟩ d).setCell ⟨w.heap.size,4,none⟩ e).setCell ⟨w.heap.size,5,none⟩ f):=by
 have h0:Below w.heap.size w wr:=((zad _ _).alloc (zab _) o).trans (h.mono (by omega));exact(((((h0.setCell (zab _) _).setCell (zab _) _).setCell (zab _) _).setCell (zab _) _).setCell (zab _) _).setCell (zab _) _
end Go.Proofs.YtlhimdjkkiflhaaGreat
namespace Go.Proofs.YtlhimdjkkiflhaaGreat
open Go.RowKit Go.Loop
theorem pq {w w1:Λ}{c:Array ζ}{t:TypeId}(hb:Below (w.alloc (.cells c t)).heap.size (w.alloc (.cells c t)) w1):(∀o,w1.cell? ⟨w.heap.size,o,none⟩=c[o]?)∧(∀o,w1.frozen? ⟨w.heap.size,o,none⟩=false)∧Below (w.heap.size+1) (w.alloc (.cells c t)) w1:=by
 refine⟨λo=>?_,λo=>?_,hb.mono (by simp)⟩
 ·rw[hb.cell (by simp),Λ.cell?_alloc_at _ _ _ _ rfl]
 ·rw[hb.frozen (by simp),Λ.frozen?_alloc_at _ _ _ _ rfl]
theorem r8 (s:ByteArray)(a b:Nat):(s.extract a b).data.toList=(s.data.toList.drop a).take (b-a):=by
 simp
theorem Ie (x:ByteArray):x.toList=x.data.toList:=by cases x with|mk d=>cases d with|mk l=>exact jg l
end Go.Proofs.YtlhimdjkkiflhaaGreat
namespace Go.Proofs.YtlhimdjkkiflhaaGreat
open Go.Proofs.Tryz
open Go.RowKit Go.Loop
theorem Nq (l:List UInt8)(x y:UInt8)(h:2≤l.length):(l.take 2==[x,y])=Θ l [x,y]:=by
 match l,h with
 |c::d::r,_=>
  rw[Ju,zbh];simp
theorem xQ (s:ByteArray)(x y:UInt8)(a:Nat)(w:Λ)(ha:a≤1000002):Φ prog 83 #[.string s,Γ Δ a,.string ⟨⟨[x,y]⟩⟩] w λe w'=>e=.returned (.bool (Θ (s.data.toList.drop a) [x,y]))∧w'=w:=by
 by_cases h:a+2≤s.size
 ·have hp:(Ω (Array.mk [x,y])).size=2:=rfl;have hl:2≤(s.data.toList.drop a).length:=by simp;omega
  have he:=Nq _ x y hl;go_enter func83,ntmps83;go_wp2_with fail;go_ret;refine⟨bE ?_,rfl⟩;rw[←he];rw[Ie,r8,show a+2-a=2 by omega]
 ·have hp:(Ω (Array.mk [x,y])).size=2:=rfl;have hf:Θ (s.data.toList.drop a) [x,y]=false:=by
   cases hq:Θ (s.data.toList.drop a) [x,y]with
   |false=>rfl
   |true=>have:=iG hq;simp at this;omega
  go_enter func83,ntmps83;go_wp2_with fail;go_ret;exact⟨rfl,rfl⟩
def fZ (l:List UInt8)(k x:Nat):Int:=if x=0 then(k:Int)else if(bf x (l.drop k)).2 then((k+(bf x (l.drop k)).1:Nat):Int)else -1
theorem Nr {l:List UInt8}{k x:Nat}(hx:0<x)(h:Θ (l.drop k) [35,124]=true):fZ l k x=fZ l (k+2) (x+1):=by
 unfold fZ;rw[zaa (show ¬x=0 by omega),zaa (show ¬x+1=0 by omega),oV h,zbe];split<;>simp<;>omega
theorem J9 {l:List UInt8}{k x:Nat}(hx:0<x)(h1:Θ (l.drop k) [35,124]=false)(h:Θ (l.drop k) [124,35]=true):fZ l k x=fZ l (k+2) (x-1):=by
 unfold fZ;rw[zaa (show ¬x=0 by omega),qj h1 h,zbe];by_cases h2:x≤1
 ·rw[zac h2,zac (show x-1=0 by omega)];simp
 ·rw[zaa h2,zaa (show ¬x-1=0 by omega)];split<;>simp<;>omega
theorem Ns {l:List UInt8}{k x:Nat}(hx:0<x)(h1:Θ (l.drop k) [35,124]=false)(h:Θ (l.drop k) [124,35]=false)(hk:k<l.length):fZ l k x=fZ l (k+1) x:=by
 unfold fZ;rw[zaa (show ¬x=0 by omega),zaa (show ¬x=0 by omega),tE h1 h (by intro e;have:=zal List.length e;simp at this;omega),zbe];split<;>simp<;>omega
theorem QV {l:List UInt8}{k x:Nat}(hx:0<x)(hk:l.length≤k):fZ l k x=-1:=by
 unfold fZ;rw[zaa (by omega),zaW hk];simp[bf]
theorem Nt {l:List UInt8}{k:Nat}:fZ l k 0=k:=by simp[fZ]
theorem Ka (s:ByteArray)(a:Nat)(w:Λ)(hs:s.size≤1000000)(ha:a+2≤s.size):Φ prog 84 #[.string s,Γ Δ a] w λe w'=>e=.returned (Γ Δ (fZ s.data.toList (a+2) 1))∧w'=w:=by
 have hsz:s.data.toList.length=s.size:=by simp
 go_enter func84,ntmps84;go_wp2_with fail;go_loop [1,5] (λi d=>∃k x:Nat,a+2≤k∧k≤s.size∧x≤k∧i=Γ Δ k∧d=Γ Δ x∧Hid (fZ s.data.toList (a+2) 1=fZ s.data.toList k x)) (λi _=>s.size-(Ξ i).toNat)
 case atStart=>exact⟨a+2,1,zab _,by omega,by omega,by go_num,rfl,rfl⟩
 case round=>
  obtain⟨k,x,Jt,hk,hx,rfl,rfl,hI⟩:=hrel;by_cases hx0:0<x
  ·have OL:Hid _:=xQ s 35 124 k;have DG:Hid _:=xQ s 124 35 k;have HC:Hid _:=@Nr s.data.toList k x hx0;have HD:Hid _:=@J9 s.data.toList k x hx0;have HE:Hid _:=@Ns s.data.toList k x hx0;have HF:Hid _:=@QV s.data.toList k x hx0;have HL:Hid (∀x y,Θ (s.data.toList.drop k) [x,y]=true→k+2≤s.size):=λx y h=>by
    have:=iG h;simp at this;omega
   go_wp2_with fail;refine zae (OL.out _ (by omega)) ?_;rintro e w' ⟨rfl,rfl⟩;go_wp2_with fail;refine zae (DG.out _ (by omega)) ?_;rintro e w' ⟨rfl,rfl⟩;by_cases hlt:k<s.size
   ·cases h1:Θ (s.data.toList.drop k) [35,124]
    ·cases h2:Θ (s.data.toList.drop k) [124,35]
     ·have hJ:Hid (fZ s.data.toList (a+2) 1=fZ s.data.toList (k+1) x):=hI.out.trans (HE.out h1 h2 (by omega));clear hI HC HD HE HF OL DG HL h1 h2;go_wp2_with fail
      go_round
      case rel=>exact⟨k+1,x,by omega,by omega,by omega,by go_num,rfl,hJ⟩
      case measure=>simp[Ξ];omega
     ·have hJ:Hid (fZ s.data.toList (a+2) 1=fZ s.data.toList (k+2) (x-1)):=hI.out.trans (HD.out h1 h2);have hl:=HL.out _ _ h2;clear hI HC HD HE HF OL DG HL h1 h2;go_wp2_with fail
      go_round
      case rel=>exact⟨k+2,x-1,by omega,by omega,by omega,by go_num,by go_num,hJ⟩
      case measure=>simp[Ξ];omega
    ·have hJ:Hid (fZ s.data.toList (a+2) 1=fZ s.data.toList (k+2) (x+1)):=hI.out.trans (HC.out h1);have hl:=HL.out _ _ h1;clear hI HC HD HE HF OL DG HL h1;go_wp2_with fail
     go_round
     case rel=>exact⟨k+2,x+1,by omega,by omega,by omega,by go_num,by go_num,hJ⟩
     case measure=>simp[Ξ];omega
   ·have hJ:Hid (fZ s.data.toList (a+2) 1=-1):=hI.out.trans (HF.out (by omega));clear hI HC HD HE HF OL DG HL;go_wp2_with fail;go_ret;exact⟨fD hJ.out.symm,rfl⟩
  ·obtain rfl:x=0:=by omega
   go_wp2_with fail;go_ret;refine⟨fD ?_,rfl⟩;rw[hI.out,Nt]
end Go.Proofs.YtlhimdjkkiflhaaGreat
namespace Go.Proofs.YtlhimdjkkiflhaaGreat
open Go.RowKit Go.Loop
theorem Nu:∀(n:Nat) (o:Nat) (l:List UInt8),l.length≤n→(bf o l).2=false→(bf o l).1=l.length:=by
 intro n
 induction n with
 |zero=>intro o l hl _;have:l=[]:=zcl.1 (by omega);subst this;simp[bf]
 |succ n ih=>
  intro o l hl h;by_cases h0:l=[]
  ·subst h0;simp[bf]
  cases h1:Θ l [35,124]with
  |true=>
   have hp:=iG h1;rw[oV h1]at h ⊢;have:=ih (o+1) (l.drop 2) (by simp;omega) h;simp only[this,zan];omega
  |false=>
   cases h2:Θ l [124,35]with
   |true=>
    have hp:=iG h2;rw[qj h1 h2]at h ⊢;by_cases ho:o≤1
    ·rw[zac ho]at h;cases h
    ·rw[zaa ho]at h ⊢;have:=ih (o-1) (l.drop 2) (by simp;omega) h;simp only[this,zan];omega
   |false=>
    rw[tE h1 h2 h0]at h ⊢;have hl0:0<l.length:=zbS.2 h0;have:=ih o (l.drop 1) (by simp;omega) h;simp only[this,zan];omega
def oz (l:List UInt8)(k:Nat):Nat×Bool:=(k+(sF true (l.drop k)).1,(sF true (l.drop k)).2)
section
variable {l:List UInt8}{k:Nat}{c:UInt8}{r:List UInt8}
theorem Nv (hd:l.drop k=c::r)(h:fY c=true):oz l k=oz l (k+1):=by
 have e:l.drop (k+1)=r:=by rw[←zbe,hd];rfl
 unfold oz;rw[hd,e,Db h];simp only[zah,zat];omega
theorem QW (hd:l.drop k=c::r)(h:fY c=false)(h2:c.toNat=59):oz l k=oz l (k+cU (l.drop k)):=by
 have hc:c≠10:=λe=>by subst e;cases h2
 have e:l.drop (k+(cU r+1))=r.drop (cU r):=by rw[←zbe,hd];rfl
 unfold oz;rw[hd,show cU (c::r)=cU r+1 by rw[cU,zaa hc],e,Hh h h2];simp only[zah,zat];omega
theorem QX (hd:l.drop k=c::r)(h:fY c=false)(h2:c.toNat≠59)(h3:Θ (l.drop k) [35,124]=true):(fZ l (k+2) 1<0→oz l k=(l.length,false))∧(0≤fZ l (k+2) 1→oz l k=oz l (fZ l (k+2) 1).toNat∧k+2≤(fZ l (k+2) 1).toNat∧(fZ l (k+2) 1).toNat≤l.length):=by
 have hh:gK (c::r)=true:=by rw[nV,←hd];exact h3
 have e0:bf 0 (c::r)=((bf 1 (l.drop (k+2))).1+2,(bf 1 (l.drop (k+2))).2):=by rw[←hd,oV h3,zbe]
 have hle:=iG h3;have hlen:(l.drop (k+2)).length=l.length-(k+2):=by simp
 have Up:k+2≤l.length:=by simp at hle;omega
 have hup:=wW 1 (l.drop (k+2));unfold oz fZ;rw[hd,Hi h h2 hh,e0,←hd,zbe];cases hf:(bf 1 (l.drop (k+2))).2 with
 |false=>
  have ha:=Nu _ 1 _ (zab _) hf;refine⟨λ_=>?_,λhx=>?_⟩
  ·rw[zaW (by omega),FL];simp only[zah,zat];omega
  ·simp at hx
 |true=>
  refine⟨λhx=>?_,λ_=>?_⟩
  ·simp at hx;omega
  ·simp only[if_true,Nat.reduceEqDiff,if_false,zbn];refine⟨?_,by omega,by omega⟩;rw[show k+((bf 1 (l.drop (k+2))).1+2)=k+2+(bf 1 (l.drop (k+2))).1 by omega];simp only[zah,zat];omega
theorem QY (hd:l.drop k=c::r)(h:fY c=false)(h2:c.toNat≠59)(h3:Θ (l.drop k) [35,124]=false):oz l k=(k,true):=by
 unfold oz;rw[hd]at h3 ⊢;rw[Hj h h2 (by rw[nV];exact h3)];rfl
theorem Uq (h:l.length≤k):oz l k=(k,true):=by
 unfold oz;rw[zaW h,FL];rfl
end
end Go.Proofs.YtlhimdjkkiflhaaGreat
namespace Go.Proofs.YtlhimdjkkiflhaaGreat
open Go.Proofs.Tryz
open Go.RowKit Go.Loop
theorem QZ {l:List UInt8}{k:Nat}{c:UInt8}{r:List UInt8}(hd:l.drop k=c::r):k+cU (l.drop k)=if c=10 then k else k+1+cU (l.drop (k+1)):=by
 have e:l.drop (k+1)=r:=by rw[←zbe,hd];rfl
 rw[hd,e,cU];split<;>omega
theorem Nw (s:ByteArray)(a:Nat)(w:Λ)(hs:s.size≤1000000)(ha:a≤s.size):Φ prog 59 #[.string s,Γ Δ a] w λe w'=>e=.returned (.tuple #[Γ Δ ((oz s.data.toList a).1:Nat),.bool (oz s.data.toList a).2])∧w'=w:=by
 have hsz:s.data.toList.length=s.size:=by simp
 go_enter func59,ntmps59;go_wp2_with fail;go_loop [1] (λi=>∃k:Nat,a≤k∧k≤s.size∧i=Γ Δ k∧Hid (oz s.data.toList a=oz s.data.toList k)) (λi=>s.size-(Ξ i).toNat)
 case atStart=>exact⟨a,zab _,ha,rfl,rfl⟩
 case round=>
  obtain⟨k,Jt,hk,rfl,hI⟩:=hrel;by_cases hlt:k<s.size
  ·have hd:Hid (s.data.toList.drop k=s[k]::s.data.toList.drop (k+1)):=drop_cons s k hlt;have hB:Hid _:=xQ s 35 124 k;go_wp2_with fail;refine zae (hB.out _ (by omega)) ?_;rintro e w' ⟨rfl,rfl⟩;clear hB;have hbl:=zI s[k];have HB:Hid (fY s[k]=true→oz s.data.toList a=oz s.data.toList (k+1)):=λh=>hI.out.trans (Nv hd.out h);have HL:Hid (fY s[k]=false→s[k].toNat=59→oz s.data.toList a=oz s.data.toList (k+cU (s.data.toList.drop k))):=λh h2=>hI.out.trans (QW hd.out h h2);have HC:Hid _:=λh h2 h3=>QX (l:=s.data.toList) (k:=k) hd.out h h2 h3;have HE:Hid (fY s[k]=false→s[k].toNat≠59→Θ (s.data.toList.drop k) [35,124]=false→oz s.data.toList a=(k,true)):=λh h2 h3=>hI.out.trans (QY hd.out h h2 h3);cases h32:((s[k].toNat :Int)==32)
   case' true=>have hJ:Hid _:=HB.out (by rw[←hbl];simp at h32 ⊢;omega)
   case' false=>cases h9:((s[k].toNat :Int)==9)
   case' false.true=>have hJ:Hid _:=HB.out (by rw[←hbl];simp at h9 ⊢;omega)
   case' false.false=>cases h10:((s[k].toNat :Int)==10)
   case' false.false.true=>have hJ:Hid _:=HB.out (by rw[←hbl];simp at h10 ⊢;omega)
   case' true|false.true|false.false.true=>
    clear HB HL HC HE hbl hd hI;go_wp2_with fail
    go_round
    case rel=>exact⟨k+1,by omega,by omega,by go_num,hJ⟩
    case measure=>simp[Ξ];omega
   have Ky:fY s[k]=false:=by rw[←hbl];simp at h32 h9 h10 ⊢;omega
   clear hbl HB;cases vq:((s[k].toNat :Int)==59)
   ·have Q0:s[k].toNat≠59:=by simp at vq;omega
    cases hp:Θ (s.data.toList.drop k) [35,124]
    ·have hJ:Hid _:=HE.out Ky Q0 hp;clear HL HC HE hd hI Ky Q0;go_wp2_with fail;go_ret2;rw[hJ.out];exact⟨rfl,rfl⟩
    ·have hg:k+2≤s.size:=by have:=iG hp;simp at this;omega
     have hK:Hid _:=HC.out Ky Q0 hp;have hR:Hid _:=Ka s k;clear HL HC HE hd Ky Q0;go_wp2_with fail;refine zae (hR.out _ hs hg) ?_;rintro e w1 ⟨rfl,rfl⟩;clear hR;by_cases Qw:fZ s.data.toList (k+2) 1<0
     ·have hJ:Hid (oz s.data.toList a=(s.data.toList.length,false)):=hI.out.trans (hK.out.1 Qw);clear hK hI;generalize fZ s.data.toList (k+2) 1=v at *;go_wp2_with fail;go_ret2;rw[hJ.out,hsz];exact⟨rfl,rfl⟩
     ·obtain⟨hJ1,hJ2,hJ3⟩:=hK.out.2 (by omega);have hJ:Hid (oz s.data.toList a=oz s.data.toList (fZ s.data.toList (k+2) 1).toNat):=hI.out.trans hJ1;clear hK hI hJ1;rw[hsz]at hJ3;obtain⟨v,hv⟩:=zbu (show 0≤fZ s.data.toList (k+2) 1 by omega);rw[hv]at hJ hJ2 hJ3 Qw ⊢;rw[zbn]at hJ hJ2 hJ3;clear hv;go_wp2_with fail
      go_round
      case rel=>exact⟨v,by omega,hJ3,rfl,hJ⟩
      case measure=>simp[Ξ];omega
   ·have hL:Hid _:=HL.out Ky (by simp at vq;omega);have adq:s[k]≠10:=λe=>by rw[e]at vq;simp at vq
    clear HL HC HE hI Ky;go_wp2_with fail;go_loop [1] (λi=>∃m:Nat,k≤m∧m≤s.size∧i=Γ Δ m∧Hid (k+cU (s.data.toList.drop k)=m+cU (s.data.toList.drop m))) (λi=>s.size-(Ξ i).toNat)
    case atStart=>exact⟨k,zab _,hk,rfl,rfl⟩
    case round=>
     obtain⟨m,Ur,hm,rfl,hM⟩:=hrel;by_cases Gg:m<s.size
     ·have hdm:Hid (s.data.toList.drop m=s[m]::s.data.toList.drop (m+1)):=drop_cons s m Gg;have hla:Hid _:=QZ hdm.out;cases hne:((s[m].toNat :Int) != 10)
      ·have Nx:s[m]=10:=by
        apply UInt8.toNat.inj;simp at hne;have:(10:UInt8).toNat=10:=rfl;omega
       have Qk:k<m:=by
        rcases Nat.lt_or_eq_of_le Ur with h|rfl
        ·exact h
        ·exact absurd Nx adq
       have hJ:Hid (oz s.data.toList a=oz s.data.toList m):=by
        have:=hM.out.trans (hla.out.trans (zac Nx));show _=_;rw[hL.out,this]
       clear hla hdm hM hL;go_wp2_with fail
       go_round
       case rel=>exact⟨m,by omega,by omega,rfl,hJ⟩
       case measure=>simp[Ξ];omega
      ·have Nx:s[m]≠10:=λe=>by rw[e]at hne;simp at hne
       have hJ:Hid (k+cU (s.data.toList.drop k)=m+1+cU (s.data.toList.drop (m+1))):=hM.out.trans (hla.out.trans (zaa Nx));clear hla hdm hM hL Nx;go_wp2_with fail
       go_round
       case rel=>exact⟨m+1,by omega,by omega,by go_num,hJ⟩
       case measure=>simp[Ξ];omega
     ·have Qk:k<m:=by omega
      have hJ:Hid (oz s.data.toList a=oz s.data.toList m):=by
       have:=hM.out;rw[zaW (show s.data.toList.length≤m by omega)]at this;show _=_;rw[hL.out,this];rfl
      clear hM hL;go_wp2_with fail
      go_round
      case rel=>exact⟨m,by omega,by omega,rfl,hJ⟩
      case measure=>simp[Ξ];omega
  ·have hJ:Hid _:=hI.out.trans (Uq (l:=s.data.toList) (show s.data.toList.length≤k by omega));clear hI;go_wp2_with fail;go_ret2;rw[hJ.out];exact⟨rfl,rfl⟩
def uA (r:RT):ζ:=aK r.k r.f r.t r.x r.n r.d
theorem Q1 {n:Int}{l:List UInt8}{k:Nat}{c:UInt8}{r:List UInt8}(hd:l.drop k=c::r)(h:aD (c.toNat:Int)=true):ij n l k=ij (min (n*10+((c.toNat:Int)-48)) 1000001) l (k+1):=by
 have e:l.drop (k+1)=r:=by rw[←zbe,hd];rfl
 unfold ij;rw[hd,e,au,zac h,zcn];simp only[cf,List.foldl_cons,zah,true_and];omega
theorem Q2 {n:Int}{l:List UInt8}{k:Nat}{c:UInt8}{r:List UInt8}(hd:l.drop k=c::r)(h:aD (c.toNat:Int)=false):ij n l k=(n,k):=by
 unfold ij;rw[hd,au,zaa (by rw[h];simp)];rfl
theorem Us {n:Int}{l:List UInt8}{k:Nat}(h:l.length≤k):ij n l k=(n,k):=by
 unfold ij;rw[zaW h];rfl
theorem Ec (s:ByteArray)(a:Nat)(w:Λ)(hs:s.size≤1000000)(ha:a≤s.size):Φ prog 86 #[.string s,Γ Δ a] w λe w'=>e=.returned (.tuple #[Γ Δ (ij 0 s.data.toList a).1,Γ Δ ((ij 0 s.data.toList a).2:Nat)])∧w'=w:=by
 have hsz:s.data.toList.length=s.size:=by simp
 go_enter func86,ntmps86;go_wp2_with fail;go_loop [1,6] (λi d=>∃(k n:Nat),a≤k∧k≤s.size∧n≤1000001∧i=Γ Δ k∧d=Γ Δ n∧Hid (ij 0 s.data.toList a=ij n s.data.toList k)) (λi _=>s.size-(Ξ i).toNat)
 case atStart=>exact⟨a,0,zab _,ha,by omega,rfl,rfl,rfl⟩
 case round=>
  obtain⟨k,n,Jt,hk,hn,rfl,rfl,hI⟩:=hrel;by_cases hlt:k<s.size
  ·have Pw:Hid (s.data.toList.drop k=s[k]::s.data.toList.drop (k+1)):=drop_cons s k hlt;cases hd:aD (s[k].toNat :Int)
   ·have hJ:Hid _:=hI.out.trans (Q2 Pw.out hd);clear hI Pw;go_wp2_with fail;refine(cI _ _).mono ?_;rw[hd];rintro e w' ⟨rfl,rfl⟩;go_wp2_with fail;go_ret2;rw[hJ.out];exact⟨rfl,rfl⟩
   ·have hb:48≤(s[k].toNat :Int)∧(s[k].toNat :Int)≤57:=by simpa[aD]using hd
    obtain⟨hb1,hb2⟩:=hb;have hJ:Hid _:=hI.out.trans (Q1 Pw.out hd);clear hI Pw;go_wp2_with fail;refine(cI _ _).mono ?_;rw[hd];rintro e w' ⟨rfl,rfl⟩;go_wp2_with fail
    ·go_round
     case rel=>exact⟨k+1,1000001,by omega,by omega,by omega,by go_num,by go_num,by show _=_;rw[hJ.out];congr 1;omega⟩
     case measure=>simp[Ξ];omega
    ·go_round
     case rel=>exact⟨k+1,(10*n+(s[k].toNat - 48)),by omega,by omega,by omega,by go_num,by go_num,by show _=_;rw[hJ.out];congr 1;omega⟩
     case measure=>simp[Ξ];omega
  ·have hJ:Hid _:=hI.out.trans (Us (n:=n) (l:=s.data.toList) (show s.data.toList.length≤k by omega));clear hI;go_wp2_with fail;go_ret2;rw[hJ.out];exact⟨rfl,rfl⟩
section
variable {l acc:List UInt8}{k:Nat}{c e:UInt8}{r:List UInt8}
theorem Ny (h:c=34):bU k acc (c::r)=.ok (k+1) acc:=by
 subst h;cases r<;>simp[bU]
theorem Q3 (h:c≠34):bU k acc [c]=.fin:=by simp[bU,h]
theorem Nz (h:c≠34)(h2:c≠92):bU k acc (c::r)=bU (k+1) (acc++[c]) r:=by
 cases r with
 |nil=>simp[bU,h]
 |cons d r=>simp[bU,h,h2]
theorem Q4 (he:wV e=none):bU k acc (92::e::r)=.bad:=by simp[bU,he]
theorem vA {b:UInt8}(he:wV e=some b):bU k acc (92::e::r)=bU (k+2) (acc++[b]) r:=by simp[bU,he]
end
theorem Af {c:UInt8}{n:Nat}(m:UInt8)(hm:m.toNat=n)(h:((c.toNat:Int)==n)=true):c=m:=by
 apply UInt8.toNat.inj;simp at h;omega
theorem Ag {c:UInt8}{n:Nat}(m:UInt8)(hm:m.toNat=n)(h:((c.toNat:Int)==n)=false):c≠m:=λe=>by
 subst e;simp at h;omega
theorem Ut (s:ByteArray)(a:Nat)(w:Λ)(hs:s.size≤1000000)(ha:a+1≤s.size):Φ prog 60 #[.string s,Γ Δ a] w λe w'=>e=.returned (uA (lJ s.data.toList a))∧Below w.heap.size w w':=by
 have hsz:s.data.toList.length=s.size:=by simp
 go_enter func60,ntmps60;go_wp2_with fail;go_loopw [5,6] (λo i wr=>∃(k:Nat) (l:List UInt8),a+1≤k∧k≤s.size∧i=Γ Δ k∧o=.string ⟨⟨l⟩⟩∧l.length≤k∧w.heap.size+1≤wr.heap.size∧Hid (bU (a+1) [] (s.data.toList.drop (a+1))=bU k l (s.data.toList.drop k))∧Hid (Below (w.heap.size+1) (w.alloc (.cells #[.int .u8 0,Γ Δ 0,Γ Δ 0,.string ⟨#[]⟩,Γ Δ 0,Γ Δ 0] 57)) wr)) (λ_ i _=>s.size-(Ξ i).toNat)
 case atStart=>exact⟨a+1,[],zab _,ha,by go_num,rfl,by simp,by simp,rfl,zad _ _⟩
 case round=>
  obtain⟨k,l,Jt,hk,rfl,rfl,hl,hz,hI,hb⟩:=hrel;have hcell:∀o,wr.cell? ⟨w.heap.size,o,none⟩=(#[.int .u8 0,Γ Δ 0,Γ Δ 0,.string ⟨#[]⟩,Γ Δ 0,Γ Δ 0]:Array ζ)[o]?:=by
   intro o;rw[hb.out.cell (by simp),Λ.cell?_alloc_at _ _ _ _ rfl]
  have EP:∀o,wr.frozen? ⟨w.heap.size,o,none⟩=false:=by
   intro o;rw[hb.out.frozen (by simp),Λ.frozen?_alloc_at _ _ _ _ rfl]
  have kc:=Np;have Zu:Hid (∀w:Λ,(convert 162 9 (.slice (some ⟨w.heap.size,0,none⟩) 1 1)).run prog (w.alloc (.cells #[.int .u8 10] 5))=.ok (.string ⟨⟨[10]⟩⟩) (w.alloc (.cells #[.int .u8 10] 5))):=λw=>Np w 10;have adr:Hid (∀w:Λ,(convert 162 9 (.slice (some ⟨w.heap.size,0,none⟩) 1 1)).run prog (w.alloc (.cells #[.int .u8 9] 5))=.ok (.string ⟨⟨[9]⟩⟩) (w.alloc (.cells #[.int .u8 9] 5))):=λw=>Np w 9;have ks:=QU;by_cases hlt:k<s.size
  ·have hd:Hid (s.data.toList.drop k=s[k]::s.data.toList.drop (k+1)):=drop_cons s k hlt;cases KH:((s[k].toNat :Int)==34)
   ·have n34:s[k]≠34:=Ag 34 rfl KH;cases Ms:((s[k].toNat :Int)==92)
    ·have n92:s[k]≠92:=Ag 92 rfl Ms;have hJ:Hid _:=hI.out.trans (hd.out▸Nz n34 n92);clear hI hd n34 n92;go_wp2_with fail;go_roundw
     case rel=>exact⟨k+1,l++[s[k]],by omega,by omega,by go_num,rfl,by simp;omega,by simp;omega,hJ,hb.out.alloc (by omega) _⟩
     case measure=>simp[Ξ];omega
    ·have Zv:s[k]=92:=Af 92 rfl Ms;by_cases rr:k+1<s.size
     ·have Ez:Hid (s.data.toList.drop (k+1)=s[k+1]::s.data.toList.drop (k+2)):=drop_cons s (k+1) rr;have Ex:Hid (bU (a+1) [] (s.data.toList.drop (a+1))=bU k l (92::s[k+1]::s.data.toList.drop (k+2))):=by
       show _=_;rw[hI.out,hd.out,Ez.out,Zv]
      clear hI hd Ez;cases Zv:((s[k+1].toNat :Int)==92)
      ·cases e34:((s[k+1].toNat :Int)==34)
       ·cases Zw:((s[k+1].toNat :Int)==110)
        ·cases Zx:((s[k+1].toNat :Int)==116)
         ·have hJ:Hid _:=Ex.out.trans (Q4 (by
           have q1:s[k+1]≠92:=Ag 92 rfl Zv;have q2:s[k+1]≠34:=Ag 34 rfl e34;have q3:s[k+1]≠110:=Ag 110 rfl Zw;have q4:s[k+1]≠116:=Ag 116 rfl Zx;simp[wV,q1,q2,q3,q4]))
          clear Ex;go_wp2_with fail;refine zak (by simp[results,results60,go_sem,hcell];rfl) rfl ?_;refine⟨?_,jk hb.out _ _ _ _ _ _⟩;unfold lJ;rw[hJ.out];rfl
         ·have kc9:=adr.out;have hJ:Hid _:=Ex.out.trans (vA (b:=9) (by rw[Af 116 rfl Zx];rfl));clear Ex;go_wp2_with fail;go_roundw
          case rel=>exact⟨k+2,l++[9],by omega,by omega,by go_num,rfl,by simp;omega,by simp;omega,hJ,hb.out.alloc (by omega) _⟩
          case measure=>simp[Ξ];omega
        ·have aez:=Zu.out;have hJ:Hid _:=Ex.out.trans (vA (b:=10) (by rw[Af 110 rfl Zw];rfl));clear Ex;go_wp2_with fail;go_roundw
         case rel=>exact⟨k+2,l++[10],by omega,by omega,by go_num,rfl,by simp;omega,by simp;omega,hJ,hb.out.alloc (by omega) _⟩
         case measure=>simp[Ξ];omega
       ·have hJ:Hid _:=Ex.out.trans (vA (b:=s[k+1]) (by rw[Af 34 rfl e34];rfl));clear Ex;go_wp2_with fail;go_roundw
        case rel=>exact⟨k+2,l++[s[k+1]],by omega,by omega,by go_num,rfl,by simp;omega,by simp;omega,hJ,hb.out.alloc (by omega) _⟩
        case measure=>simp[Ξ];omega
      ·have hJ:Hid _:=Ex.out.trans (vA (b:=s[k+1]) (by rw[Af 92 rfl Zv];rfl));clear Ex;go_wp2_with fail;go_roundw
       case rel=>exact⟨k+2,l++[s[k+1]],by omega,by omega,by go_num,rfl,by simp;omega,by simp;omega,hJ,hb.out.alloc (by omega) _⟩
       case measure=>simp[Ξ];omega
     ·have hJ:Hid (bU (a+1) [] (s.data.toList.drop (a+1))=bU (k+1) (l++[s[k]]) (s.data.toList.drop (k+1))):=by
       show _=_;rw[hI.out,hd.out,zaW (show s.data.toList.length≤k+1 by omega),Q3 n34];simp[bU]
      clear hI hd n34 Zv;go_wp2_with fail;go_roundw
      case rel=>exact⟨k+1,l++[s[k]],by omega,by omega,by go_num,rfl,by simp;omega,by simp;omega,hJ,hb.out.alloc (by omega) _⟩
      case measure=>simp[Ξ];omega
   ·have hJ:Hid _:=hI.out.trans (hd.out▸Ny (Af 34 rfl KH));clear hI hd;go_wp2_with fail;refine zak (by simp[results,results60,go_sem,hcell];rfl) rfl ?_;refine⟨?_,jk hb.out _ _ _ _ _ _⟩;unfold lJ;rw[hJ.out];first|rfl|simp[Bz,uA,aK]
  ·have hJ:Hid (bU (a+1) [] (s.data.toList.drop (a+1))=.fin):=by
    show _=_;rw[hI.out,zaW (show s.data.toList.length≤k by omega)];simp[bU]
   clear hI;go_wp2_with fail;refine zak (by simp[results,results60,go_sem,hcell];rfl) rfl ?_;refine⟨?_,jk hb.out _ _ _ _ _ _⟩;unfold lJ;rw[hJ.out];first|rfl|simp[Bz,OJ,uA,aK]
theorem xR {p:Int→Bool}{l:List UInt8}{k:Nat}{c:UInt8}{r:List UInt8}(hd:l.drop k=c::r)(h:p (c.toNat:Int)=true):k+au p (l.drop k)=k+1+au p (l.drop (k+1)):=by
 have e:l.drop (k+1)=r:=by rw[←zbe,hd];rfl
 rw[hd,e,au,zac h];omega
theorem xS {p:Int→Bool}{l:List UInt8}{k:Nat}{c:UInt8}{r:List UInt8}(hd:l.drop k=c::r)(h:p (c.toNat:Int)=false):k+au p (l.drop k)=k:=by
 rw[hd,au,zaa (by rw[h];simp)];rfl
theorem BP {p:Int→Bool}{l:List UInt8}{k:Nat}(h:l.length≤k):k+au p (l.drop k)=k:=by
 rw[zaW h];rfl
section
variable {l:List UInt8}{a k:Nat}
theorem Ig (h:a+2+au eL (l.drop (a+2))=k)(hk:a+3<k):(cW ((l.drop (a+2)).take (k-(a+2)))<0→en l a=vw a)∧(¬cW ((l.drop (a+2)).take (k-(a+2)))<0→en l a=⟨99,a,k,[],cW ((l.drop (a+2)).take (k-(a+2))),0⟩):=by
 have e:k-(a+2)=au eL (l.drop (a+2)):=by omega
 rw[e];unfold en o7;rw[zac (show 1<au eL (l.drop (a+2)) by omega)];refine⟨λh1=>by rw[zac h1],λh1=>by rw[zaa h1,h]⟩
theorem Uu (h:a+2+au eL (l.drop (a+2))=k)(hk:¬a+3<k)(hl:l.length≤a+2):en l a=vw a:=by
 unfold en o7;rw[zaa (by omega),zaW hl]
theorem Q5 {c:UInt8}{r:List UInt8}(h:a+2+au eL (l.drop (a+2))=k)(hk:¬a+3<k)(hd:l.drop (a+2)=c::r):(c.toNat<33∨126<c.toNat→en l a=vw a)∧(¬(c.toNat<33∨126<c.toNat)→en l a=⟨99,a,a+3,[],(c.toNat:Int),0⟩):=by
 unfold en o7;rw[zaa (by omega),hd];exact⟨λh1=>by dsimp only;rw[zac h1],λh1=>by dsimp only;rw[zaa h1]⟩
end
theorem Uv (s:ByteArray)(a:Nat)(w:Λ)(hs:s.size≤1000000)(ha:a+2≤s.size):Φ prog 85 #[.string s,Γ Δ a] w λe w'=>e=.returned (uA (en s.data.toList a))∧Below w.heap.size w w':=by
 have hsz:s.data.toList.length=s.size:=by simp
 go_enter func85,ntmps85;go_wp2_with fail;go_loop [5] (λi=>∃k:Nat,a+2≤k∧k≤s.size∧i=Γ Δ k∧Hid (a+2+au eL (s.data.toList.drop (a+2))=k+au eL (s.data.toList.drop k))) (λi=>s.size-(Ξ i).toNat)
 case atStart=>exact⟨a+2,zab _,ha,by go_num,rfl⟩
 case round=>
  obtain⟨k,Jt,hk,rfl,hI⟩:=hrel;by_cases jJ:∃h:k<s.size,eL (s[k].toNat :Int)=true
  ·obtain⟨hlt,hd⟩:=jJ;have hJ:Hid _:=hI.out.trans (xR (drop_cons s k hlt) hd);clear hI;go_wp2_with fail;refine(gB _ _).mono ?_;rw[hd];rintro e w' ⟨rfl,rfl⟩;go_wp2_with fail
   go_round
   case rel=>exact⟨k+1,by omega,by omega,by go_num,hJ⟩
   case measure=>simp[Ξ];omega
  ·have hK:Hid (a+2+au eL (s.data.toList.drop (a+2))=k):=by
    by_cases hlt:k<s.size
    ·have hd:eL (s[k].toNat :Int)=false:=by
      cases h:eL (s[k].toNat :Int)with
      |false=>rfl
      |true=>exact absurd ⟨hlt,h⟩ jJ
     exact hI.out.trans (xS (drop_cons s k hlt) hd)
    ·exact hI.out.trans (BP (by omega))
   clear hI;have Hf:=J8 ((s.data.toList.drop (a+2)).take (k-(a+2)));have hex:(s.extract (a+2) k).data.toList=(s.data.toList.drop (a+2)).take (k-(a+2)):=r8 s (a+2) k;have lD:(a+3<k∧cW ((s.data.toList.drop (a+2)).take (k-(a+2)))<0∧Hid (en s.data.toList a=vw a))∨(a+3<k∧¬cW ((s.data.toList.drop (a+2)).take (k-(a+2)))<0∧Hid (en s.data.toList a=⟨99,a,k,[],cW ((s.data.toList.drop (a+2)).take (k-(a+2))),0⟩))∨(¬a+3<k∧¬a+2<s.size∧Hid (en s.data.toList a=vw a))∨(¬a+3<k∧∃h:a+2<s.size,(s[a+2].toNat :Int)<33∧Hid (en s.data.toList a=vw a))∨(¬a+3<k∧∃h:a+2<s.size,¬(s[a+2].toNat :Int)<33∧126<(s[a+2].toNat :Int)∧Hid (en s.data.toList a=vw a))∨(¬a+3<k∧∃h:a+2<s.size,¬(s[a+2].toNat :Int)<33∧¬126<(s[a+2].toNat :Int)∧Hid (en s.data.toList a=⟨99,a,a+3,[],(s[a+2].toNat :Int),0⟩)):=by
    by_cases h3:a+3<k
    ·by_cases hc:cW ((s.data.toList.drop (a+2)).take (k-(a+2)))<0
     ·exact .inl ⟨h3,hc,(Ig hK.out h3).1 hc⟩
     ·exact .inr (.inl ⟨h3,hc,(Ig hK.out h3).2 hc⟩)
    ·right;right;by_cases hl:a+2<s.size
     ·have hb:=Q5 hK.out h3 (drop_cons s (a+2) hl);by_cases V1:(s[a+2].toNat :Int)<33
      ·exact .inr (.inl ⟨h3,hl,V1,hb.1 (by omega)⟩)
      ·by_cases Q6:126<(s[a+2].toNat :Int)
       ·exact .inr (.inr (.inl ⟨h3,hl,V1,Q6,hb.1 (by omega)⟩))
       ·exact .inr (.inr (.inr ⟨h3,hl,V1,Q6,hb.2 (by omega)⟩))
     ·exact .inl ⟨h3,hl,Uu hK.out h3 (by omega)⟩
   clear hK;by_cases hlt:k<s.size
   case' pos=>
    have hd:eL (s[k].toNat :Int)=false:=by
     cases h:eL (s[k].toNat :Int)with
     |false=>rfl
     |true=>exact absurd ⟨hlt,h⟩ jJ
    clear jJ;go_wp2_with fail;refine(gB _ _).mono ?_;rw[hd];rintro e w' ⟨rfl,rfl⟩;clear hd
   case' neg=>clear jJ
   all_goals
    rcases lD with⟨h3,hc,hJ⟩|⟨h3,hc,hJ⟩|⟨h3,hc,hJ⟩|⟨h3,hl,V1,hJ⟩|⟨h3,hl,V1,Q6,hJ⟩|⟨h3,hl,V1,Q6,hJ⟩
    ·go_wp2_with (go_at_call 112;refine(Ae _ _).mono ?_;rw[hex];rintro e w' ⟨rfl,rfl⟩);refine zak (by simp[results,results85,go_sem];rfl) rfl ?_;exact⟨by rw[hJ.out];rfl,(zad _ _).alloc (zab _) _⟩
    ·go_wp2_with (go_at_call 112;refine(Ae _ _).mono ?_;rw[hex];rintro e w' ⟨rfl,rfl⟩);refine zak (by simp[results,results85,go_sem];rfl) rfl ?_;exact⟨by rw[hJ.out];rfl,(zad _ _).alloc (zab _) _⟩
    all_goals
     go_wp2_with fail;all_goals
      refine zak (by simp[results,results85,go_sem];rfl) rfl ?_;exact⟨by rw[hJ.out];rfl,(zad _ _).alloc (zab _) _⟩
theorem mg:∀(l:List UInt8) (n:Int),n≤1000001→cf n l≤1000001
 |[],n,h=>h
 |c::l,n,h=>mg l _ (by show min (n*10+((c.toNat:Int)-48)) 1000001≤1000001;omega)
theorem xT (l:List UInt8)(k:Nat)(hk:k≤l.length):0≤(ij 0 l k).1∧(ij 0 l k).1≤1000001∧k≤(ij 0 l k).2∧(ij 0 l k).2≤l.length:=by
 have h1:=xH aD (l.drop k);rw[zan]at h1;exact⟨kx _ 0 (Int.le_refl _) (rR _),mg _ 0 (by decide),Nat.le_add_right _ _,by show k+au aD (l.drop k)≤_;omega⟩
theorem xU (l:List UInt8)(a:Int)(w:Λ)(hs:l.length≤1000000)(h0:0≤a)(ha:a≤l.length){n:Int}{k:Nat}(e:ij 0 l a.toNat=(n,k)):Φ prog 86 #[.string ⟨⟨l⟩⟩,Γ Δ a] w λe w'=>e=.returned (.tuple #[Γ Δ n,Γ Δ (k:Nat)])∧w'=w:=by
 obtain⟨m,rfl⟩:=zbu h0;have h:=Ec ⟨⟨l⟩⟩ m w hs (show m≤l.length by omega);rw[show(Ω (Array.mk l)).data.toList=l from rfl]at h;rw[zbn]at e;rw[e]at h;exact h
section
variable {l:List UInt8}{a i k e:Nat}{n d:Int}{neg:Bool}
theorem Uw (h:ij 0 l i=(n,k))(hk:k=l.length):kQ l a neg i=⟨110,a,a+l.length,[],if neg then -n else n,1⟩:=by
 unfold kQ;rw[h];rw[zac hk]
theorem Gh (h:ij 0 l i=(n,k))(hk:k≠l.length)(h2:ij 0 l (k+1)=(d,e)){c:UInt8}(hc:l[k]?=some c)(hb:c.toNat≠47∨e≠l.length∨e=k+1):kQ l a neg i=vw a:=by
 unfold kQ;rw[h];dsimp only;rw[zaa hk,h2,hc];rw[zac (by exact hb)]
theorem Zy (h:ij 0 l i=(n,k))(hk:k≠l.length)(h2:ij 0 l (k+1)=(d,e)){c:UInt8}(hc:l[k]?=some c)(hb:¬(c.toNat≠47∨e≠l.length∨e=k+1)):kQ l a neg i=⟨110,a,a+l.length,[],if neg then -n else n,d⟩:=by
 unfold kQ;rw[h];dsimp only;rw[zaa hk,h2,hc];rw[zaa (by exact hb)]
end
section
attribute [local go_sem] ry A9 oU rB jg
theorem Ux (l:List UInt8)(a:Nat)(w:Λ)(hs:l.length≤1000000)(ha:a≤1000000):Φ prog 63 #[.string ⟨⟨l⟩⟩,Γ Δ a] w λe w'=>e=.returned (uA (fj l a))∧Below w.heap.size w w':=by
 cases hne:l.isEmpty
 ·cases hd:(l==[46])
  ·have Ol:l≠[]:=λe=>by rw[e]at hne;cases hne
   have Tt:l≠[46]:=λe=>by rw[e]at hd;cases hd
   cases hm:bN l
   ·refine(xM l a w hs ha hm hne hd).mono ?_;rintro e w' ⟨rfl,hb⟩;refine⟨?_,hb⟩;unfold fj;rw[zaa Ol,zaa Tt,zac hm];rfl
   ·obtain⟨c,r,rfl⟩:∃c r,l=c::r:=by cases l with|nil=>simp at hne|cons c r=>exact⟨c,r,rfl⟩
    have hsz:(Ω (Array.mk (c::r))).size=r.length+1:=rfl;have hlen:(c::r).length=r.length+1:=rfl;have hR:Hid (fj (c::r) a=kQ (c::r) a (decide (c.toNat=45)) (if c.toNat=43∨c.toNat=45 then 1 else 0)):=by
     show _=_;unfold fj;rw[zaa Ol,zaa Tt,hm,zaa (by decide)];rfl
    simp at hs;go_enter func63,ntmps63;go_wp2_with fail;refine(iF _ _ (by unfold maxLen;simp;omega)).mono ?_;rw[hm];rintro e w' ⟨rfl,rfl⟩;have h3:(((c.toNat:Int)==43)=true∧((c.toNat:Int)==45)=false∧Hid (fj (c::r) a=kQ (c::r) a false 1))∨(((c.toNat:Int)==43)=false∧((c.toNat:Int)==45)=true∧Hid (fj (c::r) a=kQ (c::r) a true 1))∨(((c.toNat:Int)==43)=false∧((c.toNat:Int)==45)=false∧Hid (fj (c::r) a=kQ (c::r) a false 0)):=by
     by_cases q:c.toNat=45
     ·refine .inr (.inl ⟨by simp;omega,by simp;omega,?_⟩);have:=hR.out;rw[show decide (c.toNat=45)=true by simpa using q,zac (.inr q)]at this;exact this
     ·by_cases q2:c.toNat=43
      ·refine .inl ⟨by simp;omega,by simp;omega,?_⟩;have:=hR.out;rw[show decide (c.toNat=45)=false by simpa using q,zac (.inl q2)]at this;exact this
      ·refine .inr (.inr ⟨by simp;omega,by simp;omega,?_⟩);have:=hR.out;rw[show decide (c.toNat=45)=false by simpa using q,zaa (by omega)]at this;exact this
    clear hR;rcases h3 with⟨KF,FN,hJ⟩|⟨KF,FN,hJ⟩|⟨KF,FN,hJ⟩
    case' inl=>obtain⟨⟨n,k⟩,Jx⟩:∃p,ij 0 (c::r) 1=p:=⟨_,rfl⟩
    case' inl=>have qW:=xT (c::r) 1 (by simp)
    case' inr.inl=>obtain⟨⟨n,k⟩,Jx⟩:∃p,ij 0 (c::r) 1=p:=⟨_,rfl⟩
    case' inr.inl=>have qW:=xT (c::r) 1 (by simp)
    case' inr.inr=>obtain⟨⟨n,k⟩,Jx⟩:∃p,ij 0 (c::r) 0=p:=⟨_,rfl⟩
    case' inr.inr=>have qW:=xT (c::r) 0 (by simp)
    all_goals
     rw[Jx,hlen]at qW;obtain⟨b1,b2,b3,b4⟩:=qW;dsimp only at b1 b2 b3 b4;have Ih:Hid _:=Jx;clear Jx;go_wp2_with fail;refine(xU _ _ _ (by simp;omega) (by omega) (by simp;try omega) Ih.out).mono ?_;rintro e w1 ⟨rfl,rfl⟩;by_cases he:k=r.length+1
     ·have hkb:((k:Int)==(r.length:Int)+1)=true:=by simp;omega
      have hT:Hid _:=hJ.out.trans (Uw Ih.out he);clear he Ih hJ;go_wp2_with fail;refine zak (by simp[results,results63,go_sem];rfl) rfl ?_;exact⟨by rw[hT.out];simp[uA,aK],((zad _ _).alloc (zab _) _).alloc (by simp) _⟩
     ·have hkb:((k:Int)==(r.length:Int)+1)=false:=by simp;omega
      have Up:k<r.length+1:=by omega
      obtain⟨⟨d,e⟩,Ez⟩:∃p,ij 0 (c::r) (k+1)=p:=⟨_,rfl⟩;have Zz:=xT (c::r) (k+1) (by simp;omega);rw[Ez,hlen]at Zz;obtain⟨f1,f2,f3,f4⟩:=Zz;dsimp only at f1 f2 f3 f4;have MG:Hid _:=Ez;clear Ez;go_wp2_with fail;refine(xU _ _ _ (by simp;omega) (by omega) (by simp;try omega) MG.out).mono ?_;rintro e w1 ⟨rfl,rfl⟩;have hkc:k<(c::r).length:=by simp;omega
      have Cj:(c::r)[k]?=some (c::r)[k]:=zaP hkc;have lD:((((c::r)[k].toNat :Int) != 47)=true∧Hid (fj (c::r) a=vw a))∨((((c::r)[k].toNat :Int) != 47)=false∧((e:Int) != (r.length:Int)+1)=true∧Hid (fj (c::r) a=vw a))∨((((c::r)[k].toNat :Int) != 47)=false∧((e:Int) != (r.length:Int)+1)=false∧((e:Int)==(k:Int)+1)=true∧Hid (fj (c::r) a=vw a))∨((((c::r)[k].toNat :Int) != 47)=false∧((e:Int) != (r.length:Int)+1)=false∧((e:Int)==(k:Int)+1)=false∧Hid (¬((c::r)[k].toNat≠47∨e≠(c::r).length∨e=k+1))):=by
       have CP:k≠(c::r).length:=by rw[hlen];exact he
       by_cases q1:(c::r)[k].toNat≠47
       ·exact .inl ⟨by simp;omega,hJ.out.trans (Gh Ih.out CP MG.out Cj (.inl q1))⟩
       ·have z1:(((c::r)[k].toNat :Int) != 47)=false:=by simp;omega
        by_cases q2:e≠r.length+1
        ·exact .inr (.inl ⟨z1,by simp;omega,hJ.out.trans (Gh Ih.out CP MG.out Cj (.inr (.inl q2)))⟩)
        ·have z2:((e:Int) != (r.length:Int)+1)=false:=by simp;omega
         by_cases q3:e=k+1
         ·exact .inr (.inr (.inl ⟨z1,z2,by simp;omega,hJ.out.trans (Gh Ih.out CP MG.out Cj (.inr (.inr q3)))⟩))
         ·exact .inr (.inr (.inr ⟨z1,z2,by simp;omega,λq=>q.elim q1 λq=>q.elim q2 q3⟩))
      have HK:Hid (k≠(c::r).length):=by show _≠_;rw[hlen];exact he
      have HG:Hid _:=Cj;clear Cj he;rcases lD with⟨z1,hT⟩|⟨z1,z2,hT⟩|⟨z1,z2,z3,hT⟩|⟨z1,z2,z3,hC⟩
      all_goals
       go_wp2_with fail;all_goals
        refine zak (by simp[results,results63,go_sem];rfl) rfl ?_;refine⟨?_,((zad _ _).alloc (zab _) _).alloc (by simp) _⟩;first
        |(rw[hT.out];simp[uA,aK,vw])
        |(rw[hJ.out,Zy Ih.out HK.out MG.out HG.out hC.out];simp[uA,aK])
  ·have hl:l=[46]:=by simpa using hd
   subst hl;go_enter func63,ntmps63;go_wp2_with fail;refine(iF _ _ (by decide)).mono ?_;rintro e w' ⟨rfl,rfl⟩;go_wp2_with fail;exact zak (v:=aK 46 a (a+1) [] 0 0) (by simp[results,results63,aK,go_sem]) rfl ⟨rfl,(zad _ _).alloc (zab _) _⟩
 ·have hl:l=[]:=by simpa using hne
  subst hl;go_enter func63,ntmps63;go_wp2_with fail;refine(iF _ _ (by decide)).mono ?_;rintro e w' ⟨rfl,rfl⟩;go_wp2_with fail;exact zak (v:=aK 120 a 0 [] 0 0) (by simp[results,results63,aK,go_sem]) rfl ⟨rfl,(zad _ _).alloc (zab _) _⟩
end
end Go.Proofs.YtlhimdjkkiflhaaGreat
