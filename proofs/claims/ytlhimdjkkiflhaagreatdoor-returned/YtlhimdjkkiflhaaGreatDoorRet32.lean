import Derived.Conc.LeavingOf
import Derived.Deep.DeepHandedRow
import Derived.Lib.LaidTab
import Derived.ChangeShapes
import Derived.WideShapes
import Derived.OpenShut
import Derived.SevenTiedAt
import Derived.Test.YtlhimdjkkiflhaaGreatDoorRet24
import Derived.Test.YtlhimdjkkiflhaaGreatDoorRet28
import Derived.Test.YtlhimdjkkiflhaaGreatDoorRet31
set_option maxHeartbeats 8000000
set_option maxRecDepth 100000
open Go.Value renaming int→Γ
open Go.IntKind renaming i64→Δ
open Go renaming undef→Θ,Value→Φ,World→Ω,Frame→ζ,execOp→η,Calls→υ,maxLen→φ
open Option renaming getD→Λ
open Go.Departure renaming mixedOrders→Ξ
open List renaming range→θ
open Go.Act renaming eval→ι,put→ξ
open Array renaming replicate→π
namespace Go.Ren
open Go Go.Conc Go.ConcX Go.RowKit Go.Proofs Go.Loop Go.Proofs.YtlhimdjkkiflhaaGreatDoor
theorem Pow.ki {w w':Ω}(h:Pow w)(hb:aq w w'):Pow w':=by
 have hb':Below w.heap.size w { w with heap:=w'.heap }:=⟨rfl,rfl,rfl,hb.1,hb.2⟩;have:=Pow.on h hb';unfold YtlhimdjkkiflhaaGreatDoor.Pow Lib.TabIs Ω.var? at this ⊢;exact this
theorem _root_.Go.Proofs.YtlhimdjkkiflhaaGreatDoor.bK.qP {w w':Ω}{b o:Nat}{G:List Nd}(h:bK w b o G)(e:w'.heap=w.heap):bK w' b o G:=λi hi=>by
 have hc:∀a,w'.cell? a=w.cell? a:=λa=>by unfold Ω.cell?;rw[e]
 have hn:=h i hi;refine⟨by rw[hc];exact hn.kind,by rw[hc];exact hn.text,by rw[hc];exact hn.n,by rw[hc];exact hn.d,by rw[hc];exact hn.subs,?_,hn.abH,hn.abI⟩;rcases hn.ints with h0|⟨b1,o1,e1,h1⟩
 ·exact .inl h0
 ·exact .inr ⟨b1,o1,e1,λj hj=>by rw[hc];exact h1 j hj⟩
end Go.Ren
namespace Go.Ren
open Go.Proofs.Tryz
open Go Go.Conc Go.ConcX Go.RowKit Go.Proofs Go.Loop Go.Proofs.YtlhimdjkkiflhaaGreatDoor
def c20 (f:Func):Code:=f.body.getD .skip
def UX (f:Func):Code:=Ren.cj (c20 f)
def S5 (f:Func):Array Oper:=Ren.bz (Ren.cj (Ren.bM (c20 f)))
def MU (f:Func):Code:=Ren.bM (Ren.bM (c20 f))
theorem QE:prog.funcs[20]?=some f20:=by kernel_rfl
theorem Zw:f20.body=some (.seq (UX f20) (.seq (.region 1 (S5 f20) false) (MU f20))):=by kernel_rfl
theorem ad7:f20.ntmps=73:=by kernel_rfl
theorem t73:(#[]++π (73-(#[]:Array Φ).size) Θ:Array Φ)=#[Θ,Θ,Θ,Θ,Θ,Θ,Θ,Θ,Θ,Θ,Θ,Θ,Θ,Θ,Θ,Θ,Θ,Θ,Θ,Θ,Θ,Θ,Θ,Θ,Θ,Θ,Θ,Θ,Θ,Θ,Θ,Θ,Θ,Θ,Θ,Θ,Θ,Θ,Θ,Θ,Θ,Θ,Θ,Θ,Θ,Θ,Θ,Θ,Θ,Θ,Θ,Θ,Θ,Θ,Θ,Θ,Θ,Θ,Θ,Θ,Θ,Θ,Θ,Θ,Θ,Θ,Θ,Θ,Θ,Θ,Θ,Θ,Θ]:=by
 generalize Θ=u;simp[π,List.replicate]
theorem UY:ζ.enter prog 20 #[] .normal=(base 20).at ⟨#[Θ,Θ,Θ,Θ,Θ,Θ,Θ,Θ,Θ,Θ,Θ,Θ,Θ,Θ,Θ,Θ,Θ,Θ,Θ,Θ,Θ,Θ,Θ,Θ,Θ,Θ,Θ,Θ,Θ,Θ,Θ,Θ,Θ,Θ,Θ,Θ,Θ,Θ,Θ,Θ,Θ,Θ,Θ,Θ,Θ,Θ,Θ,Θ,Θ,Θ,Θ,Θ,Θ,Θ,Θ,Θ,Θ,Θ,Θ,Θ,Θ,Θ,Θ,Θ,Θ,Θ,Θ,Θ,Θ,Θ,Θ,Θ,Θ],[]⟩ [.code (.seq (UX f20) (.seq (.region 1 (S5 f20) false) (MU f20)))]:=by
 rw[enter_at _ QE Zw,ad7,t73]
theorem abR:bB prog Fz Sz (UX f20)=true:=by kernel_rfl
theorem abS:bB prog Fz Sz (MU f20)=true:=by kernel_rfl
theorem XE:(S5 f20).size=8:=by kernel_rfl
def Zx (f:Func)(i:Nat):Oper:=(S5 f)[i]!
theorem Zy:(S5 f20)[0]?=some (Zx f20 0):=by kernel_rfl
theorem Zz:(Zx f20 0).op=.call { callee:= .value (.func 18),args:=#[.const (.string ⟨⟨[35,55,61,40,97,32,46,32,35,55,35,41,32,98]⟩⟩),.const (Γ Δ 5)],argTypes:=#[9,3] }:=by kernel_rfl
theorem ZA:(Zx f20 0).guard=none:=by kernel_rfl
theorem ZB:((S5 f20)[0]?).bind (·.dst)=some 7:=by kernel_rfl
theorem abT:([1,2,3,4,5,6,7].all λi=>((S5 f20)[i]?).all λo=>fo prog Fz Sz o.op)=true:=by kernel_rfl
theorem MV:(prog.funcs[18]?).any (λfn=>fn.body.isSome)=true:=by kernel_rfl
theorem MW:(prog.funcs[18]?).any (λfn=>fn.name != "runtime.NumGoroutine")=true:=by kernel_rfl
theorem abU:f20.results=#[.tmp 0]:=by kernel_rfl
theorem Gl:∀t∈aw (o7.length+1) o7 0,t.kind≠5∧t.kind≠4:=by decide +kernel
theorem aa.ad8 {Ψ:dn}{cs:List ζ}{w:Ω}{b:ζ}{a:Act}{ops:Array Oper}{i:Nat}{rest:List Nat}{kk:List Item}{s:List UInt8}{dep:Int}(dh:∀dp:Nat,dep=dp→dp≤30→s.length≤400→mA s dp){d:Tmp}(hd:(ops[i]?).bind (·.dst)=some d){a':Φ→Act}(ha:∀v,a.put (some d) v=a' v)(h:∀v w',sV s dep w v w'→aa prog Sz Ψ (b.at (a' v) (.inRegion ops rest::kk)) cs w'):aa prog Sz Ψ (ζ.enter prog 18 #[.string ⟨⟨s⟩⟩,Γ Δ dep] .normal) (b.at a (.inRegion ops (i::rest)::kk)::cs) w:=
 aa.top dh λv w' h1=>by rw[hd,ha];exact h v w' h1
section
variable {Ψ:dn}{cs:List ζ}{w:Ω}{b:ζ}{a:Act}{ops:Array Oper}{i:Nat}{rest:List Nat}{kk:List Item}
theorem aa.ZC (hp:Pow w)(h:∀w',aq w w'→qL prog Sz Ψ cs (.bool true) w'):aa prog Sz Ψ (ζ.enter prog 20 #[] .normal) cs w:=by
 have mixed:prog.follows Ξ=true:=by kernel_rfl
 have HH:Hid _:=h;have HP:Hid (Pow w):=hp;clear h hp;rw[UY];refine aa.seq ?_;refine aa.code dS abR rfl ⟨_,QE⟩ rfl λτ d=>?_;have jb:Hid (aq w (w.re τ d)):=⟨zac _,λ_ _=>rfl⟩;generalize w.re τ d=w1 at *;generalize eF:([.code (.seq (.region 1 (S5 f20) false) (MU f20))]:List Item)=kq;dsimp only[UX,c20,Ren.cj,f20,Λ];go_wp2_with fail;subst eF;show aa _ _ _ _ _ _;refine aa.seq ?_;refine aa.region ?_;rw[XE,show θ 8=[0,1,2,3,4,5,6,7] from rfl];refine aa.lY (f:=18) (xs:=#[.const (.string ⟨⟨[35,55,61,40,97,32,46,32,35,55,35,41,32,98]⟩⟩),.const (Γ Δ 5)]) (ats:=#[9,3]) (args:=#[.string ⟨⟨o7⟩⟩,Γ Δ 5]) Zy ZA (by decide) Zz MV MW (by simp[gD,jl]) (by simp[ι,o7]) ?_;refine aa.ad8 (λdp hd qz _=>by
  obtain rfl:dp=5:=by omega
  exact⟨λd s' hr=>Jc Jd d s' hr,UH Gl⟩) ZB (a':=λv=>⟨#[.bool false,Θ,Θ,Θ,Θ,Θ,Θ,v,Θ,Θ,Θ,Θ,Θ,Θ,Θ,Θ,Θ,Θ,Θ,Θ,Θ,Θ,Θ,Θ,Θ,Θ,Θ,Θ,Θ,Θ,Θ,Θ,Θ,Θ,Θ,Θ,Θ,Θ,Θ,Θ,Θ,Θ,Θ,Θ,Θ,Θ,Θ,Θ,Θ,Θ,Θ,Θ,Θ,Θ,Θ,Θ,Θ,Θ,Θ,Θ,Θ,Θ,Θ,Θ,Θ,Θ,Θ,Θ,Θ,Θ,Θ,Θ,Θ],[]⟩) (λv=>by simp[ξ]) λv w2 gC=>?_
 obtain⟨hb2,nodes,at_,e,nv,bN,hr,rfl,hn⟩:=gC;rw[show cS o7 5=some (gl,12,0) from Je]at hr;simp only[zaE,zaf]at hr;obtain⟨rfl,rfl,rfl⟩:=hr;obtain⟨bb,cap,sb,so,sc,G,rfl,m0,m4,m5,s0,s1,hG,ZE,hwr⟩:=MT hn;clear hn;have iB:Hid (aq w w2):=jb.out.trans hb2;clear jb hb2;refine aa.ops dS rfl ⟨_,QE⟩ rfl abT 1 ((S5 f20).toList.drop 1) (by rw[zau,zbL,XE];rfl) (λj=>by rw[zbM,zbz]) λlq d'=>?_;have iT:Hid (aq w (w2.re lq d')):=aq.heap iB.out rfl;have HG3:Hid (bK (w2.re lq d') bb 0 G):=bK.qP hG rfl;have HM3:Hid ((w2.re lq d').cell? ⟨bb,0,none⟩=some (Γ Δ 1)∧(w2.re lq d').cell? ⟨bb,4,none⟩=some (.slice (some ⟨sb,so,none⟩) 2 sc)∧(w2.re lq d').cell? ⟨bb,5,none⟩=some (Γ Δ 4)∧(w2.re lq d').cell? ⟨sb,so,none⟩=some (Γ Δ 1)∧(w2.re lq d').cell? ⟨sb,so+1,none⟩=some (Γ Δ 0)):=⟨m0,m4,m5,s0,s1⟩;clear m0 m4 m5 s0 s1 hG iB;generalize w2.re lq d'=w3 at *;generalize eF:([.code (MU f20)]:List Item)=kq;dsimp only[S5,c20,Ren.bz,Ren.cj,Ren.bM,f20,Λ];simp only[zbC,zbu];go_wp2_with fail;subst eF;show aa _ _ _ _ _ _;refine aa.code dS abS rfl ⟨_,QE⟩ rfl λτ d=>?_;have qJ:Hid (aq w (w3.re τ d)):=aq.heap iT.out rfl;have HG4:Hid (bK (w3.re τ d) bb 0 G):=bK.qP HG3.out rfl;have HM4:Hid ((w3.re τ d).cell? ⟨bb,0,none⟩=some (Γ Δ 1)∧(w3.re τ d).cell? ⟨bb,4,none⟩=some (.slice (some ⟨sb,so,none⟩) 2 sc)∧(w3.re τ d).cell? ⟨bb,5,none⟩=some (Γ Δ 4)∧(w3.re τ d).cell? ⟨sb,so,none⟩=some (Γ Δ 1)∧(w3.re τ d).cell? ⟨sb,so+1,none⟩=some (Γ Δ 0)):=HM3.out;clear iT HG3 HM3;generalize w3.re τ d=w4 at *;obtain⟨m0,m4,m5,s0,s1⟩:=HM4.out;have HW:Hid _:=s9 G bb 0 cap 2 403 (zac _) w4 (by rw[ZE];unfold φ;omega) HG4.out (Pow.ki HP.out qJ.out);rw[ZE,hwr]at HW;clear HG4 ZE hwr;dsimp only[MU,c20,Ren.cj,Ren.bM,f20,Λ];go_wp2_with fail;refine zai HW.out ?_;rintro e w5 ⟨rfl,j8⟩;have rN:Hid (aq w w5):=qJ.out.trans (aq.of j8);have n4:=cd j8 m4;have r0:=cd j8 s0;have r1:=cd j8 s1;clear j8 m0 m4 m5 s0 s1 HM4 HW qJ;unfold zb;go_wp2_with fail;show ∀todo,aa _ _ _ _ _ _;intro todo;refine aa.yR rfl rfl QE (results_tmp abU _ _ _) ?_;exact HH.out _ (aq.heap rN.out rfl)
theorem aa.awake (hp:Pow w)(h:∀w',aq w w'→aa prog Sz Ψ (b.at (a.put ((ops[i]?).bind (·.dst)) (.bool true)) (.inRegion ops rest::kk)) cs w'):aa prog Sz Ψ (ζ.enter prog 20 #[] .normal) (b.at a (.inRegion ops (i::rest)::kk)::cs) w:=
 aa.ZC hp λw' hp=>qL.of dS (h w' hp)
end
def kj:Code→Code
 |.cond _ x _=>x
 |c=>c
def qR (f:Func):Nat→Code
 |0=>f.body.getD .skip
 |n+1=>Ren.bM (qR f n)
def pR (f:Func)(n:Nat):Code:=Ren.cj (qR f n)
def tR (f:Func)(n:Nat):Code:=kj (Ren.bM (pR f n))
def oR (f:Func)(n:Nat):Array Oper:=Ren.bz (Ren.cj (tR f n))
def rR (f:Func)(n:Nat):Code:=Ren.bM (tR f n)
theorem Nl {s:List UInt8}(h:s.length≤400)(dp:Nat):mA s dp:=⟨λd s' hr=>tj h dp d s' hr,Y2 _ _⟩
theorem fp.qP {w w':Ω}{a:Option Addr}{l:List eO}(h:fp w a l)(e:w'.heap=w.heap):fp w' a l:=by
 cases w;cases w';cases e;exact h
theorem fp.ki {w w':Ω}{a:Option Addr}{l:List eO}(h:fp w a l)(hb:aq w w'):fp w' a l:=
 fp.qP (h.low (w':={ w with heap:=w'.heap }) ⟨rfl,rfl,rfl,hb.1,hb.2⟩) rfl
theorem aq.eq {w w':Ω}(e:w'.heap=w.heap):aq w w':=⟨by rw[e];exact zac _,λr _=>by rw[e]⟩
def GK (w:Ω)(nv:Φ)(l:List eO):Prop:=∃b cap G,nv=.slice (some ⟨b,0,none⟩) l.length cap∧G.length=l.length∧bK w b 0 G∧G.map gP=l.map aV∧fp w (some ⟨b,0,none⟩) l
theorem GK.ki {w w':Ω}{nv:Φ}{l:List eO}(h:GK w nv l)(hb:aq w w'):GK w' nv l:=by
 obtain⟨b,cap,G,e,hl,hG,hm,ho⟩:=h;exact⟨b,cap,G,e,hl,(hG.below (w':={ w with heap:=w'.heap }) ⟨rfl,rfl,rfl,hb.1,hb.2⟩).qP rfl,hm,fp.ki ho hb⟩
theorem Vj {x:eO}(h:pc x=true):x.subs.length≤20:=by
 unfold pc at h;repeat' split at h
 all_goals simp at h
 all_goals first|omega|simp[h]
theorem GK.of {w:Ω}{lo:Nat}{nv:Φ}{bN:List Φ}{l:List eO}(h:b9 w lo nv bN l)(hr:gp l)(ht:∀x∈l,x.text.length≤405):GK w nv l:=by
 obtain⟨b,cap,e,hl,hG,hm⟩:=za h (zbT.1 hr.1) λx hx=>by
  have h1:=Vj (hr.2.2 x hx).1;have h2:=ht x hx;unfold φ;omega
 obtain⟨a,c,e2,ho⟩:=nI h;rw[e2]at e;simp only[Φ.slice.injEq]at e;obtain⟨rfl,_,rfl⟩:=e;exact⟨b,c,_,e2,hl,hG,hm,ho⟩
theorem uM {l:List eO}(hl:gp l){mode:Int}(hm:0≤mode∧mode≤2){s:List UInt8}(hw:bJ (l.map aV) mode 403=(s,0)){w w':Ω}{v:Φ}(hp:sV s 30 w v w'){aA:Option Addr}(cA:Nat)(hA:fp w aA l)(st:Bool)(hst:st=true→mode=2):aq w w'∧∃aB nB cB,∃(at_:Nat) (e:Int) (is:Bool),v=.tuple #[.slice aB nB cB,Γ Δ at_,Γ Δ e]∧(e=0∧at_=s.length∧is=true∨e=6∧is=false∨e=2∧is=false)∧∀w'':Ω,w''.heap=w'.heap→υ prog 22 #[.slice aA l.length cA,.slice aB nB cB,.bool st] w'' λe w3=>e=.returned (.bool is)∧aq w'' w3:=by
 obtain⟨hb,nodes,at_,e,nv,bN,hr,rfl,hn⟩:=hp;obtain⟨aB,cB,rfl,hB⟩:=nI hn;rcases JA hl hm hw with⟨a,h⟩|h|⟨H,R,h,hne,ZX,h0,h1⟩
 ·rw[hr]at h;simp only[zaE,zaf]at h;obtain⟨rfl,rfl,rfl⟩:=h;exact⟨hb,aB,_,cB,_,_,false,rfl,.inr (.inl ⟨rfl,rfl⟩),λw'' _=>(Cf aA aB l.length cA cB st w'' hl.1).mono λe w3 h=>⟨h.1,h.2▸aq.eq rfl⟩⟩
 ·rw[hr]at h;simp only[zaE,zaf]at h;obtain⟨rfl,rfl,rfl⟩:=h;exact⟨hb,aB,_,cB,_,_,false,rfl,.inr (.inr ⟨rfl,rfl⟩),λw'' _=>(Cf aA aB l.length cA cB st w'' hl.1).mono λe w3 h=>⟨h.1,h.2▸aq.eq rfl⟩⟩
 ·rw[hr]at h;simp only[zaE,zaf]at h;obtain⟨rfl,rfl,rfl⟩:=h;have hrl:=vz hr hne;refine⟨hb,aB,_,cB,_,_,true,rfl,.inl ⟨rfl,rfl,rfl⟩,λw'' e=>?_⟩;exact(KY cA cB (Rq hl hrl.2.1 (fp.qP (fp.ki hA hb) e) (fp.qP hB e) ZX λh=>h1 (hst h)) h0 hl.2.1 hrl.2.1).mono λe w3 h=>⟨h.1,aq.of h.2⟩
def fR (L S E T F U G:Φ)(v:Nat→Φ):Act:=⟨#[L,v 1,.bool false,S,E,T,F,U,G,v 9,v 10,v 11,v 12,v 13,v 14,v 15,v 16,v 17,v 18,v 19,v 20,v 21,v 22,v 23,v 24,v 25,v 26,v 27,v 28,v 29,v 30,v 31,v 32,v 33,v 34,v 35,v 36,v 37,v 38,v 39,v 40,v 41,v 42,v 43,v 44,v 45,v 46,v 47,v 48,v 49,v 50,v 51,v 52,v 53,v 54,v 55,v 56,v 57,v 58,v 59,v 60,v 61,v 62,v 63,v 64,v 65,v 66,v 67,v 68,v 69,v 70,v 71,v 72,v 73,v 74,v 75,v 76,v 77,v 78,v 79,v 80,v 81,v 82,v 83,v 84,v 85,v 86,v 87,v 88,v 89,v 90,v 91,v 92,v 93,v 94,v 95,v 96,v 97,v 98,v 99,v 100,v 101,v 102,v 103,v 104,v 105,v 106,v 107,v 108,v 109,v 110,v 111,v 112,v 113,v 114,v 115,v 116,v 117,v 118,v 119,v 120,v 121,v 122,v 123,v 124,v 125,v 126,v 127,v 128,v 129,v 130,v 131,v 132,v 133,v 134,v 135,v 136,v 137,v 138,v 139,v 140,v 141,v 142,v 143,v 144,v 145,v 146,v 147,v 148,v 149,v 150,v 151,v 152,v 153,v 154,v 155,v 156,v 157,v 158,v 159,v 160,v 161,v 162,v 163,v 164],[]⟩
theorem px:prog.funcs[23]?=some f23:=by kernel_rfl
theorem aeh:f23.ntmps=165:=by kernel_rfl
theorem acf:f23.results=#[.tmp 2]:=by kernel_rfl
theorem ZY:f23.body=some (.seq (pR f23 0) (.seq (pR f23 1) (.seq (pR f23 2) (.seq (pR f23 3) (.seq (pR f23 4) (.seq (pR f23 5) (.seq (pR f23 6) (.seq (pR f23 7) (qR f23 8))))))))):=by kernel_rfl
theorem RI:([0,1,2,3,7].all λn=>bB prog Fz Sz (pR f23 n))=true:=by kernel_rfl
theorem acg:bB prog Fz Sz (qR f23 8)=true:=by kernel_rfl
theorem Cg:([4,5,6].all λn=>bB prog Fz Sz (Ren.cj (pR f23 n))&&bB prog Fz Sz (rR f23 n))=true:=by kernel_rfl
theorem Ci (n:Nat)(h:n=4∨n=5∨n=6):(oR f23 n).size=9:=by rcases h with rfl|rfl|rfl<;>kernel_rfl
theorem RJ (n:Nat)(h:n=4∨n=5∨n=6):([2,3,4,5,6,7,8].all λi=>((oR f23 n)[i]?).all λo=>fo prog Fz Sz o.op)=true:=by rcases h with rfl|rfl|rfl<;>kernel_rfl
structure p5 (l:Array Oper) (i d:Nat) (op:Op):Prop where
 a:l[i]?=some l[i]!
 o:(l[i]!).op=op
 s:(l[i]!).dst=some d
 g:(l[i]!).guard=none
theorem p5.k {l:Array Oper}{i d:Nat}{op:Op}(h:(l[i]?).map (λo=>(o.dst,o.op,o.guard))=some (some d,op,none)):p5 l i d op:=by
 cases e:l[i]? with
 |none=>simp[e]at h
 |some o=>
  simp[e]at h;have:l[i]! =o:=by simp[getElem!_def,e]
  exact⟨by rw[e,this],by rw[this,h.2.1],by rw[this,h.1],by rw[this,h.2.2]⟩
theorem p5.d {l:Array Oper}{i d:Nat}{op:Op}(h:p5 l i d op):(l[i]?).bind (·.dst)=some d:=by rw[h.a];exact h.s
theorem ach:pR f23 4=.seq (Ren.cj (pR f23 4)) (.cond (.tmp 37) (.seq (.region 5 (oR f23 4) false) (rR f23 4)) .skip):=by kernel_rfl
theorem afI:p5 (oR f23 4) 0 39 (.move (.tmp 3)):=p5.k (by kernel_rfl)
theorem afJ:p5 (oR f23 4) 1 40 (.call { callee:= .value (.func 18),args:=#[.tmp 39,.const (Γ Δ 30)],argTypes:=#[9,3] }):=p5.k (by kernel_rfl)
theorem aci:pR f23 5=.seq (Ren.cj (pR f23 5)) (.cond (.tmp 72) (.seq (.region 10 (oR f23 5) false) (rR f23 5)) .skip):=by kernel_rfl
theorem afK:p5 (oR f23 5) 0 74 (.move (.tmp 5)):=p5.k (by kernel_rfl)
theorem afL:p5 (oR f23 5) 1 75 (.call { callee:= .value (.func 18),args:=#[.tmp 74,.const (Γ Δ 30)],argTypes:=#[9,3] }):=p5.k (by kernel_rfl)
theorem acj:pR f23 6=.seq (Ren.cj (pR f23 6)) (.cond (.tmp 107) (.seq (.region 15 (oR f23 6) false) (rR f23 6)) .skip):=by kernel_rfl
theorem afM:p5 (oR f23 6) 0 109 (.move (.tmp 7)):=p5.k (by kernel_rfl)
theorem afN:p5 (oR f23 6) 1 110 (.call { callee:= .value (.func 18),args:=#[.tmp 109,.const (Γ Δ 30)],argTypes:=#[9,3] }):=p5.k (by kernel_rfl)
theorem aa.Si {Ψ:dn}{cs:List ζ}{w:Ω}{b:ζ}{a:Act}{ops:Array Oper}{i:Nat}{rest:List Nat}{kk:List Item}{s:List UInt8}{dep:Int}{d:Tmp}(hd:(ops[i]?).bind (·.dst)=some d)(h:∀v w',sV s dep w v w'→aa prog Sz Ψ (b.at (a.put (some d) v) (.inRegion ops rest::kk)) cs w'):aa prog Sz Ψ (ζ.enter prog 18 #[.string ⟨⟨s⟩⟩,Γ Δ dep] .normal) (b.at a (.inRegion ops (i::rest)::kk)::cs) w:=
 aa.top (λdp _ _ h4=>Nl h4 dp) λv w' h1=>by rw[hd];exact h v w' h1
theorem aa.S8 {Ψ:dn}{b:ζ}{a:Act}{cs:List ζ}{w:Ω}{ops:Array Oper}{i:Nat}{rest:List Nat}{o:Oper}{kk:List Item}(ho:ops[i]?=some o)(hw:o.guard=none)(hk:b.kind≠.early)(cG:fo prog Fz Sz o.op=true)(v:Φ)(hx:∀w':Ω,w'.heap=w.heap→(η a.eval o).run prog w'=.ok (.value v) w'){d:Tmp}(hd:o.dst=some d){a':Act}(ha:a.put (some d) v=a')
 (h:aa prog Sz Ψ (b.at a' (.inRegion ops rest::kk)) cs w):aa prog Sz Ψ (b.at a (.inRegion ops (i::rest)::kk)) cs w:=by
 subst ha;refine aa.JU dS cG ho (by simp[Region.wanted,hw]) hk λτ dd=>⟨v,w.re τ dd,hx _ rfl,?_⟩;rw[hd];exact h.re rfl
section
variable {Ψ:dn}{cs:List ζ}{w:Ω}
theorem aa.asR {a:Act}{kk:List Item}{L S E T F U G:Φ}(e:a=fR L S E T F U G λi=>a.tmps.getD i Θ)(h:∀v,aa prog Sz Ψ ((base 23).at (fR L S E T F U G v) kk) cs w):aa prog Sz Ψ ((base 23).at a kk) cs w:=by
 rw[e];exact h _
theorem aa.aei {l:List eO}{aA:Option Addr}{cA:Nat}{s t u:List UInt8}{e f g:Int}{v:Nat→Φ}{kk:List Item}(hl:gp l)(hW:bJ (l.map aV) 2 403=(s,e))(hA:fp w aA l)
 (h:∀w' v,aq w w'→aa prog Sz Ψ ((base 23).at (fR (.slice aA l.length cA) (.string ⟨⟨s⟩⟩) (Γ Δ e) (.string ⟨⟨t⟩⟩) (Γ Δ f) (.string ⟨⟨u⟩⟩) (Γ Δ g) v) kk) cs w'):aa prog Sz Ψ ((base 23).at (fR (.slice aA l.length cA) (.string ⟨⟨s⟩⟩) (Γ Δ e) (.string ⟨⟨t⟩⟩) (Γ Δ f) (.string ⟨⟨u⟩⟩) (Γ Δ g) v) (.code (pR f23 4)::kk)) cs w:=by
 have mixed:prog.follows Ξ=true:=by kernel_rfl
 have HH:Hid _:=h;have HA:Hid (fp w aA l):=hA;have HL:Hid (gp l):=hl;have HW:Hid _:=hW;clear h hA hl hW;unfold fR;rw[ach];refine aa.seq ?_;refine aa.code dS (zbV.1 (zaC.1 Cg 4 (by simp))).1 rfl ⟨_,px⟩ rfl λτ d=>?_;have jb:Hid (aq w (w.re τ d)):=aq.eq rfl;generalize w.re τ d=w1 at *;generalize eF:(.code (.cond (.tmp 37) (.seq (.region 5 (oR f23 4) false) (rR f23 4)) .skip)::kk:List Item)=kq;dsimp only[pR,qR,kj,Ren.bz,Ren.cj,Ren.bM,f23,Λ];by_cases he:e=0
 ·subst he;go_wp2_with fail;subst eF;show aa _ _ _ _ _ _;refine aa.cond (t:=true) rfl ?_;refine aa.seq (aa.region ?_);rw[Ci 4 (by omega),show θ 9=[0,1,2,3,4,5,6,7,8] from rfl];refine aa.S8 afI.a afI.g (by decide) (by kernel_rfl) (.string ⟨⟨s⟩⟩) (λw' _=>by simp only[η,afI.o];rfl) afI.s rfl ?_;refine aa.lY (f:=18) (xs:=#[.tmp 39,.const (Γ Δ 30)]) (ats:=#[9,3]) (args:=#[.string ⟨⟨s⟩⟩,Γ Δ 30]) afJ.a afJ.g (by decide) afJ.o MV MW (by simp[gD,jl]) (by simp[ι,ξ]) ?_;refine aa.Si afJ.d λvr w2 gC=>?_;obtain⟨hb2,aB,nB,cB,at_,e2,is,rfl,lA,vA⟩:=uM HL.out ⟨by omega,by omega⟩ HW.out gC cA (fp.ki HA.out jb.out) true (λh=>by rfl);have iB:Hid (aq w w2):=jb.out.trans hb2;have HS:Hid _:=vA;clear hb2 vA jb gC HL HA HW;refine aa.ops dS rfl ⟨_,px⟩ rfl (RJ 4 (by omega)) 2 ((oR f23 4).toList.drop 2) (by rw[zau,zbL,Ci 4 (by omega)];rfl) (λj=>by rw[zbM,zbz]) λlq d'=>?_;have iT:Hid (aq w (w2.re lq d')):=aq.heap iB.out rfl;have SV:Hid (∀w'':Ω,w''.heap=(w2.re lq d').heap→υ prog 22 #[.slice aA l.length cA,.slice aB nB cB,.bool true] w'' λe w3=>e=.returned (.bool is)∧aq w'' w3):=HS.out;clear iB HS;generalize w2.re lq d'=w3 at *;generalize eF:(.code (rR f23 4)::kk:List Item)=kq;dsimp only[oR,tR,pR,qR,kj,Ren.bz,Ren.cj,Ren.bM,f23,Λ];simp only[zbC,zbu];go_wp2_with fail;subst eF;show aa _ _ _ _ _ _;refine aa.code dS (zbV.1 (zaC.1 Cg 4 (by simp))).2 rfl ⟨_,px⟩ rfl λτ d=>?_;have qJ:Hid (aq w (w3.re τ d)):=aq.heap iT.out rfl;have HC:Hid _:=SV.out (w3.re τ d) rfl;clear iT SV;generalize w3.re τ d=w4 at *;generalize eF:kk=kq;dsimp only[rR,tR,pR,qR,kj,Ren.bz,Ren.cj,Ren.bM,f23,Λ];go_wp2_with fail;refine zai HC.out ?_;rintro e5 w5 ⟨rfl,j8⟩;have rN:Hid (aq w w5):=qJ.out.trans j8;clear qJ HC j8;rcases lA with⟨rfl,rfl,rfl⟩|⟨rfl,rfl⟩|⟨rfl,rfl⟩
  all_goals
   go_wp2_with fail;subst eF;show aa _ _ _ _ _ _;exact aa.asR (by kernel_rfl) λv=>HH.out _ v (aq.heap rN.out rfl)
 ·have TQ:(e==0)=false:=by simpa using he
  go_wp2_with fail;subst eF;show aa _ _ _ _ _ _;refine aa.cond (t:=false) rfl (aa.skip ?_);exact aa.asR (by kernel_rfl) λv=>HH.out _ v jb.out
theorem aa.aej {l:List eO}{aA:Option Addr}{cA:Nat}{s t u:List UInt8}{e f g:Int}{v:Nat→Φ}{kk:List Item}(hl:gp l)(hW:bJ (l.map aV) 1 403=(t,f))(hA:fp w aA l)
 (h:∀w' v,aq w w'→aa prog Sz Ψ ((base 23).at (fR (.slice aA l.length cA) (.string ⟨⟨s⟩⟩) (Γ Δ e) (.string ⟨⟨t⟩⟩) (Γ Δ f) (.string ⟨⟨u⟩⟩) (Γ Δ g) v) kk) cs w'):aa prog Sz Ψ ((base 23).at (fR (.slice aA l.length cA) (.string ⟨⟨s⟩⟩) (Γ Δ e) (.string ⟨⟨t⟩⟩) (Γ Δ f) (.string ⟨⟨u⟩⟩) (Γ Δ g) v) (.code (pR f23 5)::kk)) cs w:=by
 have mixed:prog.follows Ξ=true:=by kernel_rfl
 have HH:Hid _:=h;have HA:Hid (fp w aA l):=hA;have HL:Hid (gp l):=hl;have HW:Hid _:=hW;clear h hA hl hW;unfold fR;rw[aci];refine aa.seq ?_;refine aa.code dS (zbV.1 (zaC.1 Cg 5 (by simp))).1 rfl ⟨_,px⟩ rfl λτ d=>?_;have jb:Hid (aq w (w.re τ d)):=aq.eq rfl;generalize w.re τ d=w1 at *;generalize eF:(.code (.cond (.tmp 72) (.seq (.region 10 (oR f23 5) false) (rR f23 5)) .skip)::kk:List Item)=kq;dsimp only[pR,qR,kj,Ren.bz,Ren.cj,Ren.bM,f23,Λ];by_cases he:f=0
 ·subst he;go_wp2_with fail;subst eF;show aa _ _ _ _ _ _;refine aa.cond (t:=true) rfl ?_;refine aa.seq (aa.region ?_);rw[Ci 5 (by omega),show θ 9=[0,1,2,3,4,5,6,7,8] from rfl];refine aa.S8 afK.a afK.g (by decide) (by kernel_rfl) (.string ⟨⟨t⟩⟩) (λw' _=>by simp only[η,afK.o];rfl) afK.s rfl ?_;refine aa.lY (f:=18) (xs:=#[.tmp 74,.const (Γ Δ 30)]) (ats:=#[9,3]) (args:=#[.string ⟨⟨t⟩⟩,Γ Δ 30]) afL.a afL.g (by decide) afL.o MV MW (by simp[gD,jl]) (by simp[ι,ξ]) ?_;refine aa.Si afL.d λvr w2 gC=>?_;obtain⟨hb2,aB,nB,cB,at_,e2,is,rfl,lA,vA⟩:=uM HL.out ⟨by omega,by omega⟩ HW.out gC cA (fp.ki HA.out jb.out) false (λh=>by cases h);have iB:Hid (aq w w2):=jb.out.trans hb2;have HS:Hid _:=vA;clear hb2 vA jb gC HL HA HW;refine aa.ops dS rfl ⟨_,px⟩ rfl (RJ 5 (by omega)) 2 ((oR f23 5).toList.drop 2) (by rw[zau,zbL,Ci 5 (by omega)];rfl) (λj=>by rw[zbM,zbz]) λlq d'=>?_;have iT:Hid (aq w (w2.re lq d')):=aq.heap iB.out rfl;have SV:Hid (∀w'':Ω,w''.heap=(w2.re lq d').heap→υ prog 22 #[.slice aA l.length cA,.slice aB nB cB,.bool false] w'' λe w3=>e=.returned (.bool is)∧aq w'' w3):=HS.out;clear iB HS;generalize w2.re lq d'=w3 at *;generalize eF:(.code (rR f23 5)::kk:List Item)=kq;dsimp only[oR,tR,pR,qR,kj,Ren.bz,Ren.cj,Ren.bM,f23,Λ];simp only[zbC,zbu];go_wp2_with fail;subst eF;show aa _ _ _ _ _ _;refine aa.code dS (zbV.1 (zaC.1 Cg 5 (by simp))).2 rfl ⟨_,px⟩ rfl λτ d=>?_;have qJ:Hid (aq w (w3.re τ d)):=aq.heap iT.out rfl;have HC:Hid _:=SV.out (w3.re τ d) rfl;clear iT SV;generalize w3.re τ d=w4 at *;generalize eF:kk=kq;dsimp only[rR,tR,pR,qR,kj,Ren.bz,Ren.cj,Ren.bM,f23,Λ];go_wp2_with fail;refine zai HC.out ?_;rintro e5 w5 ⟨rfl,j8⟩;have rN:Hid (aq w w5):=qJ.out.trans j8;clear qJ HC j8;rcases lA with⟨rfl,rfl,rfl⟩|⟨rfl,rfl⟩|⟨rfl,rfl⟩
  all_goals
   go_wp2_with fail;subst eF;show aa _ _ _ _ _ _;exact aa.asR (by kernel_rfl) λv=>HH.out _ v (aq.heap rN.out rfl)
 ·have TQ:(f==0)=false:=by simpa using he
  go_wp2_with fail;subst eF;show aa _ _ _ _ _ _;refine aa.cond (t:=false) rfl (aa.skip ?_);exact aa.asR (by kernel_rfl) λv=>HH.out _ v jb.out
theorem aa.aeq {l:List eO}{aA:Option Addr}{cA:Nat}{s t u:List UInt8}{e f g:Int}{v:Nat→Φ}{kk:List Item}(hl:gp l)(hW:bJ (l.map aV) 0 403=(u,g))(hA:fp w aA l)
 (h:∀w' v,aq w w'→aa prog Sz Ψ ((base 23).at (fR (.slice aA l.length cA) (.string ⟨⟨s⟩⟩) (Γ Δ e) (.string ⟨⟨t⟩⟩) (Γ Δ f) (.string ⟨⟨u⟩⟩) (Γ Δ g) v) kk) cs w'):aa prog Sz Ψ ((base 23).at (fR (.slice aA l.length cA) (.string ⟨⟨s⟩⟩) (Γ Δ e) (.string ⟨⟨t⟩⟩) (Γ Δ f) (.string ⟨⟨u⟩⟩) (Γ Δ g) v) (.code (pR f23 6)::kk)) cs w:=by
 have mixed:prog.follows Ξ=true:=by kernel_rfl
 have HH:Hid _:=h;have HA:Hid (fp w aA l):=hA;have HL:Hid (gp l):=hl;have HW:Hid _:=hW;clear h hA hl hW;unfold fR;rw[acj];refine aa.seq ?_;refine aa.code dS (zbV.1 (zaC.1 Cg 6 (by simp))).1 rfl ⟨_,px⟩ rfl λτ d=>?_;have jb:Hid (aq w (w.re τ d)):=aq.eq rfl;generalize w.re τ d=w1 at *;generalize eF:(.code (.cond (.tmp 107) (.seq (.region 15 (oR f23 6) false) (rR f23 6)) .skip)::kk:List Item)=kq;dsimp only[pR,qR,kj,Ren.bz,Ren.cj,Ren.bM,f23,Λ];by_cases he:g=0
 ·subst he;go_wp2_with fail;subst eF;show aa _ _ _ _ _ _;refine aa.cond (t:=true) rfl ?_;refine aa.seq (aa.region ?_);rw[Ci 6 (by omega),show θ 9=[0,1,2,3,4,5,6,7,8] from rfl];refine aa.S8 afM.a afM.g (by decide) (by kernel_rfl) (.string ⟨⟨u⟩⟩) (λw' _=>by simp only[η,afM.o];rfl) afM.s rfl ?_;refine aa.lY (f:=18) (xs:=#[.tmp 109,.const (Γ Δ 30)]) (ats:=#[9,3]) (args:=#[.string ⟨⟨u⟩⟩,Γ Δ 30]) afN.a afN.g (by decide) afN.o MV MW (by simp[gD,jl]) (by simp[ι,ξ]) ?_;refine aa.Si afN.d λvr w2 gC=>?_;obtain⟨hb2,aB,nB,cB,at_,e2,is,rfl,lA,vA⟩:=uM HL.out ⟨by omega,by omega⟩ HW.out gC cA (fp.ki HA.out jb.out) false (λh=>by cases h);have iB:Hid (aq w w2):=jb.out.trans hb2;have HS:Hid _:=vA;clear hb2 vA jb gC HL HA HW;refine aa.ops dS rfl ⟨_,px⟩ rfl (RJ 6 (by omega)) 2 ((oR f23 6).toList.drop 2) (by rw[zau,zbL,Ci 6 (by omega)];rfl) (λj=>by rw[zbM,zbz]) λlq d'=>?_;have iT:Hid (aq w (w2.re lq d')):=aq.heap iB.out rfl;have SV:Hid (∀w'':Ω,w''.heap=(w2.re lq d').heap→υ prog 22 #[.slice aA l.length cA,.slice aB nB cB,.bool false] w'' λe w3=>e=.returned (.bool is)∧aq w'' w3):=HS.out;clear iB HS;generalize w2.re lq d'=w3 at *;generalize eF:(.code (rR f23 6)::kk:List Item)=kq;dsimp only[oR,tR,pR,qR,kj,Ren.bz,Ren.cj,Ren.bM,f23,Λ];simp only[zbC,zbu];go_wp2_with fail;subst eF;show aa _ _ _ _ _ _;refine aa.code dS (zbV.1 (zaC.1 Cg 6 (by simp))).2 rfl ⟨_,px⟩ rfl λτ d=>?_;have qJ:Hid (aq w (w3.re τ d)):=aq.heap iT.out rfl;have HC:Hid _:=SV.out (w3.re τ d) rfl;clear iT SV;generalize w3.re τ d=w4 at *;generalize eF:kk=kq;dsimp only[rR,tR,pR,qR,kj,Ren.bz,Ren.cj,Ren.bM,f23,Λ];go_wp2_with fail;refine zai HC.out ?_;rintro e5 w5 ⟨rfl,j8⟩;have rN:Hid (aq w w5):=qJ.out.trans j8;clear qJ HC j8;rcases lA with⟨rfl,rfl,rfl⟩|⟨rfl,rfl⟩|⟨rfl,rfl⟩
  all_goals
   go_wp2_with fail;subst eF;show aa _ _ _ _ _ _;exact aa.asR (by kernel_rfl) λv=>HH.out _ v (aq.heap rN.out rfl)
 ·have TQ:(g==0)=false:=by simpa using he
  go_wp2_with fail;subst eF;show aa _ _ _ _ _ _;refine aa.cond (t:=false) rfl (aa.skip ?_);exact aa.asR (by kernel_rfl) λv=>HH.out _ v jb.out
def e23 (x u:Φ):Act:=⟨#[x,u,u,u,u,u,u,u,u,u,u,u,u,u,u,u,u,u,u,u,u,u,u,u,u,u,u,u,u,u,u,u,u,u,u,u,u,u,u,u,u,u,u,u,u,u,u,u,u,u,u,u,u,u,u,u,u,u,u,u,u,u,u,u,u,u,u,u,u,u,u,u,u,u,u,u,u,u,u,u,u,u,u,u,u,u,u,u,u,u,u,u,u,u,u,u,u,u,u,u,u,u,u,u,u,u,u,u,u,u,u,u,u,u,u,u,u,u,u,u,u,u,u,u,u,u,u,u,u,u,u,u,u,u,u,u,u,u,u,u,u,u,u,u,u,u,u,u,u,u,u,u,u,u,u,u,u,u,u,u,u,u,u,u,u],[]⟩
theorem t165 (x u:Φ):(⟨#[x]++π (165-#[x].size) u,[]⟩:Act)=e23 x u:=by kernel_rfl
theorem Vk (x:Φ):ζ.enter prog 23 #[x] .normal=(base 23).at (e23 x Θ) [.code (.seq (pR f23 0) (.seq (pR f23 1) (.seq (pR f23 2) (.seq (pR f23 3) (.seq (pR f23 4) (.seq (pR f23 5) (.seq (pR f23 6) (.seq (pR f23 7) (qR f23 8)))))))))]:=by
 rw[enter_at _ px ZY,aeh,t165]
theorem aa.aeZ {L:Φ}{s t u:List UInt8}{e f g:Int}{v:Nat→Φ}(he:e=0∨e=2)(hf:f=0∨f=2)(hg:g=0∨g=2∨g=9)
 (h:∀w',aq w w'→qL prog Sz Ψ cs (.bool true) w'):aa prog Sz Ψ ((base 23).at (fR L (.string ⟨⟨s⟩⟩) (Γ Δ e) (.string ⟨⟨t⟩⟩) (Γ Δ f) (.string ⟨⟨u⟩⟩) (Γ Δ g) v) [.code (.seq (pR f23 7) (qR f23 8))]) cs w:=by
 have mixed:prog.follows Ξ=true:=by kernel_rfl
 have HH:Hid _:=h;have HG:Hid _:=hg;clear h hg;unfold fR;refine aa.seq ?_;refine aa.code dS (zaC.1 RI 7 (by simp)) rfl ⟨_,px⟩ rfl λτ d=>?_;have jb:Hid (aq w (w.re τ d)):=aq.eq rfl;generalize w.re τ d=w1 at *;generalize eF:([.code (qR f23 8)]:List Item)=kq;dsimp only[pR,qR,kj,Ren.bz,Ren.cj,Ren.bM,f23,Λ];rcases he with rfl|rfl<;>rcases hf with rfl|rfl
 all_goals
  go_wp2_with fail;subst eF;show aa _ _ _ _ _ _;refine aa.code dS acg rfl ⟨_,px⟩ rfl λτ d=>?_;have iB:Hid (aq w (w1.re τ d)):=aq.heap jb.out rfl;generalize w1.re τ d=w2 at *;clear jb;dsimp only[pR,qR,kj,Ren.bz,Ren.cj,Ren.bM,f23,Λ];rcases HG.out with rfl|rfl|rfl
  all_goals
   go_wp2_with fail;show ∀todo,aa _ _ _ _ _ _;intro todo;refine aa.yR rfl rfl px (results_tmp acf _ _ _) ?_;exact HH.out _ (aq.heap iB.out rfl)
theorem aa.Sj {l:List eO}{nv:Φ}(hl:gp l)(hm:GK w nv l)(hp:Pow w)(h:∀w',aq w w'→qL prog Sz Ψ cs (.bool true) w'):aa prog Sz Ψ (ζ.enter prog 23 #[nv] .normal) cs w:=by
 have mixed:prog.follows Ξ=true:=by kernel_rfl
 have HH:Hid _:=h;have HP:Hid (Pow w):=hp;have HL:Hid (gp l):=hl;obtain⟨b,cap,G,rfl,ZE,hG,BS,ho⟩:=hm;have hid:l.map aV=(l.map aV).map gP:=by simp[aV,gP]
 have XP:∀(mode:Int) (w':Ω),aq w w'→υ prog 19 #[.slice (some ⟨b,0,none⟩) l.length cap,Γ Δ mode] w' λe w''=>e=.returned (.tuple #[.string ⟨⟨(bJ (l.map aV) mode 403).1⟩⟩,Γ Δ (bJ (l.map aV) mode 403).2])∧aq w' w'':=λmode w' hb=>by
  have hG':bK w' b 0 G:=(hG.below (w':={ w with heap:=w'.heap }) ⟨rfl,rfl,rfl,hb.1,hb.2⟩).qP rfl;have:=s9 G b 0 cap mode 403 (zac _) w' (by rw[ZE];have:=hl.2.1;unfold φ;omega) hG' (Pow.ki hp hb);rw[vu G (l.map aV) (BS.trans hid) mode 403,ZE]at this;exact this.mono λe w'' h=>⟨h.1,aq.of h.2⟩
 have HC:Hid _:=XP;have HO:Hid _:=ho;have h2:=(nJ hl (mode:=2) (by omega)).1;have h1:=(nJ hl (mode:=1) (by omega)).1;have h0:=(nJ hl (mode:=0) (by omega)).1;clear h hp hl hG BS hid XP ho ZE;obtain⟨s,hs⟩:∃s,(bJ (l.map aV) 2 403).1=s:=⟨_,rfl⟩;obtain⟨t,ht⟩:∃s,(bJ (l.map aV) 1 403).1=s:=⟨_,rfl⟩;obtain⟨u,hu⟩:∃s,(bJ (l.map aV) 0 403).1=s:=⟨_,rfl⟩;obtain⟨e,he⟩:∃s,(bJ (l.map aV) 2 403).2=s:=⟨_,rfl⟩;obtain⟨f,hf⟩:∃s,(bJ (l.map aV) 1 403).2=s:=⟨_,rfl⟩;obtain⟨g,hg⟩:∃s,(bJ (l.map aV) 0 403).2=s:=⟨_,rfl⟩;rw[he]at h2;rw[hf]at h1;rw[hg]at h0;have HE:Hid (e=0∨e=2):=by show _∨_;omega
 have HF:Hid (f=0∨f=2):=by show _∨_;omega
 have HG:Hid (g=0∨g=2∨g=9):=by show _∨_;omega
 have wP:Hid (bJ (l.map aV) 2 403=(s,e)):=Prod.ext hs he;have I2:Hid (bJ (l.map aV) 1 403=(t,f)):=Prod.ext ht hf;have NJ:Hid (bJ (l.map aV) 0 403=(u,g)):=Prod.ext hu hg;have HC2:Hid _:=HC.out 2;have HC1:Hid _:=HC.out 1;have HC0:Hid _:=HC.out 0;rw[hs,he]at HC2;rw[ht,hf]at HC1;rw[hu,hg]at HC0;clear h0 h1 h2 hs ht hu he hf hg HC;rw[Vk];unfold e23;refine aa.seq ?_;refine aa.code dS (zaC.1 RI 0 (by simp)) rfl ⟨_,px⟩ rfl λτ d=>?_;have jb:Hid (aq w (w.re τ d)):=aq.eq rfl;generalize w.re τ d=w1 at *;generalize eF:([.code (.seq (pR f23 1) (.seq (pR f23 2) (.seq (pR f23 3) (.seq (pR f23 4) (.seq (pR f23 5) (.seq (pR f23 6) (.seq (pR f23 7) (qR f23 8))))))))]:List Item)=kq;dsimp only[pR,qR,kj,Ren.bz,Ren.cj,Ren.bM,f23,Λ];go_wp2_with fail;subst eF;show aa _ _ _ _ _ _;obtain⟨w2,hw2⟩:∃w2,w1=w2:=⟨_,rfl⟩;rw[hw2]at jb ⊢;have iB:Hid (aq w w2):=jb;clear jb hw2;refine aa.seq ?_;refine aa.code dS (zaC.1 RI 1 (by simp)) rfl ⟨_,px⟩ rfl λτ d=>?_;have iT:Hid (aq w (w2.re τ d)):=aq.heap iB.out rfl;generalize w2.re τ d=w3 at *;generalize eF:([.code (.seq (pR f23 2) (.seq (pR f23 3) (.seq (pR f23 4) (.seq (pR f23 5) (.seq (pR f23 6) (.seq (pR f23 7) (qR f23 8)))))))]:List Item)=kq;dsimp only[pR,qR,kj,Ren.bz,Ren.cj,Ren.bM,f23,Λ];go_wp2_with fail;refine zai (HC2.out _ iT.out) ?_;rintro e1 w4 ⟨rfl,hb⟩;have qJ:Hid (aq w w4):=iT.out.trans hb;clear iT hb HC2;go_wp2_with fail;subst eF;show aa _ _ _ _ _ _;refine aa.seq ?_;refine aa.code dS (zaC.1 RI 2 (by simp)) rfl ⟨_,px⟩ rfl λτ d=>?_;have rN:Hid (aq w (w4.re τ d)):=aq.heap qJ.out rfl;generalize w4.re τ d=w5 at *;generalize eF:([.code (.seq (pR f23 3) (.seq (pR f23 4) (.seq (pR f23 5) (.seq (pR f23 6) (.seq (pR f23 7) (qR f23 8))))))]:List Item)=kq;dsimp only[pR,qR,kj,Ren.bz,Ren.cj,Ren.bM,f23,Λ];go_wp2_with fail;refine zai (HC1.out _ rN.out) ?_;rintro e2 w6 ⟨rfl,hb⟩;have vS:Hid (aq w w6):=rN.out.trans hb;clear rN hb HC1;go_wp2_with fail;subst eF;show aa _ _ _ _ _ _;refine aa.seq ?_;refine aa.code dS (zaC.1 RI 3 (by simp)) rfl ⟨_,px⟩ rfl λτ d=>?_;have yQ:Hid (aq w (w6.re τ d)):=aq.heap vS.out rfl;generalize w6.re τ d=w7 at *;generalize eF:([.code (.seq (pR f23 4) (.seq (pR f23 5) (.seq (pR f23 6) (.seq (pR f23 7) (qR f23 8)))))]:List Item)=kq;dsimp only[pR,qR,kj,Ren.bz,Ren.cj,Ren.bM,f23,Λ];go_wp2_with fail;refine zai (HC0.out _ yQ.out) ?_;rintro e3 w8 ⟨rfl,hb⟩;have S0:Hid (aq w w8):=yQ.out.trans hb;clear yQ hb HC0;go_wp2_with fail;subst eF;show aa _ _ _ _ _ _;refine aa.seq ?_;refine aa.asR (L:= .slice (some ⟨b,0,none⟩) l.length cap) (S:= .string ⟨⟨s⟩⟩) (E:= Γ Δ e) (T:= .string ⟨⟨t⟩⟩) (F:= Γ Δ f) (U:= .string ⟨⟨u⟩⟩) (G:= Γ Δ g) (by kernel_rfl) λv=>?_;refine aa.aei HL.out wP.out (fp.ki HO.out S0.out) λu1 v hb1=>?_;refine aa.seq ?_;refine aa.aej HL.out I2.out (fp.ki HO.out (S0.out.trans hb1)) λu2 v hb2=>?_;refine aa.seq ?_;refine aa.aeq HL.out NJ.out (fp.ki HO.out ((S0.out.trans hb1).trans hb2)) λu3 v hb3=>?_;exact aa.aeZ HE.out HF.out HG.out λw' hb=>HH.out _ ((((S0.out.trans hb1).trans hb2).trans hb3).trans hb)
end
theorem NW:prog.funcs[9]?=some f9:=by kernel_rfl
theorem nt9:f9.ntmps=79:=by kernel_rfl
theorem ae0:f9.results=#[.tmp 4]:=by kernel_rfl
theorem aco:f9.body=some (.seq (pR f9 0) (.seq (.region 1 (Ren.bz (pR f9 1)) false) (.seq (pR f9 2) (.seq (.region 4 (Ren.bz (pR f9 3)) false) (.seq (pR f9 4) (.seq (pR f9 5) (.seq (.region 9 (Ren.bz (pR f9 6)) false) (.seq (pR f9 7) (.seq (.region 11 (Ren.bz (pR f9 8)) false) (qR f9 9)))))))))):=by kernel_rfl
def e9 (x y u:Φ):Act:=⟨#[x,y,u,u,u,u,u,u,u,u,u,u,u,u,u,u,u,u,u,u,u,u,u,u,u,u,u,u,u,u,u,u,u,u,u,u,u,u,u,u,u,u,u,u,u,u,u,u,u,u,u,u,u,u,u,u,u,u,u,u,u,u,u,u,u,u,u,u,u,u,u,u,u,u,u,u,u,u,u],[]⟩
theorem t79 (x y u:Φ):(⟨#[x,y]++π (79-#[x,y].size) u,[]⟩:Act)=e9 x y u:=by kernel_rfl
theorem Z3 (x y:Φ):ζ.enter prog 9 #[x,y] .normal=(base 9).at (e9 x y Θ) [.code (.seq (pR f9 0) (.seq (.region 1 (Ren.bz (pR f9 1)) false) (.seq (pR f9 2) (.seq (.region 4 (Ren.bz (pR f9 3)) false) (.seq (pR f9 4) (.seq (pR f9 5) (.seq (.region 9 (Ren.bz (pR f9 6)) false) (.seq (pR f9 7) (.seq (.region 11 (Ren.bz (pR f9 8)) false) (qR f9 9))))))))))]:=by
 rw[enter_at _ NW aco,nt9,t79]
theorem ok9:([0,2,4,5,7].all λn=>bB prog Fz Sz (pR f9 n))=true:=by kernel_rfl
theorem ae1:bB prog Fz Sz (qR f9 9)=true:=by kernel_rfl
theorem ae2:(prog.funcs[20]?).any (λfn=>fn.body.isSome)=true:=by kernel_rfl
theorem ae3:(prog.funcs[20]?).any (λfn=>fn.name != "runtime.NumGoroutine")=true:=by kernel_rfl
theorem ae4:(prog.funcs[23]?).any (λfn=>fn.body.isSome)=true:=by kernel_rfl
theorem ae5:(prog.funcs[23]?).any (λfn=>fn.name != "runtime.NumGoroutine")=true:=by kernel_rfl
theorem Ss {o:Oper}{a:Act}{x y:Tmp}{s:List UInt8}{k:Nat}(hop:o.op=.slice 9 (.tmp x) none (some (.tmp y)) none)(hx:a.eval (.tmp x)=.string ⟨⟨s⟩⟩)(hy:a.eval (.tmp y)=Γ Δ (k:Nat))(hl:k≤s.length)(w:Ω):(η a.eval o).run prog w=.ok (.value (.string ⟨⟨s.take k⟩⟩)) w:=by
 have e:(ByteArray.mk (Array.mk s)).extract 0 k=⟨⟨s.take k⟩⟩:=by
  apply ByteArray.ext;simp[ByteArray.data_extract,List.extract_eq_take_drop]
 unfold η;rw[hop];dsimp only;simp only[zbp,Option.map_none,hx,hy];simp[go_sem,underlying9,e,hl]
theorem Su:(Ren.bz (pR f9 1)).size=2:=by kernel_rfl
theorem p6:p5 (Ren.bz (pR f9 1)) 0 14 (.call { callee:= .value (.func 20),args:=#[],argTypes:=#[] }):=p5.k (by kernel_rfl)
theorem acp:([1].all λi=>((Ren.bz (pR f9 1))[i]?).all λo=>fo prog Fz Sz o.op)=true:=by kernel_rfl
theorem Sv:(Ren.bz (pR f9 3)).size=10:=by kernel_rfl
theorem p8:p5 (Ren.bz (pR f9 3)) 0 18 (.move (.tmp 0)):=p5.k (by kernel_rfl)
theorem p9:p5 (Ren.bz (pR f9 3)) 1 19 (.move (.tmp 1)):=p5.k (by kernel_rfl)
theorem r7:p5 (Ren.bz (pR f9 3)) 2 20 (.call { callee:= .value (.func 18),args:=#[.tmp 18,.tmp 19],argTypes:=#[9,3] }):=p5.k (by kernel_rfl)
theorem acr:([3,4,5,6,7,8,9].all λi=>((Ren.bz (pR f9 3))[i]?).all λo=>fo prog Fz Sz o.op)=true:=by kernel_rfl
theorem Sw:(Ren.bz (pR f9 6)).size=12:=by kernel_rfl
theorem r8:p5 (Ren.bz (pR f9 6)) 0 53 (.move (.tmp 0)):=p5.k (by kernel_rfl)
theorem r9:p5 (Ren.bz (pR f9 6)) 1 54 (.move (.tmp 7)):=p5.k (by kernel_rfl)
theorem u9:p5 (Ren.bz (pR f9 6)) 2 55 (.slice 9 (.tmp 53) none (some (.tmp 54)) none):=p5.k (by kernel_rfl)
theorem afE:p5 (Ren.bz (pR f9 6)) 3 56 (.move (.tmp 1)):=p5.k (by kernel_rfl)
theorem afF:p5 (Ren.bz (pR f9 6)) 4 57 (.call { callee:= .value (.func 18),args:=#[.tmp 55,.tmp 56],argTypes:=#[9,3] }):=p5.k (by kernel_rfl)
theorem acs:([5,6,7,8,9,10,11].all λi=>((Ren.bz (pR f9 6))[i]?).all λo=>fo prog Fz Sz o.op)=true:=by kernel_rfl
theorem Sx:(Ren.bz (pR f9 8)).size=3:=by kernel_rfl
theorem afG:p5 (Ren.bz (pR f9 8)) 0 64 (.move (.tmp 6)):=p5.k (by kernel_rfl)
theorem afH:p5 (Ren.bz (pR f9 8)) 1 65 (.call { callee:= .value (.func 23),args:=#[.tmp 64],argTypes:=#[28] }):=p5.k (by kernel_rfl)
theorem acu:([2].all λi=>((Ren.bz (pR f9 8))[i]?).all λo=>fo prog Fz Sz o.op)=true:=by kernel_rfl
theorem aa.returned {Ψ:dn}{w:Ω}{s:List UInt8}{dep:Int}(hp:Pow w)(h:∀w' a todo,a.defers=[]→a.tmps.getD 4 Θ=.bool true→aq w w'→aa prog Sz Ψ (gA (base 9) a todo) [] w'):aa prog Sz Ψ (ζ.enter prog 9 #[.string ⟨⟨s⟩⟩,Γ Δ dep] .normal) [] w:=by
 have mixed:prog.follows Ξ=true:=by kernel_rfl
 have HH:Hid _:=h;have HP:Hid (Pow w):=hp;clear h hp;rw[Z3];unfold e9;refine aa.seq ?_;refine aa.code dS (zaC.1 ok9 0 (by simp)) rfl ⟨_,NW⟩ rfl λτ d=>?_;have jb:Hid (aq w (w.re τ d)):=aq.eq rfl;generalize w.re τ d=w1 at *;generalize eF:([.code (.seq (.region 1 (Ren.bz (pR f9 1)) false) (.seq (pR f9 2) (.seq (.region 4 (Ren.bz (pR f9 3)) false) (.seq (pR f9 4) (.seq (pR f9 5) (.seq (.region 9 (Ren.bz (pR f9 6)) false) (.seq (pR f9 7) (.seq (.region 11 (Ren.bz (pR f9 8)) false) (qR f9 9)))))))))]:List Item)=kq;dsimp only[pR,qR,Ren.bz,Ren.cj,Ren.bM,f9,Λ];go_wp2_with fail;subst eF;show aa _ _ _ _ _ _;refine aa.seq (aa.region ?_);rw[Su,show θ 2=[0,1] from rfl];refine aa.lY (f:=20) (xs:=#[]) (ats:=#[]) (args:=#[]) p6.a p6.g (by decide) p6.o ae2 ae3 (by simp) (by simp) ?_;refine aa.awake (Pow.ki HP.out jb.out) λw2 hb=>?_;rw[p6.d];have iB:Hid (aq w w2):=jb.out.trans hb;clear jb hb;refine aa.ops dS rfl ⟨_,NW⟩ rfl acp 1 ((Ren.bz (pR f9 1)).toList.drop 1) (by rw[zau,zbL,Su];rfl) (λj=>by rw[zbM,zbz]) λlq d'=>?_;have iT:Hid (aq w (w2.re lq d')):=aq.heap iB.out rfl;clear iB;generalize w2.re lq d'=w3 at *;generalize eF:([.code (.seq (pR f9 2) (.seq (.region 4 (Ren.bz (pR f9 3)) false) (.seq (pR f9 4) (.seq (pR f9 5) (.seq (.region 9 (Ren.bz (pR f9 6)) false) (.seq (pR f9 7) (.seq (.region 11 (Ren.bz (pR f9 8)) false) (qR f9 9))))))))]:List Item)=kq;dsimp only[pR,qR,Ren.bz,Ren.cj,Ren.bM,f9,Λ];simp only[zbC,zbu];go_wp2_with fail;subst eF;show aa _ _ _ _ _ _;refine aa.seq ?_;refine aa.code dS (zaC.1 ok9 2 (by simp)) rfl ⟨_,NW⟩ rfl λτ d=>?_;have qJ:Hid (aq w (w3.re τ d)):=aq.heap iT.out rfl;clear iT;generalize w3.re τ d=w4 at *;generalize eF:([.code (.seq (.region 4 (Ren.bz (pR f9 3)) false) (.seq (pR f9 4) (.seq (pR f9 5) (.seq (.region 9 (Ren.bz (pR f9 6)) false) (.seq (pR f9 7) (.seq (.region 11 (Ren.bz (pR f9 8)) false) (qR f9 9)))))))]:List Item)=kq;dsimp only[pR,qR,Ren.bz,Ren.cj,Ren.bM,f9,Λ];go_wp2_with fail;subst eF;show aa _ _ _ _ _ _;refine aa.seq (aa.region ?_);rw[Sv,show θ 10=[0,1,2,3,4,5,6,7,8,9] from rfl];refine aa.S8 p8.a p8.g (by decide) (by kernel_rfl) (.string ⟨⟨s⟩⟩) (λw' _=>by simp only[η,p8.o];rfl) p8.s rfl ?_;refine aa.S8 p9.a p9.g (by decide) (by kernel_rfl) (Γ Δ dep) (λw' _=>by simp only[η,p9.o];rfl) p9.s rfl ?_;refine aa.lY (f:=18) (xs:=#[.tmp 18,.tmp 19]) (ats:=#[9,3]) (args:=#[.string ⟨⟨s⟩⟩,Γ Δ dep]) r7.a r7.g (by decide) r7.o MV MW (by simp[gD]) (by simp[ι,ξ]) ?_;refine aa.Si r7.d λv w5 gC=>?_;obtain⟨hb,nodes,at_,e,nv,bN,hr,rfl,hn⟩:=gC;obtain⟨na,nc,rfl,ho⟩:=nI hn;have rN:Hid (aq w w5):=qJ.out.trans hb;have HR:Hid _:=hr;have HO:Hid (fp w5 na nodes):=ho;have HN:Hid _:=hn;clear qJ hb hr ho hn;have HK:Hid (aq w5 w5):=aq.eq rfl;refine aa.ops dS rfl ⟨_,NW⟩ rfl acr 3 ((Ren.bz (pR f9 3)).toList.drop 3) (by rw[zau,zbL,Sv];rfl) (λj=>by rw[zbM,zbz]) λlq d'=>?_;have vS:Hid (aq w (w5.re lq d')):=aq.heap rN.out rfl;have Cm:Hid (aq w5 (w5.re lq d')):=aq.heap HK.out rfl;clear HK;have HK:=Cm;clear Cm;clear rN;generalize w5.re lq d'=w6 at *;generalize eF:([.code (.seq (pR f9 4) (.seq (pR f9 5) (.seq (.region 9 (Ren.bz (pR f9 6)) false) (.seq (pR f9 7) (.seq (.region 11 (Ren.bz (pR f9 8)) false) (qR f9 9))))))]:List Item)=kq;dsimp only[pR,qR,Ren.bz,Ren.cj,Ren.bM,f9,Λ];simp only[zbC,zbu];go_wp2_with fail;subst eF;show aa _ _ _ _ _ _;refine aa.seq ?_;refine aa.code dS (zaC.1 ok9 4 (by simp)) rfl ⟨_,NW⟩ rfl λτ d=>?_;have yQ:Hid (aq w (w6.re τ d)):=aq.heap vS.out rfl;have Cm:Hid (aq w5 (w6.re τ d)):=aq.heap HK.out rfl;clear HK;have HK:=Cm;clear Cm;clear vS;generalize w6.re τ d=w7 at *;generalize eF:([.code (.seq (pR f9 5) (.seq (.region 9 (Ren.bz (pR f9 6)) false) (.seq (pR f9 7) (.seq (.region 11 (Ren.bz (pR f9 8)) false) (qR f9 9)))))]:List Item)=kq;dsimp only[pR,qR,Ren.bz,Ren.cj,Ren.bM,f9,Λ];rcases JE HR.out with⟨rfl,hne⟩|⟨he,rfl⟩
 rotate_left
 ·have TQ:(e != 0)=true:=by simpa using he
  have ha1:(0:Int)≤(at_:Int):=by omega
  have ha2:(at_:Int)≤(s.length:Int):=by have:=Sq HR.out he;omega
  clear HO HN HK;go_wp2_with fail;show ∀todo,aa _ _ _ _ _ _;intro todo;exact HH.out _ _ _ rfl rfl (aq.heap yQ.out rfl)
 have mi:((nodes.length:Int)==0)=false:=by rw[zah];have:=zbT.2 hne;omega
 obtain⟨Ag,PF,hp3⟩:=Nr HR.out hne;have Ml:Hid _:=hp3;have HL:Hid (gp nodes):=vz HR.out hne;have HT:Hid _:=QR HR.out hne;have ha1:¬(at_:Int)<1:=by omega
 have ha2:¬(s.length:Int)<(at_:Int):=by omega
 clear hp3 HR;go_wp2_with fail;subst eF;show aa _ _ _ _ _ _;refine aa.seq ?_;refine aa.code dS (zaC.1 ok9 5 (by simp)) rfl ⟨_,NW⟩ rfl λτ d=>?_;have S0:Hid (aq w (w7.re τ d)):=aq.heap yQ.out rfl;have Cm:Hid (aq w5 (w7.re τ d)):=aq.heap HK.out rfl;clear HK;have HK:=Cm;clear Cm;clear yQ;generalize w7.re τ d=w8 at *;generalize eF:([.code (.seq (.region 9 (Ren.bz (pR f9 6)) false) (.seq (pR f9 7) (.seq (.region 11 (Ren.bz (pR f9 8)) false) (qR f9 9))))]:List Item)=kq;dsimp only[pR,qR,Ren.bz,Ren.cj,Ren.bM,f9,Λ];go_wp2_with fail;subst eF;show aa _ _ _ _ _ _;refine aa.seq (aa.region ?_);rw[Sw,show θ 12=[0,1,2,3,4,5,6,7,8,9,10,11] from rfl];refine aa.S8 r8.a r8.g (by decide) (by kernel_rfl) (.string ⟨⟨s⟩⟩) (λw' _=>by simp only[η,r8.o];rfl) r8.s rfl ?_;refine aa.S8 r9.a r9.g (by decide) (by kernel_rfl) (Γ Δ (at_:Nat)) (λw' _=>by simp only[η,r9.o];rfl) r9.s rfl ?_;refine aa.S8 u9.a u9.g (by decide) (by kernel_rfl) (.string ⟨⟨s.take at_⟩⟩) (λw' _=>Ss u9.o (by simp[ι,ξ]) (by simp[ι,ξ]) PF w') u9.s rfl ?_;refine aa.S8 afE.a afE.g (by decide) (by kernel_rfl) (Γ Δ dep) (λw' _=>by simp only[η,afE.o];rfl) afE.s rfl ?_;refine aa.lY (f:=18) (xs:=#[.tmp 55,.tmp 56]) (ats:=#[9,3]) (args:=#[.string ⟨⟨s.take at_⟩⟩,Γ Δ dep]) afF.a afF.g (by decide) afF.o MV MW (by simp[gD]) (by simp[ι,ξ]) ?_;refine aa.Si afF.d λv w9 gC=>?_;obtain⟨hb,ae6,at2,e2,nv2,abb,hr2,rfl,wJ⟩:=gC;obtain⟨na2,nc2,rfl,ho2⟩:=nI wJ;rw[Ml.out]at hr2;simp only[zaE,zaf]at hr2;obtain⟨rfl,rfl,rfl⟩:=hr2;have HB9:Hid (aq w w9):=S0.out.trans hb;have Cm:Hid (aq w5 w9):=HK.out.trans hb;have XR:Hid (fp w9 na2 nodes):=ho2;clear S0 HK hb Ml ho2 wJ;have HK:=Cm;clear Cm;refine aa.ops dS rfl ⟨_,NW⟩ rfl acs 5 ((Ren.bz (pR f9 6)).toList.drop 5) (by rw[zau,zbL,Sw];rfl) (λj=>by rw[zbM,zbz]) λlq d'=>?_;have acv:Hid (aq w (w9.re lq d')):=aq.heap HB9.out rfl;have Cm:Hid (aq w5 (w9.re lq d')):=aq.heap HK.out rfl;clear HK;have HK:=Cm;clear Cm;have Sy:Hid (fp (w9.re lq d') na2 nodes):=fp.qP XR.out rfl;clear XR;have XR:=Sy;clear Sy;clear HB9;generalize w9.re lq d'=w10 at *;generalize eF:([.code (.seq (pR f9 7) (.seq (.region 11 (Ren.bz (pR f9 8)) false) (qR f9 9)))]:List Item)=kq;dsimp only[pR,qR,Ren.bz,Ren.cj,Ren.bM,f9,Λ];simp only[zbC,zbu];go_wp2_with fail;subst eF;show aa _ _ _ _ _ _;refine aa.seq ?_;refine aa.code dS (zaC.1 ok9 7 (by simp)) rfl ⟨_,NW⟩ rfl λτ d=>?_;have acw:Hid (aq w (w10.re τ d)):=aq.heap acv.out rfl;have Cm:Hid (aq w5 (w10.re τ d)):=aq.heap HK.out rfl;clear HK;have HK:=Cm;clear Cm;have Sy:Hid (fp (w10.re τ d) na2 nodes):=fp.qP XR.out rfl;clear XR;have XR:=Sy;clear Sy;clear acv;generalize w10.re τ d=w11 at *;generalize eF:([.code (.seq (.region 11 (Ren.bz (pR f9 8)) false) (qR f9 9))]:List Item)=kq;dsimp only[pR,qR,Ren.bz,Ren.cj,Ren.bM,f9,Λ];have HS:Hid _:=KY nc nc2 (Rq HL.out HL.out.2.1 (fp.ki HO.out HK.out) XR.out (GJ HL.out).1 λ_=>(GJ HL.out).2) ⟨rfl,HL.out.1⟩ HL.out.2.1 HL.out.2.1 (st:=true);clear XR HO;go_wp2_with fail;refine zai HS.out ?_;rintro e3 w12 ⟨rfl,hb⟩;have Z4:Hid (aq w w12):=acw.out.trans (aq.of hb);have Cm:Hid (aq w5 w12):=HK.out.trans (aq.of hb);clear acw HK hb HS;have HK:=Cm;clear Cm;go_wp2_with fail;subst eF;show aa _ _ _ _ _ _;refine aa.seq (aa.region ?_);rw[Sx,show θ 3=[0,1,2] from rfl];refine aa.S8 afG.a afG.g (by decide) (by kernel_rfl) (.slice na nodes.length nc) (λw' _=>by simp only[η,afG.o];rfl) afG.s rfl ?_;refine aa.lY (f:=23) (xs:=#[.tmp 64]) (ats:=#[28]) (args:=#[.slice na nodes.length nc]) afH.a afH.g (by decide) afH.o ae4 ae5 (by simp[gD]) (by simp[ι,ξ]) ?_;refine aa.Sj HL.out (GK.ki (GK.of HN.out HL.out HT.out) (HK.out.trans (aq.eq rfl))) (Pow.ki HP.out Z4.out) λw13 hb=>qL.of dS ?_;rw[afH.d];have acx:Hid (aq w w13):=Z4.out.trans hb;clear Z4 hb HK HN HT HL HP;refine aa.ops dS rfl ⟨_,NW⟩ rfl acu 2 ((Ren.bz (pR f9 8)).toList.drop 2) (by rw[zau,zbL,Sx];rfl) (λj=>by rw[zbM,zbz]) λlq d'=>?_;have acy:Hid (aq w (w13.re lq d')):=aq.heap acx.out rfl;clear acx;generalize w13.re lq d'=w14 at *;generalize eF:([.code (qR f9 9)]:List Item)=kq;dsimp only[pR,qR,Ren.bz,Ren.cj,Ren.bM,f9,Λ];simp only[zbC,zbu];go_wp2_with fail;subst eF;show aa _ _ _ _ _ _;refine aa.code dS ae1 rfl ⟨_,NW⟩ rfl λτ d=>?_;have ae7:Hid (aq w (w14.re τ d)):=aq.heap acy.out rfl;clear acy;generalize w14.re τ d=w15 at *;dsimp only[pR,qR,Ren.bz,Ren.cj,Ren.bM,f9,Λ];go_wp2_with fail;show ∀todo,aa _ _ _ _ _ _;intro todo;exact HH.out _ _ _ rfl rfl (aq.heap ae7.out rfl)
end Go.Ren
namespace Go.Ren
open Go Go.Conc
variable {H:Type}{enc:TypeId×Φ→H}
theorem Ac {a:Assume}{C:Checked}{os:Os}{f:FuncId}{fn:Func}{s:ChangeSpec}{conds:List PathCond}{apart fresh handsOn again:Bool}{laid:List (String×DataW Unit)}
 (own:ownKnob C.prog.godebug=none)(started:os.Started)(hfn:C.prog.funcs[f]?=some fn)
 (witness:∃(w:Ω) (tape:Tape) (i:Input),w.os=os∧(w.forCall tape i).Shaped C.prog∧i.vars=[]∧Input.okWide C.prog (w.forCall tape i) .any w.heap.size f i∧
   (OpenSpec.ofChange s).preRow enc C.prog fn conds apart laid (w.forCall tape i).memory i.args∧a.holds C.prog (lone (ζ.enter C.prog f i.args .normal) [] (w.forCall tape i)))
 (runs:∀(W:Ω) (base:Nat) (args:Array Φ) (ds gs:List (DataW H)) (before:List MemPlace),
   (∀(j:Nat) t v,fn.params[j]?=some t→args[j]?=some v→Φ.okWide C.prog W .any base t v)→
   DataW.Whole enc C.prog fn.params.toList s.vars apart W args.toList ds gs before→
   (DataW.weightsEach C.prog (fn.params.toList++(OpenSpec.ofChange s).bare.plain.varTypes C.prog) (ds++gs)).all (·≤reachBytes)=true→
   laidMetH C.prog laid W→
   W.ShapedOpen C.prog→
   ∃M last o w' t',runNT C.prog (M+1) (solo (G (ζ.enter C.prog f args .normal) []) W) #[]=(.ended o w',t')∧runN C.prog M (solo (G (ζ.enter C.prog f args .normal) []) W)=.next last∧
    step C.prog last=.ended o w'∧Conc.Good C.prog (λv W'=>s.post enc C.prog fn apart fresh handsOn again W args v W') last o w' t'):
 ReturnsInLeavingWide a C os f .any ((OpenSpec.ofChange s).preRow enc C.prog fn conds apart laid) (s.post enc C.prog fn apart fresh handsOn again):=by
 refine returnsInLeavingWide_of_good own started witness ?_;intro w tape i _ C8 _ cG ae8 ae9;obtain⟨_,_,_,fn',XZ,_,_,_,_,hval⟩:=cG;have e:fn'=fn:=zaM (XZ.symm.trans hfn);subst e;obtain⟨⟨hp,hl⟩,hz⟩:=ae8;obtain⟨ds,gs,before,hw,hc,hk⟩:=OpenSpec.pre_parts hp;have hw':=DataW.Whole.of_heap (w':=w.forCall tape i) (by rfl) hw;obtain⟨M,last,o,w',t',h1,h2,h3,h4⟩:=runs (w.forCall tape i) w.heap.size i.args ds gs before hval hw' (hz.weights hw) (hl.of_heap (by rfl)) C8;exact⟨M,last,o,w',t',h1,h2,h3,h4.mono λv hp=>ChangeSpec.post_blind hp⟩
theorem Ns (Lk:Looks){p:Pinned}{s:OpenSpec}{c:OpenClaim}(kinds:List LaidKind)(tests:Bool)(Z5:Bool×String)(lk:Bool)
 (hc:c.holds p s)(hw:c.wfByText s=true)(afa:c.laidByTextAt Lk p kinds tests)
 (hst:c.start=.entering)(hnb:c.noBlocks=false∧c.again=false)(hm:p.checked.prog.mainIs=some (Z5.1,Z5.2.toList))(hn:(!Z5.1&&Z5.2.isEmpty&&!lk)=false)
 (hl:∀f fn,p.checked.prog.funcNamed c.func=some f→p.checked.prog.funcs[f]?=some fn→lk=p.checked.prog.looks []∧∀(j:Nat) t,fn.params[j]?=some t→p.checked.prog.wantsStandIn t=false)
 (hg:true=c.goesBy p.checked.prog):
 Claim7.holds p (.plain s) { stood:={ row:=c,standIns:=[],harness:=Z5,looks:=lk },kinds:=[],alts:=[],goes:=true,laidByText:=true,laidKinds:=kinds,laidTests:=tests,laidLooks:=Lk }:=by
 have h6:∀r:OpenClaim,Claim7.isSixth { stood:={ row:=r,standIns:=[],harness:=Z5,looks:=lk },kinds:=[] }=false:=λr=>by simpa[Claim7.isSixth]using hn
 exact⟨Claim7.tied_new_at Lk kinds tests (Claim7.new_of_sixth hc Z5 lk hst hnb hm (h6 c) hl) hw,λD hD=>by(cases hD),afa,(λh=>by cases h),hg⟩
end Go.Ren
