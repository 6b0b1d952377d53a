/-
  Made: whatever the raw numbers, the graph of them is written in each mode, and what is read of it is that graph again, or unfolds alike; what is too long or too deep says nothing. Its conditions: those of the form alone; the tables of strconv and of math/bits hold what the program's text lays.
-/
import Derived.Conc.LeavingOf
import Derived.Deep.DeepHandedRow
import Derived.Lib.LaidTab
import Derived.ChangeShapes
import Derived.WideShapes
import Derived.OpenShut
import Derived.SevenTiedAt
import Derived.Test.YtlhimdjkkiflhaaGreatDoorCards
import Derived.Test.YtlhimdjkkiflhaaGreatDoorTie
import Derived.RowKit
import Derived.ChangeSlices
import Derived.Deep.Slices
import Derived.ProofKit
import Derived.SizedLaws
import Derived.Test.YtlhimdjkkiflhaaGreatDoorMade14
import Derived.Test.YtlhimdjkkiflhaaGreatDoorMade15
set_option maxHeartbeats 8000000
set_option maxRecDepth 100000
open Go.Value renaming int→Γ
open Go.IntKind renaming i64→Δ
open Go renaming undef→Θ,Value→Ξ,World→Φ,Frame→η,execOp→ι,TypeId→υ,Calls→φ,maxLen→χ,FuncId→ψ,Program→ω
open Option renaming getD→Λ
open Go.Departure renaming mixedOrders→Ω
open Array renaming replicate→ζ
open List renaming range→θ
open Go.Act renaming eval→ξ,put→π
namespace Go.Ren
open Go Go.Conc Go.ConcX Go.RowKit Go.Proofs Go.Loop Go.Proofs.YtlhimdjkkiflhaaGreatDoor
variable {w w':Φ}{b i lo cA cap:Nat}{Ψ:dn}{cs:List η}{rest:List Nat}{kk:List Item}{s t u:List UInt8}{dep e f g:Int}{l:List eO}{nv L:Ξ}{v:Nat→Ξ}{aA sa:Option Addr}{zs:List Int}
theorem Pow.ki (h:Pow w)(hb:aq w w'):Pow w':=by
 have hb':Below w.heap.size w { w with heap:=w'.heap }:=⟨rfl,rfl,rfl,hb.1,hb.2⟩;have:=Pow.on h hb';unfold YtlhimdjkkiflhaaGreatDoor.Pow Lib.TabIs Φ.var? at this ⊢;exact this
theorem _root_.Go.Proofs.YtlhimdjkkiflhaaGreatDoor.bK.qP {o:Nat}{G:List Nd}(h:bK w b o G)(e:w'.heap=w.heap):bK w' b o G:=λi hi=>by
 have hc:∀a,w'.cell? a=w.cell? a:=λa=>by unfold Φ.cell?;rw[e]
 have hn:=h i hi;refine⟨by rw[hc];exact hn.kind,by rw[hc];exact hn.text,by rw[hc];exact hn.n,by rw[hc];exact hn.d,by rw[hc];exact hn.subs,?_,hn.abH,hn.abI⟩;rcases hn.ints with h0|⟨b1,o1,e1,h1⟩
 ·exact .inl h0
 ·exact .inr ⟨b1,o1,e1,λj hj=>by rw[hc];exact h1 j hj⟩
open Go.Proofs.Tryz
def c20 (f:Func):Code:=f.body.getD .skip
def UX (f:Func):Code:=Ren.cj (c20 f)
def S5 (f:Func):Array Oper:=Ren.bz (Ren.cj (Ren.bM (c20 f)))
def MU (f:Func):Code:=Ren.bM (Ren.bM (c20 f))
theorem QE:prog.funcs[20]?=some f20:=by kernel_rfl
theorem Zw:f20.body=some (.seq (UX f20) (.seq (.region 1 (S5 f20) false) (MU f20))):=by kernel_rfl
theorem ad7:f20.ntmps=73:=by kernel_rfl
theorem t73:(#[]++ζ (73-(#[]:Array Ξ).size) Θ:Array Ξ)=#[Θ,Θ,Θ,Θ,Θ,Θ,Θ,Θ,Θ,Θ,Θ,Θ,Θ,Θ,Θ,Θ,Θ,Θ,Θ,Θ,Θ,Θ,Θ,Θ,Θ,Θ,Θ,Θ,Θ,Θ,Θ,Θ,Θ,Θ,Θ,Θ,Θ,Θ,Θ,Θ,Θ,Θ,Θ,Θ,Θ,Θ,Θ,Θ,Θ,Θ,Θ,Θ,Θ,Θ,Θ,Θ,Θ,Θ,Θ,Θ,Θ,Θ,Θ,Θ,Θ,Θ,Θ,Θ,Θ,Θ,Θ,Θ,Θ]:=by
 generalize Θ=u;simp[ζ,List.replicate]
theorem UY:η.enter prog 20 #[] .normal=(base 20).at ⟨#[Θ,Θ,Θ,Θ,Θ,Θ,Θ,Θ,Θ,Θ,Θ,Θ,Θ,Θ,Θ,Θ,Θ,Θ,Θ,Θ,Θ,Θ,Θ,Θ,Θ,Θ,Θ,Θ,Θ,Θ,Θ,Θ,Θ,Θ,Θ,Θ,Θ,Θ,Θ,Θ,Θ,Θ,Θ,Θ,Θ,Θ,Θ,Θ,Θ,Θ,Θ,Θ,Θ,Θ,Θ,Θ,Θ,Θ,Θ,Θ,Θ,Θ,Θ,Θ,Θ,Θ,Θ,Θ,Θ,Θ,Θ,Θ,Θ],[]⟩ [.code (.seq (UX f20) (.seq (.region 1 (S5 f20) false) (MU f20)))]:=by
 rw[enter_at _ QE Zw,ad7,t73]
theorem abR:bB prog Fz Sz (UX f20)=true:=by kernel_rfl
theorem abS:bB prog Fz Sz (MU f20)=true:=by kernel_rfl
theorem XE:(S5 f20).size=8:=by kernel_rfl
def Zx (f:Func)(i:Nat):Oper:=(S5 f)[i]!
theorem Zy:(S5 f20)[0]?=some (Zx f20 0):=by kernel_rfl
theorem Zz:(Zx f20 0).op=.call { callee:= .value (.func 18),args:=#[.const (.string ⟨⟨[35,55,61,40,97,32,46,32,35,55,35,41,32,98]⟩⟩),.const (Γ Δ 5)],argTypes:=#[9,3] }:=by kernel_rfl
theorem ZA:(Zx f20 0).guard=none:=by kernel_rfl
theorem ZB:((S5 f20)[0]?).bind (·.dst)=some 7:=by kernel_rfl
theorem abT:([1,2,3,4,5,6,7].all λi=>((S5 f20)[i]?).all λo=>fo prog Fz Sz o.op)=true:=by kernel_rfl
theorem MV:(prog.funcs[18]?).any (λfn=>fn.body.isSome)=true:=by kernel_rfl
theorem MW:(prog.funcs[18]?).any (λfn=>fn.name != "runtime.NumGoroutine")=true:=by kernel_rfl
theorem abU:f20.results=#[.tmp 0]:=by kernel_rfl
theorem Gl:∀t∈aw (o7.length+1) o7 0,t.kind≠5∧t.kind≠4:=by decide +kernel
theorem aa.ad8 {b:η}{a:Act}{ops:Array Oper}(dh:∀dp:Nat,dep=dp→dp≤30→s.length≤400→mA s dp){d:Tmp}(hd:(ops[i]?).bind (·.dst)=some d){a':Ξ→Act}(ha:∀v,a.put (some d) v=a' v)(h:∀v w',sV s dep w v w'→aa prog Sz Ψ (b.at (a' v) (.inRegion ops rest::kk)) cs w'):aa prog Sz Ψ (η.enter prog 18 #[.string ⟨⟨s⟩⟩,Γ Δ dep] .normal) (b.at a (.inRegion ops (i::rest)::kk)::cs) w:=
 aa.top dh λv w' h1=>by rw[hd,ha];exact h v w' h1
section
variable {Ψ:dn}{cs:List η}{w:Φ}{b:η}{a:Act}{ops:Array Oper}{i:Nat}{rest:List Nat}{kk:List Item}
theorem aa.ZC (hp:Pow w)(h:∀w',aq w w'→qL prog Sz Ψ cs (.bool true) w'):aa prog Sz Ψ (η.enter prog 20 #[] .normal) cs w:=by
 have mixed:prog.follows Ω=true:=by kernel_rfl
 have HH:Hid _:=h;have HP:Hid (Pow w):=hp;clear h hp;rw[UY];refine aa.seq ?_;refine aa.code dS abR rfl ⟨_,QE⟩ rfl λτ d=>?_;have jb:Hid (aq w (w.re τ d)):=⟨zac _,λ_ _=>rfl⟩;generalize w.re τ d=w1 at *;generalize eF:([.code (.seq (.region 1 (S5 f20) false) (MU f20))]:List Item)=kq;dsimp only[UX,c20,Ren.cj,f20,Λ];go_wp2_with fail;subst eF;show aa _ _ _ _ _ _;refine aa.seq ?_;refine aa.region ?_;rw[XE,show θ 8=[0,1,2,3,4,5,6,7] from rfl];refine aa.lY (f:=18) (xs:=#[.const (.string ⟨⟨[35,55,61,40,97,32,46,32,35,55,35,41,32,98]⟩⟩),.const (Γ Δ 5)]) (ats:=#[9,3]) (args:=#[.string ⟨⟨o7⟩⟩,Γ Δ 5]) Zy ZA (by decide) Zz MV MW (by simp[gD,jl]) (by simp[ξ,o7]) ?_;refine aa.ad8 (λdp hd qz _=>by
  obtain rfl:dp=5:=by omega
  exact⟨λd s' hr=>Jc Jd d s' hr,UH Gl⟩) ZB (a':=λv=>⟨#[.bool false,Θ,Θ,Θ,Θ,Θ,Θ,v,Θ,Θ,Θ,Θ,Θ,Θ,Θ,Θ,Θ,Θ,Θ,Θ,Θ,Θ,Θ,Θ,Θ,Θ,Θ,Θ,Θ,Θ,Θ,Θ,Θ,Θ,Θ,Θ,Θ,Θ,Θ,Θ,Θ,Θ,Θ,Θ,Θ,Θ,Θ,Θ,Θ,Θ,Θ,Θ,Θ,Θ,Θ,Θ,Θ,Θ,Θ,Θ,Θ,Θ,Θ,Θ,Θ,Θ,Θ,Θ,Θ,Θ,Θ,Θ,Θ],[]⟩) (λv=>by simp[π]) λv w2 gC=>?_
 obtain⟨hb2,nodes,at_,e,nv,bN,hr,rfl,hn⟩:=gC;rw[show cS o7 5=some (gl,12,0) from Je]at hr;simp only[zaE,zaf]at hr;obtain⟨rfl,rfl,rfl⟩:=hr;obtain⟨bb,cap,sb,so,sc,G,rfl,m0,m4,m5,s0,s1,hG,ZE,hwr⟩:=MT hn;clear hn;have iB:Hid (aq w w2):=jb.out.trans hb2;clear jb hb2;refine aa.ops dS rfl ⟨_,QE⟩ rfl abT 1 ((S5 f20).toList.drop 1) (by rw[zau,zbL,XE];rfl) (λj=>by rw[zbM,zbz]) λlq d'=>?_;have iT:Hid (aq w (w2.re lq d')):=aq.heap iB.out rfl;have HG3:Hid (bK (w2.re lq d') bb 0 G):=bK.qP hG rfl;have HM3:Hid ((w2.re lq d').cell? ⟨bb,0,none⟩=some (Γ Δ 1)∧(w2.re lq d').cell? ⟨bb,4,none⟩=some (.slice (some ⟨sb,so,none⟩) 2 sc)∧(w2.re lq d').cell? ⟨bb,5,none⟩=some (Γ Δ 4)∧(w2.re lq d').cell? ⟨sb,so,none⟩=some (Γ Δ 1)∧(w2.re lq d').cell? ⟨sb,so+1,none⟩=some (Γ Δ 0)):=⟨m0,m4,m5,s0,s1⟩;clear m0 m4 m5 s0 s1 hG iB;generalize w2.re lq d'=w3 at *;generalize eF:([.code (MU f20)]:List Item)=kq;dsimp only[S5,c20,Ren.bz,Ren.cj,Ren.bM,f20,Λ];simp only[zbC,zbu];go_wp2_with fail;subst eF;show aa _ _ _ _ _ _;refine aa.code dS abS rfl ⟨_,QE⟩ rfl λτ d=>?_;have qJ:Hid (aq w (w3.re τ d)):=aq.heap iT.out rfl;have HG4:Hid (bK (w3.re τ d) bb 0 G):=bK.qP HG3.out rfl;have HM4:Hid ((w3.re τ d).cell? ⟨bb,0,none⟩=some (Γ Δ 1)∧(w3.re τ d).cell? ⟨bb,4,none⟩=some (.slice (some ⟨sb,so,none⟩) 2 sc)∧(w3.re τ d).cell? ⟨bb,5,none⟩=some (Γ Δ 4)∧(w3.re τ d).cell? ⟨sb,so,none⟩=some (Γ Δ 1)∧(w3.re τ d).cell? ⟨sb,so+1,none⟩=some (Γ Δ 0)):=HM3.out;clear iT HG3 HM3;generalize w3.re τ d=w4 at *;obtain⟨m0,m4,m5,s0,s1⟩:=HM4.out;have HW:Hid _:=s9 G bb 0 cap 2 403 (zac _) w4 (by rw[ZE];unfold χ;omega) HG4.out (Pow.ki HP.out qJ.out);rw[ZE,hwr]at HW;clear HG4 ZE hwr;dsimp only[MU,c20,Ren.cj,Ren.bM,f20,Λ];go_wp2_with fail;refine zai HW.out ?_;rintro e w5 ⟨rfl,j8⟩;have rN:Hid (aq w w5):=qJ.out.trans (aq.of j8);have n4:=cd j8 m4;have r0:=cd j8 s0;have r1:=cd j8 s1;clear j8 m0 m4 m5 s0 s1 HM4 HW qJ;unfold zb;go_wp2_with fail;show ∀todo,aa _ _ _ _ _ _;intro todo;refine aa.yR rfl rfl QE (results_tmp abU _ _ _) ?_;exact HH.out _ (aq.heap rN.out rfl)
end
def kj:Code→Code
 |.cond _ x _=>x
 |c=>c
def qR (f:Func):Nat→Code
 |0=>f.body.getD .skip
 |n+1=>Ren.bM (qR f n)
def pR (f:Func)(n:Nat):Code:=Ren.cj (qR f n)
def tR (f:Func)(n:Nat):Code:=kj (Ren.bM (pR f n))
def oR (f:Func)(n:Nat):Array Oper:=Ren.bz (Ren.cj (tR f n))
def rR (f:Func)(n:Nat):Code:=Ren.bM (tR f n)
theorem Nl (h:s.length≤400)(dp:Nat):mA s dp:=⟨λd s' hr=>tj h dp d s' hr,Y2 _ _⟩
theorem fp.qP {a:Option Addr}(h:fp w a l)(e:w'.heap=w.heap):fp w' a l:=by
 cases w;cases w';cases e;exact h
theorem fp.ki {a:Option Addr}(h:fp w a l)(hb:aq w w'):fp w' a l:=
 fp.qP (h.low (w':={ w with heap:=w'.heap }) ⟨rfl,rfl,rfl,hb.1,hb.2⟩) rfl
theorem aq.eq (e:w'.heap=w.heap):aq w w':=⟨by rw[e];exact zac _,λr _=>by rw[e]⟩
def GK (w:Φ)(nv:Ξ)(l:List eO):Prop:=∃b cap G,nv=.slice (some ⟨b,0,none⟩) l.length cap∧G.length=l.length∧bK w b 0 G∧G.map gP=l.map aV∧fp w (some ⟨b,0,none⟩) l
theorem GK.ki (h:GK w nv l)(hb:aq w w'):GK w' nv l:=by
 obtain⟨b,cap,G,e,hl,hG,hm,ho⟩:=h;exact⟨b,cap,G,e,hl,(hG.below (w':={ w with heap:=w'.heap }) ⟨rfl,rfl,rfl,hb.1,hb.2⟩).qP rfl,hm,fp.ki ho hb⟩
theorem Vj {x:eO}(h:pc x=true):x.subs.length≤20:=by
 unfold pc at h;repeat' split at h
 all_goals simp at h
 all_goals first|omega|simp[h]
theorem GK.of {bN:List Ξ}(h:b9 w lo nv bN l)(hr:gp l)(ht:∀x∈l,x.text.length≤405):GK w nv l:=by
 obtain⟨b,cap,e,hl,hG,hm⟩:=za h (zbT.1 hr.1) λx hx=>by
  have h1:=Vj (hr.2.2 x hx).1;have h2:=ht x hx;unfold χ;omega
 obtain⟨a,c,e2,ho⟩:=nI h;rw[e2]at e;simp only[Ξ.slice.injEq]at e;obtain⟨rfl,_,rfl⟩:=e;exact⟨b,c,_,e2,hl,hG,hm,ho⟩
theorem ahE {nodes:List eO}{a:Nat}(h:cS t dep=some (nodes,a,0)):nodes.length≤150:=by
 unfold cS at h;split at h
 ·cases h
 ·split at h
  ·cases h
  ·split at h
   ·cases h
   ·cases h;exact zaq _
   ·obtain⟨g,h1,h2⟩:=zas.1 h;split at h2
    ·cases h2
    ·cases h2;omega
theorem uM (hl:gp l){mode:Int}(hm:0≤mode∧mode≤2)(hw:bJ (l.map aV) mode 403=(s,0)){v:Ξ}(hp:sV s 30 w v w')(cA:Nat)(hA:fp w aA l)(st:Bool)(hst:st=true→mode=2):aq w w'∧∃aB nB cB,∃(at_:Nat) (e:Int) (is:Bool),v=.tuple #[.slice aB nB cB,Γ Δ at_,Γ Δ e]∧(e=0∧at_=s.length∧is=true∨e=6∧is=false∨e=2∧is=false)∧∀w'':Φ,w''.heap=w'.heap→φ prog 22 #[.slice aA l.length cA,.slice aB nB cB,.bool st] w'' λe w3=>e=.returned (.bool is)∧aq w'' w3:=by
 obtain⟨hb,nodes,at_,e,nv,bN,hr,rfl,hn⟩:=hp;obtain⟨aB,cB,rfl,hB⟩:=nI hn;rcases JA hl hm hw with⟨a,h⟩|h|⟨H,R,h,_,ZX,h0,h1⟩
 ·rw[hr]at h;simp only[zaE,zaf]at h;obtain⟨rfl,rfl,rfl⟩:=h;exact⟨hb,aB,_,cB,_,_,false,rfl,.inr (.inl ⟨rfl,rfl⟩),λw'' _=>(Cf aA aB l.length cA cB st w'' hl.1).mono λe w3 h=>⟨h.1,h.2▸aq.eq rfl⟩⟩
 ·rw[hr]at h;simp only[zaE,zaf]at h;obtain⟨rfl,rfl,rfl⟩:=h;exact⟨hb,aB,_,cB,_,_,false,rfl,.inr (.inr ⟨rfl,rfl⟩),λw'' _=>(Cf aA aB l.length cA cB st w'' hl.1).mono λe w3 h=>⟨h.1,h.2▸aq.eq rfl⟩⟩
 ·rw[hr]at h;simp only[zaE,zaf]at h;obtain⟨rfl,rfl,rfl⟩:=h;have hrl:=ahE hr;refine⟨hb,aB,_,cB,_,_,true,rfl,.inl ⟨rfl,rfl,rfl⟩,λw'' e=>?_⟩;exact(KY cA cB (Rq hl hrl (fp.qP (fp.ki hA hb) e) (fp.qP hB e) ZX λh=>h1 (hst h)) h0 hl.2.1 hrl).mono λe w3 h=>⟨h.1,aq.of h.2⟩
def fR (L S E T F U G:Ξ)(v:Nat→Ξ):Act:=⟨#[L,v 1,.bool false,S,E,T,F,U,G,v 9,v 10,v 11,v 12,v 13,v 14,v 15,v 16,v 17,v 18,v 19,v 20,v 21,v 22,v 23,v 24,v 25,v 26,v 27,v 28,v 29,v 30,v 31,v 32,v 33,v 34,v 35,v 36,v 37,v 38,v 39,v 40,v 41,v 42,v 43,v 44,v 45,v 46,v 47,v 48,v 49,v 50,v 51,v 52,v 53,v 54,v 55,v 56,v 57,v 58,v 59,v 60,v 61,v 62,v 63,v 64,v 65,v 66,v 67,v 68,v 69,v 70,v 71,v 72,v 73,v 74,v 75,v 76,v 77,v 78,v 79,v 80,v 81,v 82,v 83,v 84,v 85,v 86,v 87,v 88,v 89,v 90,v 91,v 92,v 93,v 94,v 95,v 96,v 97,v 98,v 99,v 100,v 101,v 102,v 103,v 104,v 105,v 106,v 107,v 108,v 109,v 110,v 111,v 112,v 113,v 114,v 115,v 116,v 117,v 118,v 119,v 120,v 121,v 122,v 123,v 124,v 125,v 126,v 127,v 128,v 129,v 130,v 131,v 132,v 133,v 134,v 135,v 136,v 137,v 138,v 139,v 140,v 141,v 142,v 143,v 144,v 145,v 146,v 147,v 148,v 149,v 150,v 151,v 152,v 153,v 154,v 155,v 156,v 157,v 158,v 159,v 160,v 161,v 162,v 163,v 164],[]⟩
theorem px:prog.funcs[23]?=some f23:=by kernel_rfl
theorem aeh:f23.ntmps=165:=by kernel_rfl
theorem acf:f23.results=#[.tmp 2]:=by kernel_rfl
theorem ZY:f23.body=some (.seq (pR f23 0) (.seq (pR f23 1) (.seq (pR f23 2) (.seq (pR f23 3) (.seq (pR f23 4) (.seq (pR f23 5) (.seq (pR f23 6) (.seq (pR f23 7) (qR f23 8))))))))):=by kernel_rfl
theorem RI:([0,1,2,3,7].all λn=>bB prog Fz Sz (pR f23 n))=true:=by kernel_rfl
theorem acg:bB prog Fz Sz (qR f23 8)=true:=by kernel_rfl
theorem Cg:([4,5,6].all λn=>bB prog Fz Sz (Ren.cj (pR f23 n))&&bB prog Fz Sz (rR f23 n))=true:=by kernel_rfl
theorem Ci (n:Nat)(h:n=4∨n=5∨n=6):(oR f23 n).size=9:=by rcases h with rfl|rfl|rfl<;>kernel_rfl
theorem RJ (n:Nat)(h:n=4∨n=5∨n=6):([2,3,4,5,6,7,8].all λi=>((oR f23 n)[i]?).all λo=>fo prog Fz Sz o.op)=true:=by rcases h with rfl|rfl|rfl<;>kernel_rfl
structure p5 (l:Array Oper) (i d:Nat) (op:Op):Prop where
 a:l[i]?=some l[i]!
 o:(l[i]!).op=op
 s:(l[i]!).dst=some d
 g:(l[i]!).guard=none
theorem p5.k {l:Array Oper}{d:Nat}{op:Op}(h:(l[i]?).map (λo=>(o.dst,o.op,o.guard))=some (some d,op,none)):p5 l i d op:=by
 cases e:l[i]? with
 |none=>simp[e]at h
 |some o=>
  simp[e]at h;have:l[i]! =o:=by simp[getElem!_def,e]
  exact⟨by rw[e,this],by rw[this,h.2.1],by rw[this,h.1],by rw[this,h.2.2]⟩
theorem p5.d {l:Array Oper}{i d:Nat}{op:Op}(h:p5 l i d op):(l[i]?).bind (·.dst)=some d:=by rw[h.a];exact h.s
theorem ach:pR f23 4=.seq (Ren.cj (pR f23 4)) (.cond (.tmp 37) (.seq (.region 5 (oR f23 4) false) (rR f23 4)) .skip):=by kernel_rfl
theorem afI:p5 (oR f23 4) 0 39 (.move (.tmp 3)):=p5.k (by kernel_rfl)
theorem afJ:p5 (oR f23 4) 1 40 (.call { callee:= .value (.func 18),args:=#[.tmp 39,.const (Γ Δ 30)],argTypes:=#[9,3] }):=p5.k (by kernel_rfl)
theorem aci:pR f23 5=.seq (Ren.cj (pR f23 5)) (.cond (.tmp 72) (.seq (.region 10 (oR f23 5) false) (rR f23 5)) .skip):=by kernel_rfl
theorem afK:p5 (oR f23 5) 0 74 (.move (.tmp 5)):=p5.k (by kernel_rfl)
theorem afL:p5 (oR f23 5) 1 75 (.call { callee:= .value (.func 18),args:=#[.tmp 74,.const (Γ Δ 30)],argTypes:=#[9,3] }):=p5.k (by kernel_rfl)
theorem acj:pR f23 6=.seq (Ren.cj (pR f23 6)) (.cond (.tmp 107) (.seq (.region 15 (oR f23 6) false) (rR f23 6)) .skip):=by kernel_rfl
theorem afM:p5 (oR f23 6) 0 109 (.move (.tmp 7)):=p5.k (by kernel_rfl)
theorem afN:p5 (oR f23 6) 1 110 (.call { callee:= .value (.func 18),args:=#[.tmp 109,.const (Γ Δ 30)],argTypes:=#[9,3] }):=p5.k (by kernel_rfl)
theorem aa.Si {b:η}{a:Act}{ops:Array Oper}{d:Tmp}(hd:(ops[i]?).bind (·.dst)=some d)(h:∀v w',sV s dep w v w'→aa prog Sz Ψ (b.at (a.put (some d) v) (.inRegion ops rest::kk)) cs w'):aa prog Sz Ψ (η.enter prog 18 #[.string ⟨⟨s⟩⟩,Γ Δ dep] .normal) (b.at a (.inRegion ops (i::rest)::kk)::cs) w:=
 aa.top (λdp _ _ h4=>Nl h4 dp) λv w' h1=>by rw[hd];exact h v w' h1
theorem aa.S8 {b:η}{a:Act}{ops:Array Oper}{o:Oper}(ho:ops[i]?=some o)(hw:o.guard=none)(hk:b.kind≠.early)(cG:fo prog Fz Sz o.op=true)(v:Ξ)(hx:∀w':Φ,w'.heap=w.heap→(ι a.eval o).run prog w'=.ok (.value v) w'){d:Tmp}(hd:o.dst=some d){a':Act}(ha:a.put (some d) v=a')
 (h:aa prog Sz Ψ (b.at a' (.inRegion ops rest::kk)) cs w):aa prog Sz Ψ (b.at a (.inRegion ops (i::rest)::kk)) cs w:=by
 subst ha;refine aa.JU dS cG ho (by simp[Region.wanted,hw]) hk λτ dd=>⟨v,w.re τ dd,hx _ rfl,?_⟩;rw[hd];exact h.re rfl
section
variable {Ψ:dn}{cs:List η}{w:Φ}
theorem aa.asR {a:Act}{S E T F U G:Ξ}(e:a=fR L S E T F U G λi=>a.tmps.getD i Θ)(h:∀v,aa prog Sz Ψ ((base 23).at (fR L S E T F U G v) kk) cs w):aa prog Sz Ψ ((base 23).at a kk) cs w:=by
 rw[e];exact h _
theorem aa.aei (hl:gp l)(hW:bJ (l.map aV) 2 403=(s,e))(hA:fp w aA l)
 (h:∀w' v,aq w w'→aa prog Sz Ψ ((base 23).at (fR (.slice aA l.length cA) (.string ⟨⟨s⟩⟩) (Γ Δ e) (.string ⟨⟨t⟩⟩) (Γ Δ f) (.string ⟨⟨u⟩⟩) (Γ Δ g) v) kk) cs w'):aa prog Sz Ψ ((base 23).at (fR (.slice aA l.length cA) (.string ⟨⟨s⟩⟩) (Γ Δ e) (.string ⟨⟨t⟩⟩) (Γ Δ f) (.string ⟨⟨u⟩⟩) (Γ Δ g) v) (.code (pR f23 4)::kk)) cs w:=by
 have mixed:prog.follows Ω=true:=by kernel_rfl
 have HH:Hid _:=h;have HA:Hid (fp w aA l):=hA;have HL:Hid (gp l):=hl;have HW:Hid _:=hW;clear h hA hl hW;unfold fR;rw[ach];refine aa.seq ?_;refine aa.code dS (zbV.1 (zaC.1 Cg 4 (by simp))).1 rfl ⟨_,px⟩ rfl λτ d=>?_;have jb:Hid (aq w (w.re τ d)):=aq.eq rfl;generalize w.re τ d=w1 at *;generalize eF:(.code (.cond (.tmp 37) (.seq (.region 5 (oR f23 4) false) (rR f23 4)) .skip)::kk:List Item)=kq;dsimp only[pR,qR,kj,Ren.bz,Ren.cj,Ren.bM,f23,Λ];by_cases he:e=0
 ·subst he;go_wp2_with fail;subst eF;show aa _ _ _ _ _ _;refine aa.cond (t:=true) rfl ?_;refine aa.seq (aa.region ?_);rw[Ci 4 (by omega),show θ 9=[0,1,2,3,4,5,6,7,8] from rfl];refine aa.S8 afI.a afI.g (by decide) (by kernel_rfl) (.string ⟨⟨s⟩⟩) (λw' _=>by simp only[ι,afI.o];rfl) afI.s rfl ?_;refine aa.lY (f:=18) (xs:=#[.tmp 39,.const (Γ Δ 30)]) (ats:=#[9,3]) (args:=#[.string ⟨⟨s⟩⟩,Γ Δ 30]) afJ.a afJ.g (by decide) afJ.o MV MW (by simp[gD,jl]) (by simp[ξ,π]) ?_;refine aa.Si afJ.d λvr w2 gC=>?_;obtain⟨hb2,aB,nB,cB,at_,e2,is,rfl,lA,vA⟩:=uM HL.out ⟨by omega,by omega⟩ HW.out gC cA (fp.ki HA.out jb.out) true (λh=>by rfl);have iB:Hid (aq w w2):=jb.out.trans hb2;have HS:Hid _:=vA;clear hb2 vA jb gC HL HA HW;refine aa.ops dS rfl ⟨_,px⟩ rfl (RJ 4 (by omega)) 2 ((oR f23 4).toList.drop 2) (by rw[zau,zbL,Ci 4 (by omega)];rfl) (λj=>by rw[zbM,zbz]) λlq d'=>?_;have iT:Hid (aq w (w2.re lq d')):=aq.heap iB.out rfl;have SV:Hid (∀w'':Φ,w''.heap=(w2.re lq d').heap→φ prog 22 #[.slice aA l.length cA,.slice aB nB cB,.bool true] w'' λe w3=>e=.returned (.bool is)∧aq w'' w3):=HS.out;clear iB HS;generalize w2.re lq d'=w3 at *;generalize eF:(.code (rR f23 4)::kk:List Item)=kq;dsimp only[oR,tR,pR,qR,kj,Ren.bz,Ren.cj,Ren.bM,f23,Λ];simp only[zbC,zbu];go_wp2_with fail;subst eF;show aa _ _ _ _ _ _;refine aa.code dS (zbV.1 (zaC.1 Cg 4 (by simp))).2 rfl ⟨_,px⟩ rfl λτ d=>?_;have qJ:Hid (aq w (w3.re τ d)):=aq.heap iT.out rfl;have HC:Hid _:=SV.out (w3.re τ d) rfl;clear iT SV;generalize w3.re τ d=w4 at *;generalize eF:kk=kq;dsimp only[rR,tR,pR,qR,kj,Ren.bz,Ren.cj,Ren.bM,f23,Λ];go_wp2_with fail;refine zai HC.out ?_;rintro e5 w5 ⟨rfl,j8⟩;have rN:Hid (aq w w5):=qJ.out.trans j8;clear qJ HC j8;rcases lA with⟨rfl,rfl,rfl⟩|⟨rfl,rfl⟩|⟨rfl,rfl⟩
  all_goals
   go_wp2_with fail;subst eF;show aa _ _ _ _ _ _;exact aa.asR (by kernel_rfl) λv=>HH.out _ v (aq.heap rN.out rfl)
 ·have TQ:(e==0)=false:=by simpa using he
  go_wp2_with fail;subst eF;show aa _ _ _ _ _ _;refine aa.cond (t:=false) rfl (aa.skip ?_);exact aa.asR (by kernel_rfl) λv=>HH.out _ v jb.out
theorem aa.aej (hl:gp l)(hW:bJ (l.map aV) 1 403=(t,f))(hA:fp w aA l)
 (h:∀w' v,aq w w'→aa prog Sz Ψ ((base 23).at (fR (.slice aA l.length cA) (.string ⟨⟨s⟩⟩) (Γ Δ e) (.string ⟨⟨t⟩⟩) (Γ Δ f) (.string ⟨⟨u⟩⟩) (Γ Δ g) v) kk) cs w'):aa prog Sz Ψ ((base 23).at (fR (.slice aA l.length cA) (.string ⟨⟨s⟩⟩) (Γ Δ e) (.string ⟨⟨t⟩⟩) (Γ Δ f) (.string ⟨⟨u⟩⟩) (Γ Δ g) v) (.code (pR f23 5)::kk)) cs w:=by
 have mixed:prog.follows Ω=true:=by kernel_rfl
 have HH:Hid _:=h;have HA:Hid (fp w aA l):=hA;have HL:Hid (gp l):=hl;have HW:Hid _:=hW;clear h hA hl hW;unfold fR;rw[aci];refine aa.seq ?_;refine aa.code dS (zbV.1 (zaC.1 Cg 5 (by simp))).1 rfl ⟨_,px⟩ rfl λτ d=>?_;have jb:Hid (aq w (w.re τ d)):=aq.eq rfl;generalize w.re τ d=w1 at *;generalize eF:(.code (.cond (.tmp 72) (.seq (.region 10 (oR f23 5) false) (rR f23 5)) .skip)::kk:List Item)=kq;dsimp only[pR,qR,kj,Ren.bz,Ren.cj,Ren.bM,f23,Λ];by_cases he:f=0
 ·subst he;go_wp2_with fail;subst eF;show aa _ _ _ _ _ _;refine aa.cond (t:=true) rfl ?_;refine aa.seq (aa.region ?_);rw[Ci 5 (by omega),show θ 9=[0,1,2,3,4,5,6,7,8] from rfl];refine aa.S8 afK.a afK.g (by decide) (by kernel_rfl) (.string ⟨⟨t⟩⟩) (λw' _=>by simp only[ι,afK.o];rfl) afK.s rfl ?_;refine aa.lY (f:=18) (xs:=#[.tmp 74,.const (Γ Δ 30)]) (ats:=#[9,3]) (args:=#[.string ⟨⟨t⟩⟩,Γ Δ 30]) afL.a afL.g (by decide) afL.o MV MW (by simp[gD,jl]) (by simp[ξ,π]) ?_;refine aa.Si afL.d λvr w2 gC=>?_;obtain⟨hb2,aB,nB,cB,at_,e2,is,rfl,lA,vA⟩:=uM HL.out ⟨by omega,by omega⟩ HW.out gC cA (fp.ki HA.out jb.out) false (λh=>by cases h);have iB:Hid (aq w w2):=jb.out.trans hb2;have HS:Hid _:=vA;clear hb2 vA jb gC HL HA HW;refine aa.ops dS rfl ⟨_,px⟩ rfl (RJ 5 (by omega)) 2 ((oR f23 5).toList.drop 2) (by rw[zau,zbL,Ci 5 (by omega)];rfl) (λj=>by rw[zbM,zbz]) λlq d'=>?_;have iT:Hid (aq w (w2.re lq d')):=aq.heap iB.out rfl;have SV:Hid (∀w'':Φ,w''.heap=(w2.re lq d').heap→φ prog 22 #[.slice aA l.length cA,.slice aB nB cB,.bool false] w'' λe w3=>e=.returned (.bool is)∧aq w'' w3):=HS.out;clear iB HS;generalize w2.re lq d'=w3 at *;generalize eF:(.code (rR f23 5)::kk:List Item)=kq;dsimp only[oR,tR,pR,qR,kj,Ren.bz,Ren.cj,Ren.bM,f23,Λ];simp only[zbC,zbu];go_wp2_with fail;subst eF;show aa _ _ _ _ _ _;refine aa.code dS (zbV.1 (zaC.1 Cg 5 (by simp))).2 rfl ⟨_,px⟩ rfl λτ d=>?_;have qJ:Hid (aq w (w3.re τ d)):=aq.heap iT.out rfl;have HC:Hid _:=SV.out (w3.re τ d) rfl;clear iT SV;generalize w3.re τ d=w4 at *;generalize eF:kk=kq;dsimp only[rR,tR,pR,qR,kj,Ren.bz,Ren.cj,Ren.bM,f23,Λ];go_wp2_with fail;refine zai HC.out ?_;rintro e5 w5 ⟨rfl,j8⟩;have rN:Hid (aq w w5):=qJ.out.trans j8;clear qJ HC j8;rcases lA with⟨rfl,rfl,rfl⟩|⟨rfl,rfl⟩|⟨rfl,rfl⟩
  all_goals
   go_wp2_with fail;subst eF;show aa _ _ _ _ _ _;exact aa.asR (by kernel_rfl) λv=>HH.out _ v (aq.heap rN.out rfl)
 ·have TQ:(f==0)=false:=by simpa using he
  go_wp2_with fail;subst eF;show aa _ _ _ _ _ _;refine aa.cond (t:=false) rfl (aa.skip ?_);exact aa.asR (by kernel_rfl) λv=>HH.out _ v jb.out
theorem aa.aeq (hl:gp l)(hW:bJ (l.map aV) 0 403=(u,g))(hA:fp w aA l)
 (h:∀w' v,aq w w'→aa prog Sz Ψ ((base 23).at (fR (.slice aA l.length cA) (.string ⟨⟨s⟩⟩) (Γ Δ e) (.string ⟨⟨t⟩⟩) (Γ Δ f) (.string ⟨⟨u⟩⟩) (Γ Δ g) v) kk) cs w'):aa prog Sz Ψ ((base 23).at (fR (.slice aA l.length cA) (.string ⟨⟨s⟩⟩) (Γ Δ e) (.string ⟨⟨t⟩⟩) (Γ Δ f) (.string ⟨⟨u⟩⟩) (Γ Δ g) v) (.code (pR f23 6)::kk)) cs w:=by
 have mixed:prog.follows Ω=true:=by kernel_rfl
 have HH:Hid _:=h;have HA:Hid (fp w aA l):=hA;have HL:Hid (gp l):=hl;have HW:Hid _:=hW;clear h hA hl hW;unfold fR;rw[acj];refine aa.seq ?_;refine aa.code dS (zbV.1 (zaC.1 Cg 6 (by simp))).1 rfl ⟨_,px⟩ rfl λτ d=>?_;have jb:Hid (aq w (w.re τ d)):=aq.eq rfl;generalize w.re τ d=w1 at *;generalize eF:(.code (.cond (.tmp 107) (.seq (.region 15 (oR f23 6) false) (rR f23 6)) .skip)::kk:List Item)=kq;dsimp only[pR,qR,kj,Ren.bz,Ren.cj,Ren.bM,f23,Λ];by_cases he:g=0
 ·subst he;go_wp2_with fail;subst eF;show aa _ _ _ _ _ _;refine aa.cond (t:=true) rfl ?_;refine aa.seq (aa.region ?_);rw[Ci 6 (by omega),show θ 9=[0,1,2,3,4,5,6,7,8] from rfl];refine aa.S8 afM.a afM.g (by decide) (by kernel_rfl) (.string ⟨⟨u⟩⟩) (λw' _=>by simp only[ι,afM.o];rfl) afM.s rfl ?_;refine aa.lY (f:=18) (xs:=#[.tmp 109,.const (Γ Δ 30)]) (ats:=#[9,3]) (args:=#[.string ⟨⟨u⟩⟩,Γ Δ 30]) afN.a afN.g (by decide) afN.o MV MW (by simp[gD,jl]) (by simp[ξ,π]) ?_;refine aa.Si afN.d λvr w2 gC=>?_;obtain⟨hb2,aB,nB,cB,at_,e2,is,rfl,lA,vA⟩:=uM HL.out ⟨by omega,by omega⟩ HW.out gC cA (fp.ki HA.out jb.out) false (λh=>by cases h);have iB:Hid (aq w w2):=jb.out.trans hb2;have HS:Hid _:=vA;clear hb2 vA jb gC HL HA HW;refine aa.ops dS rfl ⟨_,px⟩ rfl (RJ 6 (by omega)) 2 ((oR f23 6).toList.drop 2) (by rw[zau,zbL,Ci 6 (by omega)];rfl) (λj=>by rw[zbM,zbz]) λlq d'=>?_;have iT:Hid (aq w (w2.re lq d')):=aq.heap iB.out rfl;have SV:Hid (∀w'':Φ,w''.heap=(w2.re lq d').heap→φ prog 22 #[.slice aA l.length cA,.slice aB nB cB,.bool false] w'' λe w3=>e=.returned (.bool is)∧aq w'' w3):=HS.out;clear iB HS;generalize w2.re lq d'=w3 at *;generalize eF:(.code (rR f23 6)::kk:List Item)=kq;dsimp only[oR,tR,pR,qR,kj,Ren.bz,Ren.cj,Ren.bM,f23,Λ];simp only[zbC,zbu];go_wp2_with fail;subst eF;show aa _ _ _ _ _ _;refine aa.code dS (zbV.1 (zaC.1 Cg 6 (by simp))).2 rfl ⟨_,px⟩ rfl λτ d=>?_;have qJ:Hid (aq w (w3.re τ d)):=aq.heap iT.out rfl;have HC:Hid _:=SV.out (w3.re τ d) rfl;clear iT SV;generalize w3.re τ d=w4 at *;generalize eF:kk=kq;dsimp only[rR,tR,pR,qR,kj,Ren.bz,Ren.cj,Ren.bM,f23,Λ];go_wp2_with fail;refine zai HC.out ?_;rintro e5 w5 ⟨rfl,j8⟩;have rN:Hid (aq w w5):=qJ.out.trans j8;clear qJ HC j8;rcases lA with⟨rfl,rfl,rfl⟩|⟨rfl,rfl⟩|⟨rfl,rfl⟩
  all_goals
   go_wp2_with fail;subst eF;show aa _ _ _ _ _ _;exact aa.asR (by kernel_rfl) λv=>HH.out _ v (aq.heap rN.out rfl)
 ·have TQ:(g==0)=false:=by simpa using he
  go_wp2_with fail;subst eF;show aa _ _ _ _ _ _;refine aa.cond (t:=false) rfl (aa.skip ?_);exact aa.asR (by kernel_rfl) λv=>HH.out _ v jb.out
def e23 (x u:Ξ):Act:=⟨#[x,u,u,u,u,u,u,u,u,u,u,u,u,u,u,u,u,u,u,u,u,u,u,u,u,u,u,u,u,u,u,u,u,u,u,u,u,u,u,u,u,u,u,u,u,u,u,u,u,u,u,u,u,u,u,u,u,u,u,u,u,u,u,u,u,u,u,u,u,u,u,u,u,u,u,u,u,u,u,u,u,u,u,u,u,u,u,u,u,u,u,u,u,u,u,u,u,u,u,u,u,u,u,u,u,u,u,u,u,u,u,u,u,u,u,u,u,u,u,u,u,u,u,u,u,u,u,u,u,u,u,u,u,u,u,u,u,u,u,u,u,u,u,u,u,u,u,u,u,u,u,u,u,u,u,u,u,u,u,u,u,u,u,u,u],[]⟩
theorem t165 (x u:Ξ):(⟨#[x]++ζ (165-#[x].size) u,[]⟩:Act)=e23 x u:=by kernel_rfl
theorem Vk (x:Ξ):η.enter prog 23 #[x] .normal=(base 23).at (e23 x Θ) [.code (.seq (pR f23 0) (.seq (pR f23 1) (.seq (pR f23 2) (.seq (pR f23 3) (.seq (pR f23 4) (.seq (pR f23 5) (.seq (pR f23 6) (.seq (pR f23 7) (qR f23 8)))))))))]:=by
 rw[enter_at _ px ZY,aeh,t165]
theorem aa.aeZ (he:e=0∨e=2)(hf:f=0∨f=2)(hg:g=0∨g=2∨g=9)
 (h:∀w',aq w w'→qL prog Sz Ψ cs (.bool true) w'):aa prog Sz Ψ ((base 23).at (fR L (.string ⟨⟨s⟩⟩) (Γ Δ e) (.string ⟨⟨t⟩⟩) (Γ Δ f) (.string ⟨⟨u⟩⟩) (Γ Δ g) v) [.code (.seq (pR f23 7) (qR f23 8))]) cs w:=by
 have mixed:prog.follows Ω=true:=by kernel_rfl
 have HH:Hid _:=h;have HG:Hid _:=hg;clear h hg;unfold fR;refine aa.seq ?_;refine aa.code dS (zaC.1 RI 7 (by simp)) rfl ⟨_,px⟩ rfl λτ d=>?_;have jb:Hid (aq w (w.re τ d)):=aq.eq rfl;generalize w.re τ d=w1 at *;generalize eF:([.code (qR f23 8)]:List Item)=kq;dsimp only[pR,qR,kj,Ren.bz,Ren.cj,Ren.bM,f23,Λ];rcases he with rfl|rfl<;>rcases hf with rfl|rfl
 all_goals
  go_wp2_with fail;subst eF;show aa _ _ _ _ _ _;refine aa.code dS acg rfl ⟨_,px⟩ rfl λτ d=>?_;have iB:Hid (aq w (w1.re τ d)):=aq.heap jb.out rfl;generalize w1.re τ d=w2 at *;clear jb;dsimp only[pR,qR,kj,Ren.bz,Ren.cj,Ren.bM,f23,Λ];rcases HG.out with rfl|rfl|rfl
  all_goals
   go_wp2_with fail;show ∀todo,aa _ _ _ _ _ _;intro todo;refine aa.yR rfl rfl px (results_tmp acf _ _ _) ?_;exact HH.out _ (aq.heap iB.out rfl)
theorem aa.Sj (hl:gp l)(hm:GK w nv l)(hp:Pow w)(h:∀w',aq w w'→qL prog Sz Ψ cs (.bool true) w'):aa prog Sz Ψ (η.enter prog 23 #[nv] .normal) cs w:=by
 have mixed:prog.follows Ω=true:=by kernel_rfl
 have HH:Hid _:=h;have HP:Hid (Pow w):=hp;have HL:Hid (gp l):=hl;obtain⟨b,cap,G,rfl,ZE,hG,BS,ho⟩:=hm;have hid:l.map aV=(l.map aV).map gP:=by simp[aV,gP]
 have XP:∀(mode:Int) (w':Φ),aq w w'→φ prog 19 #[.slice (some ⟨b,0,none⟩) l.length cap,Γ Δ mode] w' λe w''=>e=.returned (.tuple #[.string ⟨⟨(bJ (l.map aV) mode 403).1⟩⟩,Γ Δ (bJ (l.map aV) mode 403).2])∧aq w' w'':=λmode w' hb=>by
  have hG':bK w' b 0 G:=(hG.below (w':={ w with heap:=w'.heap }) ⟨rfl,rfl,rfl,hb.1,hb.2⟩).qP rfl;have:=s9 G b 0 cap mode 403 (zac _) w' (by rw[ZE];have:=hl.2.1;unfold χ;omega) hG' (Pow.ki hp hb);rw[vu G (l.map aV) (BS.trans hid) mode 403,ZE]at this;exact this.mono λe w'' h=>⟨h.1,aq.of h.2⟩
 have HC:Hid _:=XP;have HO:Hid _:=ho;have h2:=(nJ hl (mode:=2) (by omega)).1;have h1:=(nJ hl (mode:=1) (by omega)).1;have h0:=(nJ hl (mode:=0) (by omega)).1;clear h hp hl hG BS hid XP ho ZE;obtain⟨s,hs⟩:∃s,(bJ (l.map aV) 2 403).1=s:=⟨_,rfl⟩;obtain⟨t,ht⟩:∃s,(bJ (l.map aV) 1 403).1=s:=⟨_,rfl⟩;obtain⟨u,hu⟩:∃s,(bJ (l.map aV) 0 403).1=s:=⟨_,rfl⟩;obtain⟨e,he⟩:∃s,(bJ (l.map aV) 2 403).2=s:=⟨_,rfl⟩;obtain⟨f,hf⟩:∃s,(bJ (l.map aV) 1 403).2=s:=⟨_,rfl⟩;obtain⟨g,hg⟩:∃s,(bJ (l.map aV) 0 403).2=s:=⟨_,rfl⟩;rw[he]at h2;rw[hf]at h1;rw[hg]at h0;have HE:Hid (e=0∨e=2):=by show _∨_;omega
 have HF:Hid (f=0∨f=2):=by show _∨_;omega
 have HG:Hid (g=0∨g=2∨g=9):=by show _∨_;omega
 have wP:Hid (bJ (l.map aV) 2 403=(s,e)):=Prod.ext hs he;have I2:Hid (bJ (l.map aV) 1 403=(t,f)):=Prod.ext ht hf;have NJ:Hid (bJ (l.map aV) 0 403=(u,g)):=Prod.ext hu hg;have HC2:Hid _:=HC.out 2;have HC1:Hid _:=HC.out 1;have HC0:Hid _:=HC.out 0;rw[hs,he]at HC2;rw[ht,hf]at HC1;rw[hu,hg]at HC0;clear h0 h1 h2 hs ht hu he hf hg HC;rw[Vk];unfold e23;refine aa.seq ?_;refine aa.code dS (zaC.1 RI 0 (by simp)) rfl ⟨_,px⟩ rfl λτ d=>?_;have jb:Hid (aq w (w.re τ d)):=aq.eq rfl;generalize w.re τ d=w1 at *;generalize eF:([.code (.seq (pR f23 1) (.seq (pR f23 2) (.seq (pR f23 3) (.seq (pR f23 4) (.seq (pR f23 5) (.seq (pR f23 6) (.seq (pR f23 7) (qR f23 8))))))))]:List Item)=kq;dsimp only[pR,qR,kj,Ren.bz,Ren.cj,Ren.bM,f23,Λ];go_wp2_with fail;subst eF;show aa _ _ _ _ _ _;obtain⟨w2,hw2⟩:∃w2,w1=w2:=⟨_,rfl⟩;rw[hw2]at jb ⊢;have iB:Hid (aq w w2):=jb;clear jb hw2;refine aa.seq ?_;refine aa.code dS (zaC.1 RI 1 (by simp)) rfl ⟨_,px⟩ rfl λτ d=>?_;have iT:Hid (aq w (w2.re τ d)):=aq.heap iB.out rfl;generalize w2.re τ d=w3 at *;generalize eF:([.code (.seq (pR f23 2) (.seq (pR f23 3) (.seq (pR f23 4) (.seq (pR f23 5) (.seq (pR f23 6) (.seq (pR f23 7) (qR f23 8)))))))]:List Item)=kq;dsimp only[pR,qR,kj,Ren.bz,Ren.cj,Ren.bM,f23,Λ];go_wp2_with fail;refine zai (HC2.out _ iT.out) ?_;rintro e1 w4 ⟨rfl,hb⟩;have qJ:Hid (aq w w4):=iT.out.trans hb;clear iT hb HC2;go_wp2_with fail;subst eF;show aa _ _ _ _ _ _;refine aa.seq ?_;refine aa.code dS (zaC.1 RI 2 (by simp)) rfl ⟨_,px⟩ rfl λτ d=>?_;have rN:Hid (aq w (w4.re τ d)):=aq.heap qJ.out rfl;generalize w4.re τ d=w5 at *;generalize eF:([.code (.seq (pR f23 3) (.seq (pR f23 4) (.seq (pR f23 5) (.seq (pR f23 6) (.seq (pR f23 7) (qR f23 8))))))]:List Item)=kq;dsimp only[pR,qR,kj,Ren.bz,Ren.cj,Ren.bM,f23,Λ];go_wp2_with fail;refine zai (HC1.out _ rN.out) ?_;rintro e2 w6 ⟨rfl,hb⟩;have vS:Hid (aq w w6):=rN.out.trans hb;clear rN hb HC1;go_wp2_with fail;subst eF;show aa _ _ _ _ _ _;refine aa.seq ?_;refine aa.code dS (zaC.1 RI 3 (by simp)) rfl ⟨_,px⟩ rfl λτ d=>?_;have yQ:Hid (aq w (w6.re τ d)):=aq.heap vS.out rfl;generalize w6.re τ d=w7 at *;generalize eF:([.code (.seq (pR f23 4) (.seq (pR f23 5) (.seq (pR f23 6) (.seq (pR f23 7) (qR f23 8)))))]:List Item)=kq;dsimp only[pR,qR,kj,Ren.bz,Ren.cj,Ren.bM,f23,Λ];go_wp2_with fail;refine zai (HC0.out _ yQ.out) ?_;rintro e3 w8 ⟨rfl,hb⟩;have S0:Hid (aq w w8):=yQ.out.trans hb;clear yQ hb HC0;go_wp2_with fail;subst eF;show aa _ _ _ _ _ _;refine aa.seq ?_;refine aa.asR (L:= .slice (some ⟨b,0,none⟩) l.length cap) (S:= .string ⟨⟨s⟩⟩) (E:= Γ Δ e) (T:= .string ⟨⟨t⟩⟩) (F:= Γ Δ f) (U:= .string ⟨⟨u⟩⟩) (G:= Γ Δ g) (by kernel_rfl) λv=>?_;refine aa.aei HL.out wP.out (fp.ki HO.out S0.out) λu1 v hb1=>?_;refine aa.seq ?_;refine aa.aej HL.out I2.out (fp.ki HO.out (S0.out.trans hb1)) λu2 v hb2=>?_;refine aa.seq ?_;refine aa.aeq HL.out NJ.out (fp.ki HO.out ((S0.out.trans hb1).trans hb2)) λu3 v hb3=>?_;exact aa.aeZ HE.out HF.out HG.out λw' hb=>HH.out _ ((((S0.out.trans hb1).trans hb2).trans hb3).trans hb)
end
open Go Go.Conc
section
variable {P:ω}{F:ψ→Bool}{S:Sd}{Ψ:dn}{σ:List (Nat×Ξ)}{b:η}{a:Act}{w:Φ}{ops:Array Oper}{i:Nat}{rest:List Nat}{kk:List Item}
theorem qL.ofJ (hC:lp P F S){n:Nat}{r0:Rn}{v:Ξ}(fK:OE P S n a){d:Tmp}(agy:(ops[i]?).bind (·.dst)=some d)(hjd:xM σ (.tmp d)=true)(Ai:∀x,r0.f x=x)(ha1:Ψ.an≤n)(ha2:∀r,r<Ψ.an→r0 r=Ψ.ar r)
 (h:La P S Ψ b σ (a.put (some d) v) (.inRegion ops rest::kk) w):qL P S (Ψ.under (b.at (DI σ (a.rn r0)) (.inRegion ops (i::rest)::kk)) n r0) [] v w:=
 λ_ _ _ _ hn hd hf hr=>aa.ag5 hC hn hd hf hr fK agy hjd Ai ha1 ha2 h
end
theorem ag3 {ev:Operand→Ξ}{o:Oper}{t:Tmp}{len:Nat}(hop:o.op=.call { callee:= .builtin .len,args:=#[.tmp t],argTypes:=#[43] })(e:ev (.tmp t)=.slice sa len cap)(W:Φ):(ι ev o).run prog W=.ok (.value (Γ Δ (len:Nat))) W∧(ι ev o).events prog W #[]=#[]:=by
 unfold ι;constructor<;>simp[hop,resolve,invoke,go_sem,e]
theorem ag4 {ev:Operand→Ξ}{o:Oper}{t s:Tmp}{of len k:Nat}(hop:o.op=.indexAddr 43 (.tmp t) (.tmp s))(e:ev (.tmp t)=.slice (some ⟨b,of,none⟩) len cap)(e2:ev (.tmp s)=Γ Δ (k:Nat))(hlt:k<len)(W:Φ):(ι ev o).run prog W=.ok (.value (.pointer (some ⟨b,of+k,none⟩))) W∧(ι ev o).events prog W #[]=#[]:=by
 unfold ι;constructor<;>simp[hop,go_sem,e,e2,underlying43,hlt]
theorem ag8 (ad:Addr)(z:Int)(W:Φ)(h:W.cell? ad=some (Γ Δ z)):(Instr.loadAt 3 (.pointer (some ad))).run prog W=.ok (Γ Δ z) W∧∀ev∈(Instr.loadAt 3 (.pointer (some ad))).events prog W #[],ev.loc=.cell ad∧ev.write=false:=by
 constructor<;>simp[Instr.loadAt,go_sem,h]
def sgG (X x10 x23 x25:Ξ):List (Nat×Ξ):=[(0,X),(10,x10),(23,x23),(25,x25)]
def ahI (f:Func):Array Oper:=Ren.bz (pR f 1)
def ahH (f:Func):Array Oper:=Ren.bz (afQ (afR (afQ (afP (LI f)))))
def cG8 (f:Func):Code:=afQ (afQ (LI f))
def cG9 (f:Func):Code:=afP (afP (LI f))
def ahJ (f:Func):Code:= .seq (pR f 0) (.seq (.region 1 (ahI f) false) (.seq (pR f 2) (.seq (pR f 3) (.seq (pR f 4) (.seq (.seq (Ren.cj (pR f 5)) (.block 0 (.loop (LI f)))) (qR f 6))))))
theorem fzG:prog.funcs[24]?=some f24:=by kernel_rfl
theorem ntG:f24.ntmps=106:=by kernel_rfl
theorem ahA:f24.results=#[.tmp 2]:=by kernel_rfl
theorem ahm:f24.body=some (ahJ f24):=by kernel_rfl
theorem agF:LI f24=.seq (.seq (cG8 f24) (.cond (.tmp 20) .skip (.exit 0))) (.seq (.block 1 (.seq (.region 10 (ahH f24) false) (NI f24))) (cG9 f24)):=by kernel_rfl
theorem ahn:(ahI f24).size=3:=by kernel_rfl
theorem aho:(ahH f24).size=6:=by kernel_rfl
theorem agU:p5 (ahI f24) 0 10 (.move (.tmp 0)):=p5.k (by kernel_rfl)
theorem agG:p5 (ahI f24) 1 11 (.call { callee:= .builtin .len,args:=#[.tmp 10],argTypes:=#[43] }):=p5.k (by kernel_rfl)
theorem agV:p5 (ahH f24) 0 23 (.move (.tmp 0)):=p5.k (by kernel_rfl)
theorem agW:p5 (ahH f24) 1 24 (.move (.tmp 5)):=p5.k (by kernel_rfl)
theorem agH:p5 (ahH f24) 2 25 (.indexAddr 43 (.tmp 23) (.tmp 24)):=p5.k (by kernel_rfl)
theorem agX:p5 (ahH f24) 3 26 (.load 3 (.tmp 25)):=p5.k (by kernel_rfl)
def fG0 (u:Ξ):Act:=⟨#[u,u,u,u,u,u,u,u,u,u,u,u,u,u,u,u,u,u,u,u,u,u,u,u,u,u,u,u,u,u,u,u,u,u,u,u,u,u,u,u,u,u,u,u,u,u,u,u,u,u,u,u,u,u,u,u,u,u,u,u,u,u,u,u,u,u,u,u,u,u,u,u,u,u,u,u,u,u,u,u,u,u,u,u,u,u,u,u,u,u,u,u,u,u,u,u,u,u,u,u,u,u,u,u,u,u],[]⟩
theorem t106 (x u:Ξ):(⟨#[x]++ζ (106-#[x].size) u,[]⟩:Act)=DI (sgG x u u u) (fG0 u):=by kernel_rfl
theorem ag9 (ρ:Rn):(fG0 Θ).rn ρ=fG0 Θ:=by
 unfold Act.rn;rw[bF.2 λv hv=>?_];have hs:(fG0 Θ).tmps=ζ 106 Θ:=by generalize Θ=u;kernel_rfl
 rw[hs]at hv;rw[(Array.mem_replicate.1 hv).2];exact eu
theorem agY (x:Ξ)(ρ:Rn):η.enter prog 24 #[x] .normal=(base 24).at (DI (sgG x Θ Θ Θ) ((fG0 Θ).rn ρ)) [.code (ahJ f24)]:=by
 rw[enter_at _ fzG ahm,ntG,t106,ag9]
def mdL (zs:List Int)(n i:Nat):List eO:=(zs.take i).map λc=>mdN n (afT c 1125899906842624).toNat
theorem agI (zs:List Int)(n i:Nat)(h:i<zs.length):mdL zs n (i+1)=mdL zs n i++[mdN n (afT (zs.getD i 0) 1125899906842624).toNat]:=by
 unfold mdL;rw[List.take_add_one,zcO,zcG,zat h];rfl
theorem agZ (zs:List Int)(n i:Nat):(mdL zs n i).length≤i:=by unfold mdL;rw[zby,zcM];omega
theorem ag0 (h:zs≠[]):mdL zs (min zs.length 40) (min zs.length 40)=mdG zs:=by
 unfold mdL mdG;rw[zaa h]
 congr 1
 rcases Nat.le_total zs.length 40 with h1|h1
 ·rw[Nat.min_eq_left h1,zbJ (zac _),zbJ h1]
 ·rw[Nat.min_eq_right h1]
theorem af7 {bN:List Ξ}(h:b9 w lo nv bN l)(e:w'.heap=w.heap):b9 w' lo nv bN l:=
 ⟨bC h.1 (zac _) λb _ _=>by rw[e],h.2.1,λj x sv hx hs=>(h.2.2 j x sv hx hs).imp id λ⟨b,h1,h2,h3⟩=>⟨b,h1,h2,by rw[e];exact h3⟩⟩
section
variable {Ψ:dn}{w:Φ}
theorem La.asG {a:Act}{σ:List (Nat×Ξ)}{N I V:Ξ}(e:a=ahG N L I V λi=>a.tmps.getD i Θ)(h:∀v,La prog Sz Ψ (base 24) σ (ahG N L I V v) kk w):La prog Sz Ψ (base 24) σ a kk w:=by
 rw[e];exact h _
theorem La.aha {x23 x25 N V:Ξ}{o len k:Nat}{z:Int}{w1:Φ}(hlt:i<len)(eK:ags Sz Ψ w1 ⟨b,o+i,none⟩ (Γ Δ z))(hpk:∀w,φ prog 17 #[Γ Δ z,Γ Δ 1125899906842624] w λe w'=>e=.returned (Γ Δ (k:Nat))∧w'=w)
 (h:∀w' x25 v,w'.heap=w1.heap→La prog Sz Ψ (base 24) (sgG (.slice (some ⟨b,o,none⟩) len cap) (.slice (some ⟨b,o,none⟩) len cap) (.slice (some ⟨b,o,none⟩) len cap) x25) (ahG N L (Γ Δ (i:Nat)) (Γ Δ (k:Nat)) v) kk w'):
 La prog Sz Ψ (base 24) (sgG (.slice (some ⟨b,o,none⟩) len cap) (.slice (some ⟨b,o,none⟩) len cap) x23 x25) (ahG N L (Γ Δ (i:Nat)) V v) (.code (.region 10 (ahH f24) false)::kk) w1:=by
 have mixed:prog.follows Ω=true:=by kernel_rfl
 have HH:Hid _:=h;have HPk:Hid _:=hpk;clear h hpk;unfold ahG;refine La.region ?_;rw[aho,show θ 6=[0,1,2,3,4,5] from rfl];refine La.mvS (Oc:=(sgG (.slice (some ⟨b,o,none⟩) len cap) (.slice (some ⟨b,o,none⟩) len cap) (.slice (some ⟨b,o,none⟩) len cap) x25)) agV.1 agV.4 (by decide) (X:=(.slice (some ⟨b,o,none⟩) len cap)) agV.2 (λB hB=>afU [] _ 0 _ rfl (by rw[hB];simp)) agV.3 (λB=>af2 [(0,_),(10,_)] [(25,_)] 23 _ _ rfl B) ?_;refine La.S8 dS agW.1 agW.4 (by decide) (by kernel_rfl) (by kernel_rfl) (Γ Δ (i:Nat)) (λw' _=>by simp[ι,agW.2,ξ]) agW.3 rfl ?_;refine La.ahf (Oc:=(sgG (.slice (some ⟨b,o,none⟩) len cap) (.slice (some ⟨b,o,none⟩) len cap) (.slice (some ⟨b,o,none⟩) len cap) (.pointer (some ⟨b,o+i,none⟩)))) agH.1 agH.4 (by decide) (X:=(.pointer (some ⟨b,o+i,none⟩))) (λρ W=>?_) (λρ W=>?_) agH.3 (λB=>af2 [(0,_),(10,_),(23,_)] [] 25 _ _ rfl B) ?_
 ·exact(ag4 agH.2 (afU [(0,_),(10,_)] _ 23 _ rfl (by rw[afY];simp[π])) (agz rfl (by simp[ξ,π])) hlt W).1
 ·exact(ag4 agH.2 (afU [(0,_),(10,_)] _ 23 _ rfl (by rw[afY];simp[π])) (agz rfl (by simp[ξ,π])) hlt W).2
 refine La.ahg agX.1 agX.4 (by decide) agX.2 (ad:=⟨b,o+i,none⟩) (λρ=>afU [(0,_),(10,_),(23,_)] [] 25 _ rfl (by rw[afY];simp[π])) eK (λρ=>by simp[rv]) (ag8 _ _) agX.3 rfl rfl ?_;refine La.ops dS rfl ⟨_,fzG⟩ rfl (l:=[4,5]) (by kernel_rfl) (by kernel_rfl) 4 ((ahH f24).toList.drop 4) (by rw[zau,zbL,aho];rfl) (λj=>by rw[zbM,zbz]) λlq d'=>?_;have HE:Hid ((w1.re lq d').heap=w1.heap):=rfl;clear eK;generalize w1.re lq d'=w3 at *;dsimp only[ahH,NI,LI,afQ,afP,afR,afS,pR,qR,Ren.bz,Ren.cj,Ren.bM,f24,Λ];simp only[zbC,zbu];go_wp2_with fail;refine zai (HPk.out _) ?_;rintro e w' ⟨rfl,hw⟩;rw[hw];clear hw HPk;go_wp2_with fail;show La _ _ _ _ _ _ _ _;exact La.asG (by kernel_rfl) λv=>HH.out _ _ v HE.out
theorem La.ahb {len n:Nat}(hlen:zs.length=len)(hn:n=min len 40)(hz:∀j,j<len→-9223372036854775808≤zs.getD j 0∧zs.getD j 0≤9223372036854775807)
 (hcell:∀j,j<len→∃b o,sa=some ⟨b,o,none⟩∧∀w',aq w w'→ags Sz Ψ w' ⟨b,o+j,none⟩ (Γ Δ (zs.getD j 0)))
 (h:∀w' x23 x25 nv bN a todo,a.defers=[]→a.tmps.getD 2 Θ=nv→b9 w' w.heap.size nv bN (mdL zs n n)→aq w w'→CoO prog Sz Ψ (base 24) (sgG (.slice sa len cap) (.slice sa len cap) x23 x25) a todo w'):
 ∀(m i:Nat) (x23 x25 nv V:Ξ) (bN:List Ξ) (v:Nat→Ξ) (w1:Φ),m+i=n→b9 w1 w.heap.size nv bN (mdL zs n i)→aq w w1→La prog Sz Ψ (base 24) (sgG (.slice sa len cap) (.slice sa len cap) x23 x25) (ahG (Γ Δ (n:Nat)) nv (Γ Δ (i:Nat)) V v) [.code (LI f24),.inLoop (LI f24),.inBlock 0,.code (qR f24 6)] w1:=by
 have mixed:prog.follows Ω=true:=by kernel_rfl
 intro m
 induction m with
 |zero=>
  intro i x23 x25 nv V bN v w1 hm hN hb;obtain rfl:i=n:=by omega
  unfold ahG;generalize vL:LI f24=bd;generalize hkq:([.inLoop bd,.inBlock 0,.code (qR f24 6)]:List Item)=kq;rw[←vL,agF];refine La.seq (La.seq ?_);refine La.code dS (by kernel_rfl) (by kernel_rfl) rfl ⟨_,fzG⟩ rfl λτ d=>?_;have HN:Hid (b9 (w1.re τ d) w.heap.size nv bN (mdL zs i i)):=af7 hN rfl;have HB:Hid (aq w (w1.re τ d)):=aq.heap hb rfl;have HH:Hid _:=h;clear h hcell hz hN hb;generalize w1.re τ d=w2 at *;generalize eF:(.code (.cond (.tmp 20) .skip (.exit 0))::.code (.seq (.block 1 (.seq (.region 10 (ahH f24) false) (NI f24))) (cG9 f24))::kq:List Item)=kr;dsimp only[cG8,NI,LI,afQ,afP,afR,afS,pR,qR,Ren.bz,Ren.cj,Ren.bM,f24,Λ];go_wp2_with fail;subst eF hkq;show La _ _ _ _ _ _ _ _;refine La.cond (t:=false) rfl rfl ?_;refine La.exit (k':=[.code (qR f24 6)]) rfl ?_;refine La.code dS (by kernel_rfl) (by kernel_rfl) rfl ⟨_,fzG⟩ rfl λτ d=>?_;have S7:Hid (b9 (w2.re τ d) w.heap.size nv bN (mdL zs i i)):=af7 HN.out rfl;have iB:Hid (aq w (w2.re τ d)):=aq.heap HB.out rfl;clear HN HB;generalize w2.re τ d=w3 at *;dsimp only[NI,LI,afQ,afP,afR,afS,pR,qR,Ren.bz,Ren.cj,Ren.bM,f24,Λ];go_wp2_with fail;show ∀todo,CoO _ _ _ _ _ _ _ _;intro todo;exact HH.out _ _ _ _ _ _ _ rfl rfl S7.out iB.out
 |succ m ih=>
  intro i x23 x25 nv V bN v w1 hm hN hb;have hlt:i<len:=by omega
  obtain⟨b,o,rfl,hc⟩:=hcell i hlt;have hzi:=hz i hlt;have Ag:=agA (c:=zs.getD i 0) (n:=1125899906842624);have PF:=agB (c:=zs.getD i 0) (n:=1125899906842624) (by omega);have hsn:=agI zs n i (by omega);have hpk:∀w,φ prog 17 #[Γ Δ (zs.getD i 0),Γ Δ 1125899906842624] w λe w'=>e=.returned (Γ Δ (((afT (zs.getD i 0) 1125899906842624).toNat :Nat):Int))∧w'=w:=λw=>by
   rw[show(((afT (zs.getD i 0) 1125899906842624).toNat :Nat):Int)=afT (zs.getD i 0) 1125899906842624 by omega];exact agC _ _ w hzi.1 hzi.2 (by omega) (by omega)
  obtain⟨k,hk⟩:∃k,(afT (zs.getD i 0) 1125899906842624).toNat=k:=⟨_,rfl⟩;rw[hk]at hsn hpk;have S3:k<1125899906842624:=by omega
  have Xs:=agZ zs n i;have HI:Hid _:=ih (i+1);rw[hsn]at HI;have ahD:n≤40:=by omega
  have hin:(i:Int)<(n:Int):=by omega
  have Yw:1≤n:=by omega
  clear ih h hcell hz hsn hzi hn hlen;generalize mdL zs n i=l at *;generalize zs.getD i 0=z at *;generalize vL:LI f24=bd at HI ⊢;generalize hkq:([.inLoop bd,.inBlock 0,.code (qR f24 6)]:List Item)=kq at HI ⊢;unfold ahG;rw[←vL,agF];refine La.seq (La.seq ?_);refine La.code dS (by kernel_rfl) (by kernel_rfl) rfl ⟨_,fzG⟩ rfl λτ d=>?_;have HN:Hid (b9 (w1.re τ d) w.heap.size nv bN l):=af7 hN rfl;have HB:Hid (aq w (w1.re τ d)):=aq.heap hb rfl;have HC:Hid _:=hc;have HPK:Hid _:=hpk;clear hN hb hc hpk Ag PF;generalize w1.re τ d=w2 at *;generalize eF:(.code (.cond (.tmp 20) .skip (.exit 0))::.code (.seq (.block 1 (.seq (.region 10 (ahH f24) false) (NI f24))) (cG9 f24))::kq:List Item)=kr;dsimp only[cG8,NI,LI,afQ,afP,afR,afS,pR,qR,Ren.bz,Ren.cj,Ren.bM,f24,Λ];go_wp2_with fail;subst eF;show La _ _ _ _ _ _ _ _;refine La.cond (t:=true) rfl rfl ?_;refine La.skip (La.seq (La.block (La.seq ?_)));refine La.asG (N:= Γ Δ (n:Nat)) (L:=nv) (I:= Γ Δ (i:Nat)) (V:=V) (by kernel_rfl) λv=>?_;refine La.aha hlt (HC.out w2 HB.out) HPK.out λw3 y25 v he3=>?_;refine La.code dS (by kernel_rfl) (by kernel_rfl) rfl ⟨_,fzG⟩ rfl λτ d=>?_;have hB3:aq w (w3.re τ d):=aq.heap HB.out he3;refine agS (by omega) (by omega) (by omega) hB3.1 (af7 HN.out he3) S3 λv w4 nv4 ahB hN4 NB hl4=>?_;have hB4:aq w w4:=⟨zag hB3.1 NB,λr hr=>(hl4 r hr).trans (hB3.2 r hr)⟩;show La _ _ _ _ _ _ _ _;refine La.inBlock ?_;clear HC HPK HN HB hB3 he3 NB hl4;unfold ahG;refine La.code dS (by kernel_rfl) (by kernel_rfl) rfl ⟨_,fzG⟩ rfl λτ d=>?_;have HN5:Hid (b9 (w4.re τ d) w.heap.size nv4 ahB (l++[mdN n k])):=af7 hN4 rfl;have rN:Hid (aq w (w4.re τ d)):=aq.heap hB4 rfl;clear hN4 hB4;generalize w4.re τ d=w5 at *;dsimp only[cG9,NI,LI,afQ,afP,afR,afS,pR,qR,Ren.bz,Ren.cj,Ren.bM,f24,Λ];go_wp2_with fail;subst hkq;show La _ _ _ _ _ _ _ _;refine La.inLoop ?_;exact La.asG (V:= Γ Δ (k:Nat)) (by kernel_rfl) λv=>HI.out _ _ _ _ _ v _ (by omega) HN5.out rN.out
theorem agt {w w1:Φ}(hb:aq w w1):b9 (w1.alloc (.cells #[Γ Δ 0,.string ⟨#[]⟩,Γ Δ 0,Γ Δ 0,.slice none 0 0] 45)) w.heap.size (.slice (some ⟨w1.heap.size,0,none⟩) 1 1) [.slice none 0 0] [⟨0,[],0,0,[]⟩]:=by
 refine⟨⟨rfl,.inr ⟨w1.heap.size,1,_,rfl,hb.1,zav _ _,zac _,by decide,rfl,rfl⟩⟩,rfl,λj x sv hx hs=>?_⟩;cases j with
 |zero=>cases hx;cases hs;exact .inl ⟨rfl,rfl⟩
 |succ j=>simp at hx
theorem La.graph {len:Nat}(hlen:zs.length=len)(hz:∀j,j<len→-9223372036854775808≤zs.getD j 0∧zs.getD j 0≤9223372036854775807)
 (hcell:∀j,j<len→∃b o,sa=some ⟨b,o,none⟩∧∀w',aq w w'→ags Sz Ψ w' ⟨b,o+j,none⟩ (Γ Δ (zs.getD j 0)))
 (h:∀w' x23 x25 nv bN a todo,a.defers=[]→a.tmps.getD 2 Θ=nv→b9 w' w.heap.size nv bN (mdG zs)→aq w w'→CoO prog Sz Ψ (base 24) (sgG (.slice sa len cap) (.slice sa len cap) x23 x25) a todo w'):
 La prog Sz Ψ (base 24) (sgG (.slice sa len cap) Θ Θ Θ) (fG0 Θ) [.code (ahJ f24)] w:=by
 have mixed:prog.follows Ω=true:=by kernel_rfl
 have HZ:Hid _:=hz;have HC:Hid _:=hcell;have HH:Hid _:=h;clear hz hcell h;unfold fG0 ahJ;refine La.seq ?_;refine La.code dS (by kernel_rfl) (by kernel_rfl) rfl ⟨_,fzG⟩ rfl λτ d=>?_;have jb:Hid (aq w (w.re τ d)):=aq.eq rfl;generalize w.re τ d=w1 at *;generalize eF:([.code (.seq (.region 1 (ahI f24) false) (.seq (pR f24 2) (.seq (pR f24 3) (.seq (pR f24 4) (.seq (.seq (Ren.cj (pR f24 5)) (.block 0 (.loop (LI f24)))) (qR f24 6))))))]:List Item)=kq;dsimp only[NI,LI,afQ,afP,afR,afS,pR,qR,Ren.bz,Ren.cj,Ren.bM,f24,Λ];go_wp2_with fail;subst eF;show La _ _ _ _ _ _ _ _;refine La.seq (La.region ?_);rw[ahn,show θ 3=[0,1,2] from rfl];refine La.mvS (Oc:=(sgG (.slice sa len cap) (.slice sa len cap) Θ Θ)) agU.1 agU.4 (by decide) (X:=(.slice sa len cap)) agU.2 (λB hB=>afU [] _ 0 _ rfl (by rw[hB];simp)) agU.3 (λB=>af2 [(0,_)] [(23,_),(25,_)] 10 _ _ rfl B) ?_;refine La.Ka agG.1 agG.4 (by decide) (X:= Γ Δ (len:Nat)) (λρ=>by simp[rv]) (λρ W=>?_) (λρ W=>?_) agG.3 rfl rfl ?_
 ·exact(ag3 agG.2 (afU [(0,_)] _ 10 _ rfl (by rw[afY];simp)) W).1
 ·exact(ag3 agG.2 (afU [(0,_)] _ 10 _ rfl (by rw[afY];simp)) W).2
 refine La.ops dS rfl ⟨_,fzG⟩ rfl (l:=[2]) (by kernel_rfl) (by kernel_rfl) 2 ((ahI f24).toList.drop 2) (by rw[zau,zbL,ahn];rfl) (λj=>by rw[zbM,zbz]) λlq d'=>?_;have iB:Hid (aq w (w1.re lq d')):=aq.heap jb.out rfl;clear jb;generalize w1.re lq d'=w2 at *;generalize eF:([.code (.seq (pR f24 2) (.seq (pR f24 3) (.seq (pR f24 4) (.seq (.seq (Ren.cj (pR f24 5)) (.block 0 (.loop (LI f24)))) (qR f24 6)))))]:List Item)=kq;dsimp only[ahI,NI,LI,afQ,afP,afR,afS,pR,qR,Ren.bz,Ren.cj,Ren.bM,f24,Λ];simp only[zbC,zbu];go_wp2_with fail;subst eF;show La _ _ _ _ _ _ _ _;obtain⟨n,hn⟩:∃n,n=min len 40:=⟨_,rfl⟩;have HN:Hid _:=hn;have HL:Hid _:=hlen;clear hn hlen;have key:∀(v:Nat→Ξ) (w3:Φ),aq w w3→La prog Sz Ψ (base 24) (sgG (.slice sa len cap) (.slice sa len cap) Θ Θ) (ahG (Γ Δ (n:Nat)) Θ Θ Θ v) [.code (.seq (pR f24 3) (.seq (pR f24 4) (.seq (.seq (Ren.cj (pR f24 5)) (.block 0 (.loop (LI f24)))) (qR f24 6))))] w3:=by
  intro v w3 hb3;clear iB;unfold ahG;refine La.seq ?_;refine La.code dS (by kernel_rfl) (by kernel_rfl) rfl ⟨_,fzG⟩ rfl λτ d=>?_;have qJ:Hid (aq w (w3.re τ d)):=aq.heap hb3 rfl;clear hb3;generalize w3.re τ d=w4 at *;generalize eF:([.code (.seq (pR f24 4) (.seq (.seq (Ren.cj (pR f24 5)) (.block 0 (.loop (LI f24)))) (qR f24 6)))]:List Item)=kq;dsimp only[NI,LI,afQ,afP,afR,afS,pR,qR,Ren.bz,Ren.cj,Ren.bM,f24,Λ];by_cases h0:len=0
  ·obtain rfl:zs=[]:=List.length_eq_zero_iff.1 (HL.out.trans h0);obtain rfl:n=0:=by have:=HN.out;omega
   have HO:Hid _:=agt qJ.out;go_wp2_with fail;show ∀todo,CoO _ _ _ _ _ _ _ _;intro todo;exact HH.out _ _ _ _ _ _ _ rfl rfl HO.out (qJ.out.trans ⟨by simp,λr hr=>zaT _ _ _ hr⟩)
  ·have Ln:((n:Int)==0)=false:=by rw[zah];have:=HN.out;omega
   go_wp2_with fail;subst eF;show La _ _ _ _ _ _ _ _;refine La.seq ?_;refine La.code dS (by kernel_rfl) (by kernel_rfl) rfl ⟨_,fzG⟩ rfl λτ d=>?_;have rN:Hid (aq w (w4.re τ d)):=aq.heap qJ.out rfl;clear qJ;generalize w4.re τ d=w5 at *;generalize eF:([.code (.seq (.seq (Ren.cj (pR f24 5)) (.block 0 (.loop (LI f24)))) (qR f24 6))]:List Item)=kq;dsimp only[NI,LI,afQ,afP,afR,afS,pR,qR,Ren.bz,Ren.cj,Ren.bM,f24,Λ];go_wp2_with fail;subst eF;show La _ _ _ _ _ _ _ _;refine La.seq (La.seq ?_);refine La.code dS (by kernel_rfl) (by kernel_rfl) rfl ⟨_,fzG⟩ rfl λτ d=>?_;have vS:Hid (aq w (w5.re τ d)):=aq.heap rN.out rfl;clear rN;generalize w5.re τ d=w6 at *;generalize eF:([.code (.block 0 (.loop (LI f24))),.code (qR f24 6)]:List Item)=kq;dsimp only[NI,LI,afQ,afP,afR,afS,pR,qR,Ren.bz,Ren.cj,Ren.bM,f24,Λ];go_wp2_with fail;subst eF;show La _ _ _ _ _ _ _ _;refine La.block (La.loop ?_);have hne:zs≠[]:=λe=>h0 (by rw[←HL.out,e];rfl);refine La.asG (N:= Γ Δ (n:Nat)) (L:= .slice none 0 0) (I:= Γ Δ ((0:Nat):Int)) (V:=Θ) (by kernel_rfl) λv=>?_;refine La.ahb HL.out HN.out HZ.out HC.out (λw' x23 x25 nv bN a todo h1 h2 h3 h4=>HH.out w' x23 x25 nv bN a todo h1 h2 ?_ h4) n 0 _ _ _ _ [] v _ (by omega) ⟨zck _ _ _ _,rfl,λj x sv h=>by simp[mdL]at h⟩ vS.out;have:=ag0 hne;rw[HL.out,←HN.out]at this;rw[←this];exact h3
 have HK:Hid _:=key;clear key HH HC HZ;refine La.seq ?_;refine La.code dS (by kernel_rfl) (by kernel_rfl) rfl ⟨_,fzG⟩ rfl λτ d=>?_;have iT:Hid (aq w (w2.re τ d)):=aq.heap iB.out rfl;clear iB;generalize w2.re τ d=w3 at *;generalize eF:([.code (.seq (pR f24 3) (.seq (pR f24 4) (.seq (.seq (Ren.cj (pR f24 5)) (.block 0 (.loop (LI f24)))) (qR f24 6))))]:List Item)=kq at *;dsimp only[NI,LI,afQ,afP,afR,afS,pR,qR,Ren.bz,Ren.cj,Ren.bM,f24,Λ];by_cases h40:40<len
 ·obtain rfl:n=40:=by have:=HN.out;omega
  have hi:(40:Int)<(len:Int):=by omega
  go_wp2_with fail;show La _ _ _ _ _ _ _ _;exact La.asG (by kernel_rfl) λv=>(HK.out v _ iT.out).re rfl
 ·obtain rfl:n=len:=by have:=HN.out;omega
  have hi:¬(40:Int)<(n:Int):=by omega
  go_wp2_with fail;show La _ _ _ _ _ _ _ _;exact La.asG (by kernel_rfl) λv=>(HK.out v _ iT.out).re rfl
end
def sgM (X x8:Ξ):List (Nat×Ξ):=[(0,X),(8,x8)]
theorem fzM:prog.funcs[10]?=some f10:=by kernel_rfl
theorem ntM:f10.ntmps=12:=by kernel_rfl
theorem ahC:f10.results=#[.tmp 2]:=by kernel_rfl
theorem ahp:prog.inits.idxOf? 10=none:=by kernel_rfl
theorem ahq:f10.body=some (.seq (pR f10 0) (.seq (.region 1 (Ren.bz (pR f10 1)) false) (.seq (pR f10 2) (.seq (.region 4 (Ren.bz (pR f10 3)) false) (.seq (.region 5 (Ren.bz (pR f10 4)) false) (qR f10 5)))))):=by kernel_rfl
def fM0 (u:Ξ):Act:=⟨#[u,u,u,u,u,u,u,u,u,u,u,u],[]⟩
theorem t12 (x u:Ξ):(⟨#[x]++ζ (12-#[x].size) u,[]⟩:Act)=DI (sgM x u) (fM0 u):=by kernel_rfl
theorem agr:∀v∈(fM0 Θ).tmps,v=Θ:=λv hv=>by
 have hs:(fM0 Θ).tmps=ζ 12 Θ:=by generalize Θ=u;kernel_rfl
 rw[hs]at hv;exact(Array.mem_replicate.1 hv).2
theorem ahc (ρ:Rn):(fM0 Θ).rn ρ=fM0 Θ:=by
 unfold Act.rn;rw[bF.2 λv hv=>by rw[agr v hv];exact eu]
theorem ahd (x:Ξ)(ρ:Rn):η.enter prog 10 #[x] .normal=(base 10).at (DI (sgM x Θ) ((fM0 Θ).rn ρ)) [.code (.seq (pR f10 0) (.seq (.region 1 (Ren.bz (pR f10 1)) false) (.seq (pR f10 2) (.seq (.region 4 (Ren.bz (pR f10 3)) false) (.seq (.region 5 (Ren.bz (pR f10 4)) false) (qR f10 5))))))]:=by
 rw[enter_at _ fzM ahq,ntM,t12,ahc]
theorem bdM:([20,23,24].all λf=>(prog.funcs[f]?).any (λfn=>fn.body.isSome)&&(prog.funcs[f]?).any (λfn=>fn.name != "runtime.NumGoroutine"))=true:=by kernel_rfl
theorem agu (f:ψ)(h:f∈[20,23,24]):(prog.funcs[f]?).any (λfn=>fn.body.isSome)=true∧(prog.funcs[f]?).any (λfn=>fn.name != "runtime.NumGoroutine")=true:=zbV.1 (zaC.1 bdM f h)
theorem agJ:(Ren.bz (pR f10 1)).size=2:=by kernel_rfl
theorem agb:p5 (Ren.bz (pR f10 1)) 0 5 (.call { callee:= .value (.func 20),args:=#[],argTypes:=#[] }):=p5.k (by kernel_rfl)
theorem agK:(Ren.bz (pR f10 3)).size=3:=by kernel_rfl
theorem agc:p5 (Ren.bz (pR f10 3)) 0 8 (.move (.tmp 0)):=p5.k (by kernel_rfl)
theorem agd:p5 (Ren.bz (pR f10 3)) 1 9 (.call { callee:= .value (.func 24),args:=#[.tmp 8],argTypes:=#[43] }):=p5.k (by kernel_rfl)
theorem agL:(Ren.bz (pR f10 4)).size=3:=by kernel_rfl
theorem age:p5 (Ren.bz (pR f10 4)) 0 10 (.move (.tmp 4)):=p5.k (by kernel_rfl)
theorem agf:p5 (Ren.bz (pR f10 4)) 1 11 (.call { callee:= .value (.func 23),args:=#[.tmp 10],argTypes:=#[28] }):=p5.k (by kernel_rfl)
theorem Wm (a:Act)(ρ:Rn)(i:Nat):(a.rn ρ).tmps.getD i Θ=rv ρ (a.tmps.getD i Θ):=by
 simp only[Act.rn,zbE,zaz];cases a.tmps[i]?<;>simp[eu]
theorem La.made {len:Nat}(hlen:zs.length=len)(hz:∀j,j<len→-9223372036854775808≤zs.getD j 0∧zs.getD j 0≤9223372036854775807)
 (hcell:∀j,j<len→∃b o,sa=some ⟨b,o,none⟩∧∀w',aq w w'→ags Sz Ψ w' ⟨b,o+j,none⟩ (Γ Δ (zs.getD j 0)))(hp:Pow w)
 (h:∀w' x8 a todo,a.defers=[]→a.tmps.getD 2 Θ=.bool true→aq w w'→CoO prog Sz Ψ (base 10) (sgM (.slice sa len cap) x8) a todo w'):
 La prog Sz Ψ (base 10) (sgM (.slice sa len cap) Θ) (fM0 Θ) [.code (.seq (pR f10 0) (.seq (.region 1 (Ren.bz (pR f10 1)) false) (.seq (pR f10 2) (.seq (.region 4 (Ren.bz (pR f10 3)) false) (.seq (.region 5 (Ren.bz (pR f10 4)) false) (qR f10 5))))))] w:=by
 have mixed:prog.follows Ω=true:=by kernel_rfl
 have HZ:Hid _:=hz;have HC:Hid _:=hcell;have HH:Hid _:=h;have HP:Hid (Pow w):=hp;have HLN:Hid _:=hlen;clear hz hcell h hp hlen;unfold fM0;refine La.seq ?_;refine La.code dS (by kernel_rfl) (by kernel_rfl) rfl ⟨_,fzM⟩ rfl λτ d=>?_;have jb:Hid (aq w (w.re τ d)):=aq.eq rfl;generalize w.re τ d=w1 at *;generalize eF:([.code (.seq (.region 1 (Ren.bz (pR f10 1)) false) (.seq (pR f10 2) (.seq (.region 4 (Ren.bz (pR f10 3)) false) (.seq (.region 5 (Ren.bz (pR f10 4)) false) (qR f10 5)))))]:List Item)=kq;dsimp only[pR,qR,Ren.bz,Ren.cj,Ren.bM,f10,Λ];go_wp2_with fail;subst eF;show La _ _ _ _ _ _ _ _;refine La.seq (La.region ?_);rw[agJ,show θ 2=[0,1] from rfl];refine La.ag2 agb.a agb.g (by decide) agb.o (agu 20 (by simp)).1 (agu 20 (by simp)).2 (by simp) (by simp) (args:=#[]) (by simp) λρ h1 h2 h3 fK=>aa.ZC (Pow.ki HP.out jb.out) λw2 hb2=>qL.ofJ dS fK agb.d rfl h1 h2 h3 ?_;have iB:Hid (aq w w2):=jb.out.trans hb2;clear jb hb2;refine La.ops dS rfl ⟨_,fzM⟩ rfl (l:=[1]) (by kernel_rfl) (by kernel_rfl) 1 ((Ren.bz (pR f10 1)).toList.drop 1) (by rw[zau,zbL,agJ];rfl) (λj=>by rw[zbM,zbz]) λlq d'=>?_;have iT:Hid (aq w (w2.re lq d')):=aq.heap iB.out rfl;clear iB;generalize w2.re lq d'=w3 at *;generalize eF:([.code (.seq (pR f10 2) (.seq (.region 4 (Ren.bz (pR f10 3)) false) (.seq (.region 5 (Ren.bz (pR f10 4)) false) (qR f10 5))))]:List Item)=kq;dsimp only[pR,qR,Ren.bz,Ren.cj,Ren.bM,f10,Λ];simp only[zbC,zbu];go_wp2_with fail;subst eF;show La _ _ _ _ _ _ _ _;refine La.seq ?_;refine La.code dS (by kernel_rfl) (by kernel_rfl) rfl ⟨_,fzM⟩ rfl λτ d=>?_;have qJ:Hid (aq w (w3.re τ d)):=aq.heap iT.out rfl;clear iT;generalize w3.re τ d=w4 at *;generalize eF:([.code (.seq (.region 4 (Ren.bz (pR f10 3)) false) (.seq (.region 5 (Ren.bz (pR f10 4)) false) (qR f10 5)))]:List Item)=kq;dsimp only[pR,qR,Ren.bz,Ren.cj,Ren.bM,f10,Λ];go_wp2_with fail;subst eF;show La _ _ _ _ _ _ _ _;refine La.seq (La.region ?_);rw[agK,show θ 3=[0,1,2] from rfl];refine La.mvS (Oc:=(sgM (.slice sa len cap) (.slice sa len cap))) agc.a agc.g (by decide) (X:=(.slice sa len cap)) agc.o (λB hB=>afU [] _ 0 _ rfl (by rw[hB];simp)) agc.s (λB=>af2 [(0,_)] [] 8 _ _ rfl B) ?_;refine La.ahe agd.a (λρ=>by simp[Region.wanted,agd.g]) (by decide) agd.o (agu 24 (by simp)).1 (agu 24 (by simp)).2 (b':=base 24) (Oc:=sgG (.slice sa len cap) Θ Θ Θ) (a':=fG0 Θ) (k':=[.code (ahJ f24)]) (λρ=>?ent) (λ_=>?cl) λρ h1 h2 h3 fK=>?_
 case ent=>
  rw[←agY _ ρ]
  congr 1
  simp only[zbR,zaB,zbt];rw[show(DI (sgM (.slice sa len cap) (.slice sa len cap)) (Act.rn _ ρ)).eval (.tmp 8)=(.slice sa len cap) from afU [(0,_)] [] 8 _ rfl (by rw[afY];simp)]
 case cl=>
  intro v hv;have hs:(fG0 Θ).tmps=ζ 106 Θ:=by generalize Θ=u;kernel_rfl
  rw[hs]at hv;rw[(Array.mem_replicate.1 hv).2];exact eu
 refine La.graph HLN.out HZ.out (λj hj=>?cells) λw5 x23 x25 nv bN a todo hd jA hN j8=>?_
 case cells=>
  obtain⟨b,o,e,hr⟩:=HC.out j hj;exact⟨b,o,e,λw' hb'=>hr w' (qJ.out.trans hb')⟩
 have rN:Hid (aq w w5):=qJ.out.trans j8;refine CoO.agQ (v:=nv) rfl (λρ=>by rw[af3];exact hd) fzG (λρ W'=>(results_tmp ahA _ _ _).trans (by rw[af5 2 _ _ (ua (by rfl)),Wm,jA])) (λρ W'=>by simp[results,go_sem]) (λhc=>by rw[←jA];exact hc.get 2) fK agd.d rfl h1 h2 h3 ?_;have HM:Hid (GK w5 nv (mdG zs)):=GK.of hN (af8 zs) (agT zs);obtain⟨na,nc,rfl,-⟩:=nI hN;clear qJ j8 hN jA hd fK;refine La.ops dS rfl ⟨_,fzM⟩ rfl (l:=[2]) (by kernel_rfl) (by kernel_rfl) 2 ((Ren.bz (pR f10 3)).toList.drop 2) (by rw[zau,zbL,agK];rfl) (λj=>by rw[zbM,zbz]) λlq d'=>?_;have vS:Hid (aq w (w5.re lq d')):=aq.heap rN.out rfl;have HM6:Hid (GK (w5.re lq d') (.slice na (mdG zs).length nc) (mdG zs)):=HM.out.ki (aq.eq rfl);clear rN HM;generalize w5.re lq d'=w6 at *;generalize eF:([.code (.seq (.region 5 (Ren.bz (pR f10 4)) false) (qR f10 5))]:List Item)=kq;dsimp only[pR,qR,Ren.bz,Ren.cj,Ren.bM,f10,Λ];simp only[zbC,zbu];go_wp2_with fail;subst eF;show La _ _ _ _ _ _ _ _;refine La.seq (La.region ?_);rw[agL,show θ 3=[0,1,2] from rfl];refine La.S8 dS age.a age.g (by decide) (by kernel_rfl) (by kernel_rfl) (.slice na (mdG zs).length nc) (λw' _=>by simp[ι,age.o,ξ]) age.s rfl ?_;refine La.ag2 agf.a agf.g (by decide) agf.o (agu 23 (by simp)).1 (agu 23 (by simp)).2 (by simp[gD]) (by kernel_rfl) (args:=#[.slice na (mdG zs).length nc]) (by simp[ξ,π]) λρ h1 h2 h3 fK=>aa.Sj (af8 zs) HM6.out (Pow.ki HP.out vS.out) λw7 DT=>qL.ofJ dS fK agf.d rfl h1 h2 h3 ?_;have yQ:Hid (aq w w7):=vS.out.trans DT;clear vS DT HM6;refine La.ops dS rfl ⟨_,fzM⟩ rfl (l:=[2]) (by kernel_rfl) (by kernel_rfl) 2 ((Ren.bz (pR f10 4)).toList.drop 2) (by rw[zau,zbL,agL];rfl) (λj=>by rw[zbM,zbz]) λlq d'=>?_;have S0:Hid (aq w (w7.re lq d')):=aq.heap yQ.out rfl;clear yQ;generalize w7.re lq d'=w8 at *;generalize eF:([.code (qR f10 5)]:List Item)=kq;dsimp only[pR,qR,Ren.bz,Ren.cj,Ren.bM,f10,Λ];simp only[zbC,zbu];go_wp2_with fail;subst eF;show La _ _ _ _ _ _ _ _;refine La.code dS (by kernel_rfl) (by kernel_rfl) rfl ⟨_,fzM⟩ rfl λτ d=>?_;have HB9:Hid (aq w (w8.re τ d)):=aq.heap S0.out rfl;clear S0;generalize w8.re τ d=w9 at *;dsimp only[pR,qR,Ren.bz,Ren.cj,Ren.bM,f10,Λ];go_wp2_with fail;show ∀todo,CoO _ _ _ _ _ _ _ _;intro todo;exact HH.out _ _ _ _ rfl rfl HB9.out
theorem SB (h:YtlhimdjkkiflhaaGreatDoor.Pow w)(e:w'.heap[1]?=w.heap[1]?):YtlhimdjkkiflhaaGreatDoor.Pow w':=by
 have g:prog.globalNamed "internal/strconv.uint64pow10" =some 1:=by kernel_rfl
 unfold YtlhimdjkkiflhaaGreatDoor.Pow Lib.TabIs Φ.var? at h ⊢;rw[g]at h ⊢;simp only[zce]at h ⊢;rw[e];exact h
theorem ahr {W:Φ}{n0:Nat}{r0:Rn}{Post:Ξ→Φ→Prop}{o:Nat}{v:Ξ}(hb:prog.globals.size≤W.heap.size)(hc:W.cell? ⟨b,o,none⟩=some v){ro:Nat→Prop}{aao:∀b,ro b→b<W.heap.size∧∀r,lo≤r→r<n0→b≠r0 r}(hro:4≤b→ro b):∀w',aq (XQ prog Sz W) w'→ags Sz (ago prog W lo n0 r0 ro aao Post) w' ⟨b,o,none⟩ v:=by
 intro w' hB;by_cases h4:4≤b
 ·exact .inl ⟨hro h4,hc⟩
 ·have hlt:b<prog.globals.size:=by rw[O8];omega
  refine .inr ⟨zaq _,by show b<4;omega,?_⟩;have e:w'.heap[b]?=W.heap[b]?:=by
   rw[hB.2 b (by rw[Sk];exact hlt),tG hb (by show 0≤b;omega) hlt]
  rw[←hc];unfold Φ.cell?
  rw[e]
theorem agv {W:Φ}{len:Nat}{Post:Ξ→Φ→Prop}(hb:prog.globals.size≤W.heap.size)(hl:∀r o,r<4→W.heap[r]?=some o→l6 o∧∀ρ:Rn,ro ρ o=o)(hp:YtlhimdjkkiflhaaGreatDoor.Pow W)
 (hlen:zs.length=len)(hz:∀j,j<len→-9223372036854775808≤zs.getD j 0∧zs.getD j 0≤9223372036854775807)(hcell:∀j,j<len→∃b o,sa=some ⟨b,o,none⟩∧W.cell? ⟨b,o+j,none⟩=some (Γ Δ (zs.getD j 0)))
 (acA:∀W':Φ,W'.tape=W.tape→W'.os=W.os→W'.output=W.output→W.heap.size≤W'.heap.size→(∀b,b<W.heap.size→W'.heap[b]?=W.heap[b]?)→Post (.bool true) W'):
 ∃N last o w' t',runNT prog (N+1) (solo (G (η.enter prog 10 #[.slice sa len cap] .normal) []) W) #[]=(.ended o w',t')∧runN prog N (solo (G (η.enter prog 10 #[.slice sa len cap] .normal) []) W)=.next last∧step prog last=.ended o w'∧Conc.Good prog Post last o w' t':=by
 have Vm:ja prog Sz (ek jR prog.globals.size W.heap.size) (XQ prog Sz W) W:=Vn (by rw[O8];decide) (by rw[O8];decide) hb λr o _ h2 ho=>hl r o (by rw[O8]at h2;exact h2) ho;have hP0:YtlhimdjkkiflhaaGreatDoor.Pow (XQ prog Sz W):=SB hp (tG hb (by decide) (by rw[O8];decide));have aao:∀b,(∃o,sa=some ⟨b,o,none⟩∧4≤b∧0<len)→b<W.heap.size∧∀r,Sz.d≤r→r<(XQ prog Sz W).heap.size→b≠ek jR prog.globals.size W.heap.size r:=by
  rintro b ⟨o,Nu,h4,h0⟩;obtain⟨b',o',ahs,hc⟩:=hcell 0 h0;have e:b'=b:=by
   rw[Nu]at ahs;cases ahs;rfl
  subst e;refine⟨Φ.block_lt_of_cell? _ _ hc,λr _ hr=>?_⟩;rw[Sk]at hr;rw[bg hr];rw[O8]at hr;show b'≠r;omega
 have ha:OE prog Sz (XQ prog Sz W).heap.size (fM0 Θ):=λv hv=>by rw[agr v hv];exact eu
 refine agj (Post:=Post) (ro:=λb=>∃o,sa=some ⟨b,o,none⟩∧4≤b∧0<len) (aao:=aao) Vm (ahd _ _) ha ?_;refine La.made hlen hz (λj hj=>?_) hP0 λw' x8 a todo hd h4 hB=>?_
 ·obtain⟨b,o,Nu,hc⟩:=hcell j hj;exact⟨b,o,Nu,ahr hb hc λh4=>⟨o,Nu,h4,by omega⟩⟩
 ·exact CoO.last (v:= .bool true) rfl hd fzM ahp (λρ W'=>(results_tmp ahC _ _ _).trans (by rw[af5 2 _ _ (ua (by rfl)),Wm,h4];simp[rv])) (λρ W'=>by simp[results,go_sem]) λW' ρ hO hS wH=>acA W' hO.tape hO.os hO.output hO.size λb hb'=>Vl Vm hO hS wH (λr hr=>hB.2 r hr) hb'
variable {H:Type}{enc:υ×Ξ→H}
theorem Ac {a:Assume}{C:Checked}{os:Os}{f:ψ}{fn:Func}{s:ChangeSpec}{conds:List PathCond}{apart fresh handsOn again:Bool}{laid:List (String×DataW Unit)}
 (own:ownKnob C.prog.godebug=none)(started:os.Started)(hfn:C.prog.funcs[f]?=some fn)
 (witness:∃(w:Φ) (tape:Tape) (i:Input),w.os=os∧(w.forCall tape i).Shaped C.prog∧i.vars=[]∧Input.okWide C.prog (w.forCall tape i) .any w.heap.size f i∧
   (OpenSpec.ofChange s).preRow enc C.prog fn conds apart laid (w.forCall tape i).memory i.args∧a.holds C.prog (lone (η.enter C.prog f i.args .normal) [] (w.forCall tape i)))
 (runs:∀(W:Φ) (base:Nat) (args:Array Ξ) (ds gs:List (DataW H)) (before:List MemPlace),
   (∀(j:Nat) t v,fn.params[j]?=some t→args[j]?=some v→Ξ.okWide C.prog W .any base t v)→
   DataW.Whole enc C.prog fn.params.toList s.vars apart W args.toList ds gs before→
   (DataW.weightsEach C.prog (fn.params.toList++(OpenSpec.ofChange s).bare.plain.varTypes C.prog) (ds++gs)).all (·≤reachBytes)=true→
   laidMetH C.prog laid W→
   W.ShapedOpen C.prog→
   ∃M last o w' t',runNT C.prog (M+1) (solo (G (η.enter C.prog f args .normal) []) W) #[]=(.ended o w',t')∧runN C.prog M (solo (G (η.enter C.prog f args .normal) []) W)=.next last∧
    step C.prog last=.ended o w'∧Conc.Good C.prog (λv W'=>s.post enc C.prog fn apart fresh handsOn again W args v W') last o w' t'):
 ReturnsInLeavingWide a C os f .any ((OpenSpec.ofChange s).preRow enc C.prog fn conds apart laid) (s.post enc C.prog fn apart fresh handsOn again):=by
 refine returnsInLeavingWide_of_good own started witness ?_;intro w tape i _ C8 _ cG ae8 ae9;obtain⟨_,_,_,fn',XZ,_,_,_,_,hval⟩:=cG;have e:fn'=fn:=zaM (XZ.symm.trans hfn);subst e;obtain⟨⟨hp,hl⟩,hz⟩:=ae8;obtain⟨ds,gs,before,hw,hc,hk⟩:=OpenSpec.pre_parts hp;have hw':=DataW.Whole.of_heap (w':=w.forCall tape i) (by rfl) hw;obtain⟨M,last,o,w',t',h1,h2,h3,h4⟩:=runs (w.forCall tape i) w.heap.size i.args ds gs before hval hw' (hz.weights hw) (hl.of_heap (by rfl)) C8;exact⟨M,last,o,w',t',h1,h2,h3,h4.mono λv hp=>ChangeSpec.post_blind hp⟩
theorem Ns (Lk:Looks){p:Pinned}{s:OpenSpec}{c:OpenClaim}(kinds:List LaidKind)(tests:Bool)(Z5:Bool×String)(lk:Bool)
 (hc:c.holds p s)(hw:c.wfByText s=true)(afa:c.laidByTextAt Lk p kinds tests)
 (hst:c.start=.entering)(hnb:c.noBlocks=false∧c.again=false)(hm:p.checked.prog.mainIs=some (Z5.1,Z5.2.toList))(hn:(!Z5.1&&Z5.2.isEmpty&&!lk)=false)
 (hl:∀f fn,p.checked.prog.funcNamed c.func=some f→p.checked.prog.funcs[f]?=some fn→lk=p.checked.prog.looks []∧∀(j:Nat) t,fn.params[j]?=some t→p.checked.prog.wantsStandIn t=false)
 (hg:true=c.goesBy p.checked.prog):
 Claim7.holds p (.plain s) { stood:={ row:=c,standIns:=[],harness:=Z5,looks:=lk },kinds:=[],alts:=[],goes:=true,laidByText:=true,laidKinds:=kinds,laidTests:=tests,laidLooks:=Lk }:=by
 have h6:∀r:OpenClaim,Claim7.isSixth { stood:={ row:=r,standIns:=[],harness:=Z5,looks:=lk },kinds:=[] }=false:=λr=>by simpa[Claim7.isSixth]using hn
 exact⟨Claim7.tied_new_at Lk kinds tests (Claim7.new_of_sixth hc Z5 lk hst hnb hm (h6 c) hl) hw,λD hD=>by(cases hD),afa,(λh=>by cases h),hg⟩
end Go.Ren
namespace Go.Proofs.YtlhimdjkkiflhaaGreatDoor
open Go.Proofs.Tryz
open Go.ChangeShapes Go.WideShapes Go.ChangeAt Go.RowKit Go.Loop Go.Ren
variable {W:Φ}
theorem acB:prog.globalNamed "internal/strconv.uint64pow10" =some 1:=by kernel_rfl
theorem g32:prog.globalNamed "math/bits.deBruijn32tab" =some 2:=by kernel_rfl
theorem g64:prog.globalNamed "math/bits.deBruijn64tab" =some 3:=by kernel_rfl
theorem SC:(prog.globals[1]?).map (·.type)=some 300:=by kernel_rfl
theorem Wn:(prog.globals[2]?).map (·.type)=some 306:=by kernel_rfl
theorem Wo:(prog.globals[3]?).map (·.type)=some 307:=by kernel_rfl
theorem SD:prog.cellsOf 300=20:=by kernel_rfl
theorem Wp:prog.cellsOf 306=32:=by kernel_rfl
theorem Wq:prog.cellsOf 307=64:=by kernel_rfl
theorem SE:prog.cellsOf 137=1:=by kernel_rfl
theorem K1:prog.cellsOf 5=1:=by kernel_rfl
theorem own:ownKnob prog.godebug=none:=by kernel_rfl
def K2:List Int:=[0,1,28,2,29,14,24,3,30,22,20,15,25,17,4,8,31,27,13,23,21,19,16,7,26,12,18,6,11,5,10,9]
def GU:List Int:=[0,1,56,2,57,49,28,3,61,58,42,50,38,29,17,4,62,47,59,36,45,43,51,22,53,39,33,30,24,18,12,5,63,55,48,27,60,41,37,16,46,35,44,21,52,32,23,11,54,26,40,15,34,20,31,10,25,14,19,9,13,8,7,6]
theorem DK (h:laidMetH prog Rows.madeRow.laid W):Pow W∧W.var? prog "math/bits.deBruijn32tab" =some (K2.map (Ξ.int .u8)).toArray∧W.var? prog "math/bits.deBruijn64tab" =some (GU.map (Ξ.int .u8)).toArray:=by
 have h':laidMet prog Rows.madeRow.laid W:=h;obtain⟨ps,hl,_,_⟩:=h';obtain⟨g1,t1,cs1,afi,p1,q1,hg1,rH,acC,IK,hl2,_⟩:=hl;obtain⟨g2,t2,cs2,afj,p2,q2,hg2,ht2,acD,hd2,ZG,_⟩:=hl2;obtain⟨g',t',cs,fuel,p,q,tK,Ie,afb,hd,_,_⟩:=ZG;obtain rfl:=zaM (acB.symm.trans tK);obtain rfl:=zaM (SC.symm.trans Ie);obtain rfl:=zaM (g32.symm.trans hg1);obtain rfl:=zaM (Wn.symm.trans rH);obtain rfl:=zaM (g64.symm.trans hg2);obtain rfl:=zaM (Wo.symm.trans ht2);refine⟨?_,?_,?_⟩
 ·show Lib.TabIs _ _ _ _ _;unfold Lib.TabIs;rw[afb,←Lib.cells_of_tab (k:= .u64) (zs:=Lib.pow10Tab) underlying300 underlying137 SE SD hd]
 ·rw[acC,←Lib.cells_of_tab (k:= .u8) (zs:=K2) underlying306 underlying5 K1 Wp IK]
 ·rw[acD,←Lib.cells_of_tab (k:= .u8) (zs:=GU) underlying307 underlying5 K1 Wq hd2]
theorem Ad {name:String}{g:Nat}{k:IntKind}{zs:List Int}{o:Obj}(hg:prog.globalNamed name=some g)(h:W.var? prog name=some (zs.map (Ξ.int k)).toArray)(ho:W.heap[g]?=some o):l6 o∧∀ρ:Rn,ro ρ o=o:=by
 unfold Φ.var? at h;rw[hg]at h;simp only[zce,ho]at h;cases o with
 |cells c t f=>
  simp only[zaE]at h;subst h;refine⟨trivial,λρ=>?_⟩;show Obj.cells (Array.map (rv ρ) _) t f=_;rw[bF.2 λx hx=>?_];obtain⟨z,_,rfl⟩:=zbo.1 (zca.1 hx);simp[rv]
 |_=>cases h
theorem SG {P:ω}{w:Φ}{r:Reach}{b:Nat}{t:υ}{v:Ξ}{k:IntKind}(ht:P.underlying t=some (.int k))(h:Cell.ok P w r b t v):∃n,v=.int k n:=by
 unfold Cell.ok at h;rw[ht]at h;cases v<;>first|exact h.elim|skip
 obtain⟨rfl,_⟩:=h;exact⟨_,rfl⟩
theorem ct3:prog.cellTypes prog.depth 3=some [3]:=by kernel_rfl
theorem afc:((begin prog (λ_ _=>0) default).world.heap[0]?).bind Obj.row? =some (#[Γ Δ 0],3):=by kernel_rfl
theorem bd3:prog.buildable 3=true:=by kernel_rfl
theorem Nt (h:W.ShapedOpen prog){o:Obj}(ho:W.heap[0]?=some o):l6 o∧∀ρ:Rn,ro ρ o=o:=by
 obtain⟨cs,h1,_,h2⟩:=h.1 0 _ _ (by rw[O8];decide) afc;obtain⟨ts,h3,_,h4⟩:=h2 bd3;rw[ct3]at h3;cases h3;rw[h1]at ho;cases ho;refine⟨trivial,λρ=>?_⟩;show Obj.cells (cs.map (rv ρ)) 3 _=_;rw[bF.2 λx hx=>?_];obtain⟨i,hi⟩:=Array.mem_iff_getElem?.1 hx;obtain⟨u,hu,hc⟩:=h4 i x hi;have hu3:u=3:=by
  have:([3]:List υ)[i%1]?=some u:=hu;rw[Nat.mod_one]at this;simpa using this.symm
 subst hu3;obtain⟨n,rfl⟩:=SG underlying3 hc;simp[rv]
theorem GX (C8:W.ShapedOpen prog)(hp:Pow W)(h32:W.var? prog "math/bits.deBruijn32tab" =some (K2.map (Ξ.int .u8)).toArray)(Ws:W.var? prog "math/bits.deBruijn64tab" =some (GU.map (Ξ.int .u8)).toArray)(r:Nat)(o:Obj)(h4:r<4)(ho:W.heap[r]?=some o):l6 o∧∀ρ:Rn,ro ρ o=o:=by
 have hr:r=0∨r=1∨r=2∨r=3:=by omega
 rcases hr with rfl|rfl|rfl|rfl
 ·exact Nt C8 ho
 ·exact Ad acB hp ho
 ·exact Ad g32 h32 ho
 ·exact Ad g64 Ws ho
theorem GY (Ws:W.var? prog "math/bits.deBruijn64tab" =some (GU.map (Ξ.int .u8)).toArray):prog.globals.size≤W.heap.size:=by
 rw[O8];rcases zaw 3 W.heap.size with h|h
 ·exact h
 ·unfold Φ.var? at Ws;rw[g64]at Ws;simp only[zce,zbQ h]at Ws;cases Ws
def putCells (cs:Array Ξ):Obj→Obj
 |.cells _ t frozen=> .cells cs t frozen
 |o=>o
def Z6 (P:ω)(os:Os):Φ:={ Φ.holding P os ⟨#[],#[],[]⟩with heap:=(((Φ.holding P os ⟨#[],#[],[]⟩).heap.modify 1 (putCells (Lib.pow10Tab.map (Ξ.int .u64)).toArray)).modify 2 (putCells (K2.map (Ξ.int .u8)).toArray)).modify 3 (putCells (GU.map (Ξ.int .u8)).toArray) }
theorem agM (os:Os):laidMet prog Rows.madeRow.laid ((Z6 prog os).forCall (λ_ _=>0) ⟨#[],#[.slice none 0 0],[]⟩).memory:=
 laidMet_of_run' 8 (by kernel_rfl) (by kernel_rfl)
theorem agp (os:Os){H:Type}(enc:υ×Ξ→H):∃places,DataW.whole enc prog ((Z6 prog os).forCall (λ_ _=>0) ⟨#[],#[.slice none 0 0],[]⟩).memory f10.params.toList Rows.madeSpec.vars false #[Ξ.slice none 0 0].toList 8=some ([.nil],[],places):=
 ⟨[],by kernel_rfl⟩
theorem wf_i64 {n:Int}(h:(Lit.int .i64 n).wf=true): -9223372036854775808≤n∧n≤9223372036854775807:=by
 have e:IntKind.i64.min=-9223372036854775808:=rfl;have h':=h;simp only[Lit.wf]at h';simpa[e]using h'
theorem laidOut:laidOutB prog=true:=by kernel_rfl
theorem agN:prog.cellsOf 3=1:=by kernel_rfl
theorem agO {H:Type}{enc:υ×Ξ→H}{base:Nat}{v:Ξ}{d:DataW H}{ps:List MemPlace}(hv:Ξ.okWide prog W .any base 43 v)(h:DataW.Trod enc prog W 0 (λ_=>true) true 43 v d ps):∃(sa:Option Addr) (len cap:Nat) (zs:List Int),v=.slice sa len cap∧len≤9223372036854775807∧zs.length=len∧(∀j,j<len→-9223372036854775808≤zs.getD j 0∧zs.getD j 0≤9223372036854775807)∧∀j,j<len→∃b o,sa=some ⟨b,o,none⟩∧W.cell? ⟨b,o+j,none⟩=some (Γ Δ (zs.getD j 0)):=by
 obtain⟨fuel,hf⟩:=h;obtain⟨a0,l0,c0,rfl⟩:=okWide_slice underlying43 hv;rcases open_ints underlying43 underlying3 agN hf with⟨hcs,_⟩|⟨a,len,cap,zs,hcs,_,hl,hm,hzl,_,hc,hwf⟩
 ·simp only[Ξ.cells,zcN,Ξ.slice.injEq,zay]at hcs;obtain⟨rfl,rfl,rfl⟩:=hcs;exact⟨none,0,0,[],rfl,by omega,rfl,λj hj=>by omega,λj hj=>by omega⟩
 ·simp only[Ξ.cells,zcN,Ξ.slice.injEq,zay]at hcs;obtain⟨rfl,rfl,rfl⟩:=hcs;simp only[if_true]at hzl;obtain⟨b,o,sp⟩:=a;have hsp:sp=none:=by
   simp only[Ξ.okWide,Cell.okWide,Cell.ok,underlying43]at hv;exact hv.2.2.2.1
  subst hsp;have Xs:χ≤9223372036854775807:=by unfold χ;omega
  have aaf:∀j,j<l0→(zs.take l0).getD j 0=zs.getD j 0:=λj hj=>by
   simp only[zcG,List.getElem?_take,zab hj]
  refine⟨some ⟨b,o,none⟩,l0,c0,zs.take l0,rfl,by omega,by rw[zcM];omega,λj hj=>?_,λj hj=>⟨b,o,rfl,?_⟩⟩
  ·rw[aaf j hj];refine wf_i64 (hwf _ ?_);rw[zcG,zat (by omega)];exact zbx _
  ·rw[aaf j hj];have:=hc j (by omega);rw[Addr.add_mid]at this;exact this
theorem agm (os:Os)(started:os.Started)(H:Type)(enc:υ×Ξ→H):ReturnsInLeavingWide {} Tryz.checked os 10 .any ((OpenSpec.ofChange Rows.madeSpec).preRow enc prog f10 Rows.madeRow.domain false Rows.madeRow.laid) (Rows.madeSpec.post enc prog f10 false true false false):=by
 obtain⟨places,hx⟩:=agp os enc;refine Ac (C:=Tryz.checked) own started func10
  (witness_row_at (enc:=enc) (C:=Tryz.checked) false (Z6 prog os) #[.slice none 0 0] rfl (by kernel_rfl) (by kernel_rfl) (by kernel_rfl)
    (OpenSpec.preRow_of_cond 8 hx (by kernel_rfl) (λk hk=>by cases hk) (by kernel_rfl) (agM os))) ?_
 intro W base args ds gs before hval hW _ hL C8;have hval:∀(j:Nat) t v,f10.params[j]?=some t→args[j]?=some v→Ξ.okWide prog W .any base t v:=hval;have hW':=hW;obtain⟨p,q,hA0,hV,rfl,Oe,hnd⟩:=hW;have hA:DataW.TrodAll enc prog W 0 (λ_=>true) true f10.params.toList args.toList ds p:=hA0;rw[params10]at hA hval;obtain⟨v0,d0,rfl,rfl,h0⟩:=trodAll_one hA;obtain⟨rfl,rfl⟩:=trodVars_none hV;have h0k:=h0;have hv0:=hval 0 43 v0 rfl rfl;simp only[zcz]at hW';have hlt:∀x∈p,x.block<W.heap.size:=λx hx=>by simpa using hW'.lt x (by simp[hx])
 obtain⟨hp,h32,Ws⟩:=DK hL;have hgs:prog.globals.size≤W.heap.size:=GY Ws;obtain⟨sa,len,cap,zs,rfl,_,hlen,hz,hcell⟩:=agO hv0 h0;refine agv hgs (GX C8 hp h32 Ws) hp hlen hz hcell λW' ht ho hu hsz hold=>?_;have hb:Below W.heap.size W W':=⟨ho,ht,hu,hsz,hold⟩;have abg:DataW.TrodAll enc prog W' 0 (λb=>decide (b<W.heap.size)) true [43] [.slice sa len cap] [d0] p:=trodAll_mk1 (Below.trod laidOut (by kernel_rfl) (of_decide_eq_true (by kernel_rfl)) h0k hb hlt);exact⟨_,_,_,[],p,[],hW',trodAll_mk1 (shut_bool underlying4 _),abg,rfl,hb.frame _,λh=>by cases h⟩
theorem agw:Rows.MadeSaid:=
 OpenClaim.holds_of_wide_leaving 10 f10 rfl rfl rfl rfl rfl rfl rfl ⟨rfl,rfl,rfl,rfl,rfl⟩ rfl rfl rfl rfl rfl (by kernel_rfl) func10 (by kernel_rfl)
  (of_decide_eq_true (by kernel_rfl)) (by unfold Func.isWrapper;first|(rw[zab (by decide +kernel)];kernel_rfl)|(rw[zaa (by decide +kernel)];exact⟨rfl,rfl⟩))
  (λos started H enc _=>by rw[OpenClaim.pre_eq_preRow];exact agm os started H enc)
theorem agq (f:ψ)(fn:Func)(hf:Tryz.pinned.checked.prog.funcNamed Rows.madeRow.func=some f)(hfn:Tryz.pinned.checked.prog.funcs[f]?=some fn):true=Tryz.pinned.checked.prog.looks []∧∀(j:Nat) t,fn.params[j]?=some t→Tryz.pinned.checked.prog.wantsStandIn t=false:=by
 obtain rfl:f=10:=zaM ((show prog.funcNamed Rows.madeRow.func=some 10 by kernel_rfl).symm.trans hf) |>.symm
 obtain rfl:fn=f10:=(zaM (func10.symm.trans hfn)).symm;refine⟨by kernel_rfl,λj t ht=>?_⟩;rw[params10]at ht;have hm:t∈[43]:=by simpa using zbF ht
 have hall:([43].all λu=>!prog.wantsStandIn u)=true:=by kernel_rfl
 exact(show prog.wantsStandIn t=false by simpa using zaC.1 hall t hm)
theorem made_card:Rows.MadeCardSaid:=
 Ns .later _ _ _ _ agw (by kernel_rfl) made_row_tie rfl ⟨rfl,rfl⟩ (by kernel_rfl) rfl agq (by kernel_rfl)
end Go.Proofs.YtlhimdjkkiflhaaGreatDoor
#print axioms Go.Proofs.YtlhimdjkkiflhaaGreatDoor.made_card
