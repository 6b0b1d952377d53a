import Derived.Test.YtlhimdjkkiflhaaGreatReads26
import Derived.Test.YtlhimdjkkiflhaaGreatReads28
set_option maxHeartbeats 8000000
set_option maxRecDepth 100000
open Go.Value renaming int→Γ
open Go.IntKind renaming i64→Δ
open Go renaming Value→Θ,World→Λ,TypeId→Ξ,Calls→Ω
open Go.RowKit renaming Below→Φ
open Go.Addr renaming add→ζ
namespace Go.Proofs.YtlhimdjkkiflhaaGreat
open Go.RowKit Go.Loop
def DX (bT:Int→Nat):List Θ:=(List.range 1000).map λn:Nat=> Γ Δ (bT (n:Int):Nat)
def pF (src:ByteArray)(dp at_:Nat)(er:Int)(wh:Nat)(nv sv:Θ)(bT:Int→Nat)(bv:Θ):List Θ:=
 [.string src,Γ Δ dp,Γ Δ at_,Γ Δ at_,Γ Δ er,Γ Δ wh,nv,sv]++(DX bT++[bv])
def KQ:Option Nat→Θ
 |none=> Γ Δ (-1)
 |some k=> Γ Δ (k:Nat)
def mN (w:Λ)(base:Nat)(v:Θ)(l:List Nat):Prop:=w.ownsRow base 3 1 v l.length (l.map λk:Nat=> Γ Δ (k:Int))
structure bw (w0 w:Λ) (R:Nat) (src:ByteArray) (dp:Nat) (s:FS) (er:Int) (wh:Nat) (nv sv bv:Θ) (ay:List Θ):Prop where
 J6:w0.heap.size≤R
 low:Φ w0.heap.size w0 w
 blk:w.heap[R]?=some (.cells (pF src dp s.at_ er wh nv sv s.label bv).toArray 44)
 iM:w.ownsRow w0.heap.size 50 5 nv s.nodes.length (kY s.nodes ay)
 jI:w.ownsRow w0.heap.size 3 1 sv s.same.length (s.same.map KQ)
 jX:w.ownsRow w0.heap.size 4 1 bv s.begun.length (s.begun.map .bool)
 len:ay.length=s.nodes.length
 subs:∀(j:Nat) x v,s.nodes[j]?=some x→ay[j]?=some v→mN w w0.heap.size v x.subs
 sep:∀v∈ay,∀b,v.ownBlock=some b→sv.ownBlock≠some b
structure Kf (R:Nat) (nv sv bv:Θ) (w w':Λ):Prop where
 os:w'.os=w.os
 tape:w'.tape=w.tape
 output:w'.output=w.output
 size:w.heap.size≤w'.heap.size
 block:∀b,b<w.heap.size→b≠R→nv.ownBlock≠some b→sv.ownBlock≠some b→bv.ownBlock≠some b→w'.heap[b]?=w.heap[b]?
def dN (w:Λ)(v v':Θ):Prop:=v'.ownBlock=v.ownBlock∨∃b,v'.ownBlock=some b∧w.heap.size≤b
theorem Kf.refl (R:Nat)(nv sv bv:Θ)(w:Λ):Kf R nv sv bv w w:=⟨rfl,rfl,rfl,zab _,λ_ _ _ _ _ _=>rfl⟩
theorem dN.refl (w:Λ)(v:Θ):dN w v v:= .inl rfl
theorem dN.ne {w:Λ}{v v':Θ}(h:dN w v v'){b:Nat}(hb:b<w.heap.size)(hn:v.ownBlock≠some b):v'.ownBlock≠some b:=by
 rcases h with h|⟨c,h1,h2⟩
 ·rw[h];exact hn
 ·rw[h1];intro e;cases e;omega
theorem dN.trans {w w':Λ}{v v' Yl:Θ}(h:dN w v v')(hs:w.heap.size≤w'.heap.size)(h':dN w' v' Yl):dN w v Yl:=by
 rcases h' with h'|⟨c,h1,h2⟩
 ·unfold dN;rw[h'];exact h
 ·exact .inr ⟨c,h1,by omega⟩
theorem Kf.trans {R:Nat}{nv sv bv lM pY pc:Θ}{w w' w'':Λ}(h:Kf R nv sv bv w w')(h1:dN w nv lM)(h2:dN w sv pY)(h3:dN w bv pc)(h':Kf R lM pY pc w' w''):Kf R nv sv bv w w'':=
 ⟨h'.os.trans h.os,h'.tape.trans h.tape,h'.output.trans h.output,zaj h.size h'.size,λb a1 a2 a3 a4 a5=>(h'.block b (zaH a1 h.size) a2 (h1.ne a1 a3) (h2.ne a1 a4) (h3.ne a1 a5)).trans (h.block b a1 a2 a3 a4 a5)⟩
theorem Kf.below {R:Nat}{nv sv bv:Θ}{w w':Λ}(h:Φ w.heap.size w w'):Kf R nv sv bv w w':=⟨h.os,h.tape,h.output,h.size,λb hb _ _ _ _=>h.block b hb⟩
section
variable {w0 w w':Λ}{R:Nat}{src:ByteArray}{dp:Nat}{s:FS}{er:Int}{wh:Nat}{nv sv bv:Θ}{ay:List Θ}
theorem ba {e:Ξ}{z:Nat}{v:Θ}{n:Nat}{xs:List Θ}(h:w.ownsRow w0.heap.size e z v n xs){b:Nat}(hb:v.ownBlock=some b):w0.heap.size≤b∧b<w.heap.size∧∃cur,w.heap[b]?=some (.cells cur e):=by
 rcases h.2 with⟨rfl,_⟩|⟨c,cap,cur,rfl,h1,h2,_⟩
 ·cases hb
 ·cases hb;exact⟨h1,(zag.1 h2).1,cur,h2⟩
theorem bw.ko (h:bw w0 w R src dp s er wh nv sv bv ay):R<w.heap.size:=(zag.1 h.blk).1
theorem bw.nR (h:bw w0 w R src dp s er wh nv sv bv ay):nv.ownBlock≠some R:=λe=>by
 obtain⟨_,_,cur,hc⟩:=ba h.iM e;rw[h.blk]at hc;simp at hc
theorem bw.sR (h:bw w0 w R src dp s er wh nv sv bv ay):sv.ownBlock≠some R:=λe=>by
 obtain⟨_,_,cur,hc⟩:=ba h.jI e;rw[h.blk]at hc;simp at hc
theorem bw.bR (h:bw w0 w R src dp s er wh nv sv bv ay):bv.ownBlock≠some R:=λe=>by
 obtain⟨_,_,cur,hc⟩:=ba h.jX e;rw[h.blk]at hc;simp at hc
theorem bo {lo:Nat}{e:Ξ}{z:Nat}{v:Θ}{n:Nat}{xs:List Θ}(h:w.ownsRow lo e z v n xs)(hk:∀b,v.ownBlock=some b→w'.heap[b]?=w.heap[b]?):w'.ownsRow lo e z v n xs:=by
 refine⟨h.1,h.2.imp id ?_⟩;rintro ⟨g,cap,cur,rfl,h2,h3,h4⟩;exact⟨g,cap,cur,rfl,h2,(hk g rfl).trans h3,h4⟩
theorem bw.keep (h:bw w0 w R src dp s er wh nv sv bv ay)(hb:Φ w.heap.size w w'):bw w0 w' R src dp s er wh nv sv bv ay:=by
 have hl:=h.low.size;refine⟨h.J6,h.low.trans (hb.mono hl),(hb.block _ h.ko).trans h.blk,bo h.iM λb e=>hb.block b (ba h.iM e).2.1,bo h.jI λb e=>hb.block b (ba h.jI e).2.1,bo h.jX λb e=>hb.block b (ba h.jX e).2.1,h.len,λj x v h1 h2=>bo (h.subs j x v h1 h2) λb e=>hb.block b (ba (h.subs j x v h1 h2) e).2.1,h.sep⟩
end
def Av (F:Nat→Prop)(ay:List Θ):Prop:=∀v∈ay,∀b,v.ownBlock=some b→¬F b
structure rZ (w0 w:Λ) (R:Nat) (src:ByteArray) (dp:Nat) (nv sv bv pc:Θ) (ie:List Θ):Prop where
 n:dN w bv pc
 av:∀F:Nat→Prop,(∀b,F b→b<w.heap.size)→(∀s0 Zj Zk BJ,bw w0 w R src dp s0 Zj Zk nv sv bv BJ→Av F BJ)→Av F ie
def bA (w0 w:Λ)(R:Nat)(src:ByteArray)(dp:Nat)(nv sv bv:Θ)(s':FS)(er:Int)(wh:Nat)(w':Λ):Prop:=
 ∃lM pY pc ie,bw w0 w' R src dp s' er wh lM pY pc ie∧Kf R nv sv bv w w'∧dN w nv lM∧dN w sv pY∧rZ w0 w R src dp nv sv bv pc ie
theorem xK:∀(l:List dF) (ay:List Θ) (i:Nat),ay.length=l.length→(kY l ay)[5*i+4]?=ay[i]?
 |[],[],i,_=>by simp[kY]
 |[],_::_,_,h=>by simp at h
 |_::_,[],_,h=>by simp at h
 |x::l,sv::ay,0,_=>by simp[kY,jN]
 |x::l,sv::ay,i+1,h=>by
  have:=xK l ay i (by simpa using h);simp only[kY,List.getElem?_cons_succ];rw[zaZ (by simp[jN];omega),←this]
  congr 1
theorem xL {w0 w:Λ}{R:Nat}{src:ByteArray}{dp:Nat}{s s0:FS}{er Zj:Int}{wh Zk:Nat}{nv sv bv:Θ}{ay BJ:List Θ}(h:bw w0 w R src dp s er wh nv sv bv ay)(h0:bw w0 w R src dp s0 Zj Zk nv sv bv BJ):BJ=ay:=by
 have hl:=h.len;have hl0:=h0.len;rcases h.iM.2 with⟨e1,e2⟩|⟨g,cap,cur,e1,_⟩
 ·rcases h0.iM.2 with⟨_,e3⟩|⟨g',cap',cur',e3,_⟩
  ·have a1:ay=[]:=zcl.1 (by omega);have a2:BJ=[]:=zcl.1 (by omega);rw[a1,a2]
  ·rw[e1]at e3;cases e3
 ·obtain⟨a0,c0,e3⟩:=aw h0.iM;have hn:s0.nodes.length=s.nodes.length:=by rw[e1]at e3;injection e3 with _ e _;exact e.symm
  apply List.ext_getElem?
  intro i;by_cases hi:i<s.nodes.length
  ·have q1:=xK s.nodes ay i hl;have q2:=xK s0.nodes BJ i hl0;have i1:ay[i]?=some ay[i]:=zaP (by omega);have i2:BJ[i]?=some BJ[i]:=zaP (by omega);have r1:=h.iM.cells (g:=g) (by rw[e1];rfl) _ _ (q1.trans i1);have r2:=h0.iM.cells (g:=g) (by rw[e1];rfl) _ _ (q2.trans i2);rw[r1]at r2;rw[i1,i2];exact r2.symm
  ·rw[zbC (by omega),zbC (by omega)]
section
variable {w0 w w1:Λ}{R:Nat}{src:ByteArray}{dp:Nat}{s s1:FS}{er er1:Int}{wh wh1:Nat}{nv sv bv fU gR ik iV:Θ}{ay cA cK:List Θ}
theorem rZ.refl (h:bw w0 w R src dp s er wh nv sv bv ay):rZ w0 w R src dp nv sv bv bv ay:=⟨.refl _ _,λ_ _ h0=>h0 _ _ _ _ h⟩
theorem rZ.trans (hf:bw w0 w1 R src dp s1 er1 wh1 fU gR ik cA)(h:rZ w0 w R src dp nv sv bv ik cA)(hs:w.heap.size≤w1.heap.size)(h':rZ w0 w1 R src dp fU gR ik iV cK):rZ w0 w R src dp nv sv bv iV cK:=
 ⟨h.n.trans hs h'.n,λF hF h0=>h'.av F (λb hb=>zaH (hF b hb) hs) λ_ _ _ _ hq=>by rw[xL hf hq];exact h.av F hF h0⟩
end
theorem Nh {α:Type}(A L:List α)(x:α)(n:Nat)(h:n=A.length+L.length):(A++(L++[x]))[n]?=some x:=by
 subst h;rw[zaZ (by omega)];simp
theorem r7 (bT:Int→Nat):(DX bT).length=1000:=by simp[DX]
section
variable {w:Λ}{R:Nat}{src:ByteArray}{dp at_:Nat}{er:Int}{wh:Nat}{nv sv bv:Θ}{bT:Int→Nat}{e:Ξ}
theorem Ia (h:w.heap[R]?=some (.cells (pF src dp at_ er wh nv sv bT bv).toArray e))(o:Nat):w.cell? ⟨R,o,none⟩=(pF src dp at_ er wh nv sv bT bv)[o]?:=by simp[Λ.cell?,h]
theorem bu (h:w.heap[R]?=some (.cells (pF src dp at_ er wh nv sv bT bv).toArray e)):w.cell? ⟨R,0,none⟩=some (.string src)∧w.cell? ⟨R,1,none⟩=some (Γ Δ dp)∧w.cell? ⟨R,2,none⟩=some (Γ Δ at_)∧w.cell? ⟨R,3,none⟩=some (Γ Δ at_)∧w.cell? ⟨R,4,none⟩=some (Γ Δ er)∧w.cell? ⟨R,5,none⟩=some (Γ Δ wh)∧w.cell? ⟨R,6,none⟩=some nv∧w.cell? ⟨R,7,none⟩=some sv∧w.cell? ⟨R,1008,none⟩=some bv:=by
 have hc:=Ia h;unfold pF at hc;generalize hl:DX bT=L at hc;have hlen:L.length=1000:=by rw[←hl];exact r7 bT
 exact⟨hc 0,hc 1,hc 2,hc 3,hc 4,hc 5,hc 6,hc 7,(hc 1008).trans (Nh _ L bv 1008 (by rw[hlen];rfl))⟩
theorem Ge (h:w.heap[R]?=some (.cells (pF src dp at_ er wh nv sv bT bv).toArray e)){n:Nat}(hn:n<1000):w.cell? ⟨R,8+n,none⟩=some (Γ Δ (bT n:Nat)):=by
 rw[Ia h];unfold pF;rw[zaZ (by simp),zaS (by rw[r7];simp;omega)];simp[DX,hn]
theorem ky (h:w.heap[R]?=some (.cells (pF src dp at_ er wh nv sv bT bv).toArray e))(o:Nat):w.frozen? ⟨R,o,none⟩=false:=by simp[Λ.frozen?,h]
end
end Go.Proofs.YtlhimdjkkiflhaaGreat
namespace Go.Proofs.YtlhimdjkkiflhaaGreat
open Go.Proofs.Tryz
open Go.RowKit Go.Loop
theorem QO (bT:Int→Nat){n:Nat}(hn:n<1000)(k:Nat):(DX bT).set n (Γ Δ (k:Nat))=DX (λm=>if m=(n:Int)then k else bT m):=by
 apply List.ext_getElem?
 intro i;unfold DX;rw[List.getElem?_set,List.getElem?_map,List.getElem?_map];by_cases hi:n=i
 ·subst hi;simp[hn]
 ·rw[zaa hi];by_cases h:i<1000
  ·have:¬((i:Int)=n):=by omega
   simp[h,this]
  ·simp[h]
theorem Ni {α:Type}(A L:List α)(x v:α)(n:Nat)(h:n=A.length+L.length):(A++(L++[x])).set n v=A++(L++[v]):=by
 subst h;rw[List.set_append_right _ _ (by omega),List.set_append_right _ _ (by omega)];simp
section
variable {src:ByteArray}{dp at_:Nat}{er:Int}{wh:Nat}{nv sv bv:Θ}{bT:Int→Nat}
theorem Zl (a:Nat):((pF src dp at_ er wh nv sv bT bv).toArray.setIfInBounds 2 (Γ Δ (a:Nat))).setIfInBounds 3 (Γ Δ (a:Nat))=(pF src dp a er wh nv sv bT bv).toArray:=by
 rw[zaz,zaz];rfl
theorem Zm (e:Int)(a:Nat):((pF src dp at_ er wh nv sv bT bv).toArray.setIfInBounds 4 (Γ Δ e)).setIfInBounds 5 (Γ Δ (a:Nat))=(pF src dp at_ e a nv sv bT bv).toArray:=by
 rw[zaz,zaz];rfl
theorem Zn (v:Θ):(pF src dp at_ er wh nv sv bT bv).toArray.setIfInBounds 6 v=(pF src dp at_ er wh v sv bT bv).toArray:=by
 rw[zaz];rfl
theorem Zo (v:Θ):(pF src dp at_ er wh nv sv bT bv).toArray.setIfInBounds 7 v=(pF src dp at_ er wh nv v bT bv).toArray:=by
 rw[zaz];rfl
theorem Zp (v:Θ):(pF src dp at_ er wh nv sv bT bv).toArray.setIfInBounds 1008 v=(pF src dp at_ er wh nv sv bT v).toArray:=by
 rw[zaz];unfold pF;rw[Ni _ _ _ v 1008 (by rw[r7];rfl)]
theorem Zq {n:Nat}(hn:n<1000)(k:Nat):(pF src dp at_ er wh nv sv bT bv).toArray.setIfInBounds (8+n) (Γ Δ (k:Nat))=(pF src dp at_ er wh nv sv (λm=>if m=(n:Int)then k else bT m) bv).toArray:=by
 rw[zaz];unfold pF;rw[List.set_append_right _ _ (by simp),List.set_append_left _ _ (by rw[r7];simp;omega),←QO bT hn k];simp
end
section
variable {w0 w:Λ}{R:Nat}{src:ByteArray}{dp:Nat}{s s':FS}{er Uj:Int}{wh Uk:Nat}{nv sv bv:Θ}{ay:List Θ}
theorem bw.own {w':Λ}(h:bw w0 w R src dp s er wh nv sv bv ay)(hn:s'.nodes=s.nodes)(hsm:s'.same=s.same)(hbg:s'.begun=s.begun)(TL:w'.os=w.os)(Zr:w'.tape=w.tape)(I8:w'.output=w.output)(hsz:w'.heap.size=w.heap.size)(ho:∀b,b≠R→w'.heap[b]?=w.heap[b]?)(hR:w'.heap[R]?=some (.cells (pF src dp s'.at_ Uj Uk nv sv s'.label bv).toArray 44)):bA w0 w R src dp nv sv bv s' Uj Uk w':=by
 have hne:∀v:Θ,v.ownBlock≠some R→∀b,v.ownBlock=some b→w'.heap[b]?=w.heap[b]?:=λv hv b hb=>ho b λe=>hv (e▸hb);refine⟨nv,sv,bv,ay,⟨h.J6,⟨TL.trans h.low.os,Zr.trans h.low.tape,I8.trans h.low.output,by rw[hsz];exact h.low.size,λb hb=>(ho b (by have:=h.J6;omega)).trans (h.low.block b hb)⟩,hR,?_,?_,?_,by rw[hn];exact h.len,?_,h.sep⟩,⟨TL,Zr,I8,by omega,λb _ h2 _ _ _=>ho b h2⟩,.refl _ _,.refl _ _,.refl h⟩
 ·rw[hn];exact bo h.iM (hne _ h.nR)
 ·rw[hsm];exact bo h.jI (hne _ h.sR)
 ·rw[hbg];exact bo h.jX (hne _ h.bR)
 ·rw[hn];intro j x v h1 h2;refine bo (h.subs j x v h1 h2) (hne _ λe=>?_);obtain⟨_,_,cur,hc⟩:=ba (h.subs j x v h1 h2) e;rw[h.blk]at hc;simp at hc
theorem bA.from {w1 w':Λ}(hf:bw w0 w R src dp s er wh nv sv bv ay)(hb:Φ w.heap.size w w1)(h:bA w0 w1 R src dp nv sv bv s' Uj Uk w'):bA w0 w R src dp nv sv bv s' Uj Uk w':=by
 obtain⟨lM,pY,pc,ie,g1,g2,g3,g4,g5⟩:=h;exact⟨lM,pY,pc,ie,g1,(Kf.below hb).trans (.refl _ _) (.refl _ _) (.refl _ _) g2,dN.trans (.refl _ _) hb.size g3,dN.trans (.refl _ _) hb.size g4,rZ.trans (hf.keep hb) ⟨.refl _ _,λ_ _ h0=>h0 _ _ _ _ hf⟩ hb.size g5⟩
theorem bA.on {w' w2:Λ}(h:bA w0 w R src dp nv sv bv s' Uj Uk w')(hb:Φ w'.heap.size w' w2):bA w0 w R src dp nv sv bv s' Uj Uk w2:=by
 obtain⟨lM,pY,pc,ie,g1,g2,g3,g4,g5⟩:=h;exact⟨lM,pY,pc,ie,g1.keep hb,g2.trans g3 g4 g5.n (Kf.below hb),g3,g4,g5⟩
theorem bL (w:Λ)(R o:Nat)(v:Θ):∀b,b≠R→(w.setCell ⟨R,o,none⟩ v).heap[b]?=w.heap[b]?:=λ_ hb=>zay _ _ _ _ hb
theorem pg (h:bw w0 w R src dp s 0 wh nv sv bv ay)(e:Int)(a:Nat):Ω prog 16 #[ai R,Γ Δ e,Γ Δ a] w λx w'=>x=.returned (Γ Δ 0)∧bA w0 w R src dp nv sv bv s e a w':=by
 obtain⟨c0,c1,c2,c3,c4,c5,c6,c7,c8⟩:=bu h.blk;have EP:=ky h.blk;have HG:Hid (bA w0 w R src dp nv sv bv s e a ((w.setCell ⟨R,4,none⟩ (Γ Δ e)).setCell ⟨R,5,none⟩ (Γ Δ a))):=h.own rfl rfl rfl rfl rfl rfl (by simp) (λb hb=>(bL _ _ _ _ b hb).trans (bL _ _ _ _ b hb)) (by rw[bk (bk h.blk 4 _) 5 _,Zm]);clear h;unfold ai;go_enter func16,ntmps16;go_wp2_with fail;go_ret;exact⟨rfl,HG.out⟩
theorem js (h:bw w0 w R src dp s er wh nv sv bv ay)(r:RT):Ω prog 17 #[ai R,aK r.k r.f r.t r.x r.n r.d] w λx w'=>x=.returned (.tuple #[])∧bA w0 w R src dp nv sv bv (s.to r.t) er wh w':=by
 have hlt:=h.ko;obtain⟨c0,c1,c2,c3,c4,c5,c6,c7,c8⟩:=bu h.blk;have EP:=ky h.blk;have HG:Hid (bA w0 w R src dp nv sv bv (s.to r.t) er wh (((w.setCell ⟨R,2,none⟩ (Γ Δ r.t)).setCell ⟨R,3,none⟩ (Γ Δ r.t)).alloc (.cells #[.int .u8 r.k,Γ Δ r.f,Γ Δ r.t,.string ⟨⟨r.x⟩⟩,Γ Δ r.n,Γ Δ r.d] 57))):=by
  have hA:bA w0 w R src dp nv sv bv (s.to r.t) er wh ((w.setCell ⟨R,2,none⟩ (Γ Δ r.t)).setCell ⟨R,3,none⟩ (Γ Δ r.t)):=h.own rfl rfl rfl rfl rfl rfl (by simp) (λb hb=>(bL _ _ _ _ b hb).trans (bL _ _ _ _ b hb)) (by rw[bk (bk h.blk 2 _) 3 _,Zl];rfl);exact hA.on ((zad _ _).alloc (zab _) _)
 clear h;unfold ai aK;go_enter func17,ntmps17;go_wp2_with fail
 go_end0
 exact⟨rfl,HG.out⟩
end
end Go.Proofs.YtlhimdjkkiflhaaGreat
namespace Go.Proofs.YtlhimdjkkiflhaaGreat
open Go.RowKit Go.Loop
section
variable {w0 w w1 w4:Λ}{R:Nat}{src:ByteArray}{dp:Nat}{s:FS}{er:Int}{wh:Nat}{nv sv bv v':Θ}{ay:List Θ}
theorem fA {e e':Ξ}{z z':Nat}{v v2:Θ}{n n':Nat}{xs xs':List Θ}(h:w.ownsRow w0.heap.size e z v n xs)(h':w.ownsRow w0.heap.size e' z' v2 n' xs')(hne:e≠e'){b:Nat}(hb:v.ownBlock=some b):some b≠v2.ownBlock:=λe1=>by
 obtain⟨_,_,c,hc⟩:=ba h hb;obtain⟨_,_,c',hc'⟩:=ba h' e1.symm;rw[hc]at hc';simp at hc';exact hne hc'.2
theorem Ib {v:Θ}(hb1:w.heap.size≤w1.heap.size)(cG:v'.ownBlock=v.ownBlock∨∃k,v'.ownBlock=some k∧w1.heap.size≤k):dN w v v':=cG.imp id λ⟨k,k1,k2⟩=>⟨k,k1,by omega⟩
theorem Ul (h:bw w0 w R src dp s er wh nv sv bv ay)(x:dF)(v:Θ)(hv:mN w w0.heap.size v x.subs)(uX:∀b,v.ownBlock=some b→sv.ownBlock≠some b)(hb1:Φ w.heap.size w w1)(hrow:w4.ownsRow w0.heap.size 50 5 v' (s.nodes.length+1) (kY s.nodes ay++jN x v))(hg:w1.grownBy w4 nv.ownBlock)(cG:v'.ownBlock=nv.ownBlock∨∃k,v'.ownBlock=some k∧w1.heap.size≤k):w4.heap[R]?=some (.cells (pF src dp s.at_ er wh nv sv s.label bv).toArray 44)∧bw w0 (w4.setCell ⟨R,6,none⟩ v') R src dp { s with nodes:=s.nodes++[x] } er wh v' sv bv (ay++[v])∧Kf R nv sv bv w (w4.setCell ⟨R,6,none⟩ v')∧dN w nv v':=by
 have hs1:=hb1.size;have KD:=hg.size;have hl:=h.low.size;have hb:∀b,b<w.heap.size→some b≠nv.ownBlock→w4.heap[b]?=w.heap[b]?:=λb h1 h2=>(hg.block b (by omega) h2).trans (hb1.block b h1);have h4:w4.heap[R]?=some (.cells (pF src dp s.at_ er wh nv sv s.label bv).toArray 44):=(hb R h.ko λe=>h.nR e.symm).trans h.blk;have ho:=bL w4 R 6 v';have hR:(w4.setCell ⟨R,6,none⟩ v').heap[R]?=some (.cells (pF src dp s.at_ er wh v' sv s.label bv).toArray 44):=by rw[bk h4 6 v',Zn]
 have hint:(3:Ξ)≠50:=by decide
 have adl:(4:Ξ)≠50:=by decide
 have jy:∀{e:Ξ} {u:Θ} {n:Nat} {xs:List Θ},e≠50→e≠44→w.ownsRow w0.heap.size e 1 u n xs→(w4.setCell ⟨R,6,none⟩ v').ownsRow w0.heap.size e 1 u n xs:=λhe Zs hu=>bo hu λb Ab=>by
  obtain⟨_,hlt,cur,hc⟩:=ba hu Ab;rw[ho b (λe=>by rw[e,h.blk]at hc;simp at hc;exact Zs hc.2.symm),hb b hlt (fA hu h.iM he Ab)]
 have Ac:∀{u:Θ} {l:List Nat},mN w w0.heap.size u l→mN (w4.setCell ⟨R,6,none⟩ v') w0.heap.size u l:=λhu=>jy hint (by decide) hu;refine⟨h4,⟨h.J6,⟨hg.os.trans (hb1.os.trans h.low.os),hg.tape.trans (hb1.tape.trans h.low.tape),hg.output.trans (hb1.output.trans h.low.output),by simp;omega,λb b1=>?_⟩,hR,?_,jy hint (by decide) h.jI,jy adl (by decide) h.jX,by simp[h.len],λj y u hy hu=>?_,λu hu b Ab=>?_⟩,⟨hg.os.trans hb1.os,hg.tape.trans hb1.tape,hg.output.trans hb1.output,by simp;omega,λb b1 b2 b3 _ _=>(ho b b2).trans (hb b b1 λe=>b3 e.symm)⟩,Ib hs1 cG⟩
 ·have:=h.J6;rw[ho b (by omega),hb b (by omega) (λe=>by have:=(ba h.iM e.symm).1;omega)];exact h.low.block b b1
 ·have e:kY (s.nodes++[x]) (ay++[v])=kY s.nodes ay++jN x v:=rM _ _ _ _ h.len;show(w4.setCell ⟨R,6,none⟩ v').ownsRow _ _ _ _ (s.nodes++[x]).length (kY (s.nodes++[x]) (ay++[v]));rw[e,zaT];refine⟨hrow.1,hrow.2.imp id ?_⟩;rintro ⟨b,cp,cur,q1,q2,q3,q4⟩;exact⟨b,cp,cur,q1,q2,(ho b (λe=>by rw[e,h4]at q3;simp at q3)).trans q3,q4⟩
 ·have hy:(s.nodes++[x])[j]?=some y:=hy;rcases zar j s.nodes.length with hj|hj
  ·rw[zaS hj]at hy;rw[zaS (by rw[h.len];exact hj)]at hu;exact Ac (h.subs j y u hy hu)
  ·have ej:j=s.nodes.length:=by
    have:=(zaD.1 hy).1;simp at this;omega
   subst ej;rw[zaZ (zab _)]at hy;rw[zaZ (by rw[h.len];exact zab _),h.len]at hu;simp at hy hu;subst hy hu;exact Ac hv
 ·rcases zaQ.1 hu with h1|h1
  ·exact h.sep u h1 b Ab
  ·simp at h1;subst h1;exact uX b Ab
theorem Um (h:bw w0 w R src dp s er wh nv sv bv ay)(o:Option Nat)(hb1:Φ w.heap.size w w1)(hrow:w4.ownsRow w0.heap.size 3 1 v' (s.same.length+1) (s.same.map KQ++[KQ o]))(hg:w1.grownBy w4 sv.ownBlock)(cG:v'.ownBlock=sv.ownBlock∨∃k,v'.ownBlock=some k∧w1.heap.size≤k):w4.heap[R]?=some (.cells (pF src dp s.at_ er wh nv sv s.label bv).toArray 44)∧bw w0 (w4.setCell ⟨R,7,none⟩ v') R src dp { s with same:=s.same++[o] } er wh nv v' bv ay∧Kf R nv sv bv w (w4.setCell ⟨R,7,none⟩ v')∧dN w sv v':=by
 have hs1:=hb1.size;have KD:=hg.size;have hl:=h.low.size;have hb:∀b,b<w.heap.size→some b≠sv.ownBlock→w4.heap[b]?=w.heap[b]?:=λb h1 h2=>(hg.block b (by omega) h2).trans (hb1.block b h1);have h4:w4.heap[R]?=some (.cells (pF src dp s.at_ er wh nv sv s.label bv).toArray 44):=(hb R h.ko λe=>h.sR e.symm).trans h.blk;have ho:=bL w4 R 7 v';have hR:(w4.setCell ⟨R,7,none⟩ v').heap[R]?=some (.cells (pF src dp s.at_ er wh nv v' s.label bv).toArray 44):=by rw[bk h4 7 v',Zo]
 have jy:∀{e:Ξ} {z:Nat} {u:Θ} {n:Nat} {xs:List Θ},(∀b,u.ownBlock=some b→some b≠sv.ownBlock)→e≠44→w.ownsRow w0.heap.size e z u n xs→(w4.setCell ⟨R,7,none⟩ v').ownsRow w0.heap.size e z u n xs:=λhe Zs hu=>bo hu λb Ab=>by
  obtain⟨_,hlt,cur,hc⟩:=ba hu Ab;rw[ho b (λe=>by rw[e,h.blk]at hc;simp at hc;exact Zs hc.2.symm),hb b hlt (he b Ab)]
 have hlt:∀(j:Nat) u,ay[j]?=some u→∃x,s.nodes[j]?=some x:=λj u hu=>by
  have:j<s.nodes.length:=by rw[←h.len];exact(zaD.1 hu).1
  exact⟨_,zaP this⟩
 refine⟨h4,⟨h.J6,⟨hg.os.trans (hb1.os.trans h.low.os),hg.tape.trans (hb1.tape.trans h.low.tape),hg.output.trans (hb1.output.trans h.low.output),by simp;omega,λb b1=>?_⟩,hR,jy (λb Ab=>fA h.iM h.jI (by decide) Ab) (by decide) h.iM,?_,jy (λb Ab=>fA h.jX h.jI (by decide) Ab) (by decide) h.jX,h.len,λj y u hy hu=>?_,λu hu b Ab=>?_⟩,⟨hg.os.trans hb1.os,hg.tape.trans hb1.tape,hg.output.trans hb1.output,by simp;omega,λb b1 b2 _ b4 _=>(ho b b2).trans (hb b b1 λe=>b4 e.symm)⟩,Ib hs1 cG⟩
 ·have:=h.J6;rw[ho b (by omega),hb b (by omega) (λe=>by have:=(ba h.jI e.symm).1;omega)];exact h.low.block b b1
 ·show(w4.setCell ⟨R,7,none⟩ v').ownsRow _ _ _ _ (s.same++[o]).length ((s.same++[o]).map KQ);rw[zbI,zaT];refine⟨hrow.1,hrow.2.imp id ?_⟩;rintro ⟨b,cp,cur,q1,q2,q3,q4⟩;exact⟨b,cp,cur,q1,q2,(ho b (λe=>by rw[e,h4]at q3;simp at q3)).trans q3,q4⟩
 ·exact jy (λb Ab e=>h.sep u (zbo hu) b Ab e.symm) (by decide) (h.subs j y u hy hu)
 ·have hn:=h.sep u hu b Ab;obtain⟨j,hj⟩:=List.getElem?_of_mem hu;obtain⟨x,hx⟩:=hlt j u hj;exact(Ib hs1 cG).ne (ba (h.subs j x u hx hj) Ab).2.1 hn
theorem Un (h:bw w0 w R src dp s er wh nv sv bv ay)(o:Bool)(hb1:Φ w.heap.size w w1)(hrow:w4.ownsRow w0.heap.size 4 1 v' (s.begun.length+1) (s.begun.map .bool++[.bool o]))(hg:w1.grownBy w4 bv.ownBlock)(cG:v'.ownBlock=bv.ownBlock∨∃k,v'.ownBlock=some k∧w1.heap.size≤k):w4.heap[R]?=some (.cells (pF src dp s.at_ er wh nv sv s.label bv).toArray 44)∧bw w0 (w4.setCell ⟨R,1008,none⟩ v') R src dp { s with begun:=s.begun++[o] } er wh nv sv v' ay∧Kf R nv sv bv w (w4.setCell ⟨R,1008,none⟩ v')∧dN w bv v':=by
 have hs1:=hb1.size;have KD:=hg.size;have hl:=h.low.size;have hb:∀b,b<w.heap.size→some b≠bv.ownBlock→w4.heap[b]?=w.heap[b]?:=λb h1 h2=>(hg.block b (by omega) h2).trans (hb1.block b h1);have h4:w4.heap[R]?=some (.cells (pF src dp s.at_ er wh nv sv s.label bv).toArray 44):=(hb R h.ko λe=>h.bR e.symm).trans h.blk;have ho:=bL w4 R 1008 v';have hR:(w4.setCell ⟨R,1008,none⟩ v').heap[R]?=some (.cells (pF src dp s.at_ er wh nv sv s.label v').toArray 44):=by rw[bk h4 1008 v',Zp]
 have jy:∀{e:Ξ} {z:Nat} {u:Θ} {n:Nat} {xs:List Θ},e≠4→e≠44→w.ownsRow w0.heap.size e z u n xs→(w4.setCell ⟨R,1008,none⟩ v').ownsRow w0.heap.size e z u n xs:=λhe Zs hu=>bo hu λb Ab=>by
  obtain⟨_,hlt,cur,hc⟩:=ba hu Ab;rw[ho b (λe=>by rw[e,h.blk]at hc;simp at hc;exact Zs hc.2.symm),hb b hlt (fA hu h.jX he Ab)]
 refine⟨h4,⟨h.J6,⟨hg.os.trans (hb1.os.trans h.low.os),hg.tape.trans (hb1.tape.trans h.low.tape),hg.output.trans (hb1.output.trans h.low.output),by simp;omega,λb b1=>?_⟩,hR,jy (by decide) (by decide) h.iM,jy (by decide) (by decide) h.jI,?_,h.len,λj y u hy hu=>jy (by decide) (by decide) (h.subs j y u hy hu),h.sep⟩,⟨hg.os.trans hb1.os,hg.tape.trans hb1.tape,hg.output.trans hb1.output,by simp;omega,λb b1 b2 _ _ b5=>(ho b b2).trans (hb b b1 λe=>b5 e.symm)⟩,Ib hs1 cG⟩
 ·have:=h.J6;rw[ho b (by omega),hb b (by omega) (λe=>by have:=(ba h.jX e.symm).1;omega)];exact h.low.block b b1
 ·show(w4.setCell ⟨R,1008,none⟩ v').ownsRow _ _ _ _ (s.begun++[o]).length ((s.begun++[o]).map .bool);rw[zbI,zaT];refine⟨hrow.1,hrow.2.imp id ?_⟩;rintro ⟨b,cp,cur,q1,q2,q3,q4⟩;exact⟨b,cp,cur,q1,q2,(ho b (λe=>by rw[e,h4]at q3;simp at q3)).trans q3,q4⟩
end
end Go.Proofs.YtlhimdjkkiflhaaGreat
namespace Go.Proofs.YtlhimdjkkiflhaaGreat
open Go.Proofs.Tryz
open Go.RowKit Go.Loop
theorem ox:(prog.info? 3).map (λi=>(i.zero,i.size,i.bytes))=some (some (Γ Δ 0),1,8):=by kernel_rfl
theorem J7:(prog.info? 4).map (λi=>(i.zero,i.size,i.bytes))=some (some (.bool false),1,1):=by kernel_rfl
theorem kU:prog.underlying 40=some (.slice 3):=by kernel_rfl
theorem DY:prog.underlying 42=some (.slice 4):=by kernel_rfl
def fV (x:dF)(v:Θ):Θ:= .agg #[Γ Δ x.kind,.string ⟨⟨x.text⟩⟩,Γ Δ x.n,Γ Δ x.d,v]
theorem Gf {W:Λ}{b:Nat}{x:dF}{v:Θ}{t:Ξ}(h:W.heap[b]?=some (.cells #[Γ Δ x.kind,.string ⟨⟨x.text⟩⟩,Γ Δ x.n,Γ Δ x.d,v] t))(j:Nat)(u:Θ)(hu:(jN x v)[j]?=some u):W.cell? ((⟨b,0,none⟩:Addr).add j)=some u:=by
 match j,hu with
 |0,hu=>simpa[Λ.cell?,ζ,h,jN]using hu
 |1,hu=>simpa[Λ.cell?,ζ,h,jN]using hu
 |2,hu=>simpa[Λ.cell?,ζ,h,jN]using hu
 |3,hu=>simpa[Λ.cell?,ζ,h,jN]using hu
 |4,hu=>simpa[Λ.cell?,ζ,h,jN]using hu
 |j+5,hu=>simp[jN]at hu
theorem pj (w:Λ)(x:Θ)(t:Ξ)(j:Nat)(u:Θ)(hj:[x][j]?=some u):(w.alloc (.cells #[x] t)).cell? ((⟨w.heap.size,0,none⟩:Addr).add j)=some u:=by
 match j,hj with
 |0,hj=>simp at hj;subst hj;simp[ζ]
theorem po {x:Θ}(h:x.oneCell'=true):∀u∈[x],u.oneCell'=true:=λu hu=>by
 simp at hu;subst hu;exact h
section
variable {w0 w:Λ}{R:Nat}{src:ByteArray}{dp:Nat}{s:FS}{er:Int}{wh:Nat}{nv sv bv:Θ}{ay:List Θ}
theorem BK (h:bw w0 w R src dp s er wh nv sv bv ay)(x:dF)(v:Θ)(hv:mN w w0.heap.size v x.subs)(uX:∀b,v.ownBlock=some b→sv.ownBlock≠some b)(hn:s.nodes.length+1≤1000000)(hs:s.same.length+1≤1000000)(hbg:s.begun.length+1≤1000000):Ω prog 18 #[ai R,fV x v] w λe w'=>e=.returned (Γ Δ s.nodes.length)∧∃lM pY pc,bw w0 w' R src dp (s.add x) er wh lM pY pc (ay++[v])∧Kf R nv sv bv w w'∧dN w nv lM∧dN w sv pY∧dN w bv pc:=by
 have mixed:prog.follows Departure.mixedOrders=true:=by kernel_rfl
 have hlt:=h.ko;obtain⟨va,vc,rfl⟩:=aw hv;obtain⟨a0,c0,rfl⟩:=aw h.iM;obtain⟨_,_,_,_,_,_,c6,_,_⟩:=bu h.blk;obtain⟨iN,hiN,QP,QQ,QR⟩:=info_parts tL;obtain⟨iI,QT,BL,BM,BN⟩:=info_parts ox;obtain⟨iB,hiB,adm,adn,ado⟩:=info_parts J7;have e1:¬R=w.heap.size:=by omega
 have e2:¬R=w.heap.size+1:=by omega
 have e3:R<w.heap.size+1:=by omega
 have hb1:Φ w.heap.size w (((w.alloc (.cells #[Γ Δ x.kind,.string ⟨⟨x.text⟩⟩,Γ Δ x.n,Γ Δ x.d,.slice va x.subs.length vc] 50)).alloc (.cells #[Γ Δ x.kind,.string ⟨⟨x.text⟩⟩,Γ Δ x.n,Γ Δ x.d,.slice va x.subs.length vc] 50)).drew):=(((zad _ _).alloc (zab _) _).alloc (by simp) _).drew;have zN:Hid _:=hb1;have ig:Hid ((((w.alloc (.cells #[Γ Δ x.kind,.string ⟨⟨x.text⟩⟩,Γ Δ x.n,Γ Δ x.d,.slice va x.subs.length vc] 50)).alloc (.cells #[Γ Δ x.kind,.string ⟨⟨x.text⟩⟩,Γ Δ x.n,Γ Δ x.d,.slice va x.subs.length vc] 50)).drew).ownsRow w0.heap.size 50 5 (.slice a0 s.nodes.length c0) s.nodes.length (kY s.nodes ay)):=aT h.iM (zab _) λb _ hb=>hb1.block b hb;have rN:Hid (∀(j:Nat) u,(jN x (.slice va x.subs.length vc))[j]?=some u→(((w.alloc (.cells #[Γ Δ x.kind,.string ⟨⟨x.text⟩⟩,Γ Δ x.n,Γ Δ x.d,.slice va x.subs.length vc] 50)).alloc (.cells #[Γ Δ x.kind,.string ⟨⟨x.text⟩⟩,Γ Δ x.n,Γ Δ x.d,.slice va x.subs.length vc] 50)).drew).cell? ((⟨w.heap.size+1,0,none⟩:Addr).add j)=some u):=Gf (dJ w _ _);have Dz:Hid (∀u∈jN x (.slice va x.subs.length vc),u.oneCell'=true):=λu hu=>by
  simp[jN]at hu;rcases hu with rfl|rfl|rfl|rfl|rfl<;>rfl
 have uy:Hid (w0.heap.size≤(((w.alloc (.cells #[Γ Δ x.kind,.string ⟨⟨x.text⟩⟩,Γ Δ x.n,Γ Δ x.d,.slice va x.subs.length vc] 50)).alloc (.cells #[Γ Δ x.kind,.string ⟨⟨x.text⟩⟩,Γ Δ x.n,Γ Δ x.d,.slice va x.subs.length vc] 50)).drew).heap.size):=zaj h.low.size hb1.size;have HG:Hid _:=h;have HV:Hid _:=hv;have Zt:Hid _:=uX;clear h hb1 hv uX;unfold ai fV;go_enter func18,ntmps18;go_wp2_with fail
 go_region_law (refine eO rfl (.tmp 9) (.tmp 11) 22 rfl w0.heap.size 50 iN _ 5 64 mI hiN QP QQ QR (by decide) (by decide) rfl (.slice a0 s.nodes.length c0) s.nodes.length (kY s.nodes ay) rfl ig.out ⟨w.heap.size+1,0,none⟩ 1 1 (jN x (.slice va x.subs.length vc)) rfl (by decide) rfl rN.out Dz.out hn uy.out ?_;intro v' w4 hown' hgrow cG;obtain⟨a1,c1,rfl⟩:=aw hown';obtain⟨h4,hF,hK,hN⟩:=Ul HG.out x _ HV.out Zt.out zN.out hown' hgrow cG;obtain⟨_,_,_,_,_,_,d6,_,_⟩:=bu h4;have f6:=ky h4 6;have HF:Hid _:=hF;have HK:Hid _:=hK;have HN:Hid _:=hN;clear hF hK hN hown' hgrow cG h4)
 all_goals
  clear c6 d6 f6 ig rN Dz uy zN HG HV Zt e1 e2 e3 hlt;generalize w4.setCell ⟨R,6,none⟩ (.slice a1 (s.nodes.length+1) c1)=w5 at *;have hlt:=HF.out.ko;have e1:¬R=w5.heap.size:=by omega
  obtain⟨a2,c2,rfl⟩:=aw HF.out.jI;obtain⟨_,_,_,_,_,_,_,c7,_⟩:=bu HF.out.blk;have HL:Hid (w0.heap.size≤(w5.alloc (.cells #[KQ none] 3)).heap.size):=by have:=HF.out.low.size;show _≤_;simp;omega
  go_upto_region 3 with(at_builtin;refine cj rfl _ _ 40 rfl w0.heap.size 3 iI (Γ Δ 0) 8 kU QT BL BM BN (by decide) rfl _ s.same.length (s.same.map KQ) rfl (zbL HF.out.jI _) ⟨w5.heap.size,0,none⟩ 1 1 [KQ none] rfl (by decide) rfl (pj w5 _ _) (po rfl) hs HL.out ?_;intro v2 w6 hown2 hgrow2 Sr;obtain⟨a3,c3,rfl⟩:=aw hown2;obtain⟨h6,hF2,hK2,VM⟩:=Um HF.out none ((zad _ _).alloc (zab _) _) hown2 hgrow2 Sr;obtain⟨_,_,_,_,_,_,_,d7,_⟩:=bu h6;have f7:=ky h6 7;have Ox:Hid _:=hF2;have oX:Hid _:=HK.out.trans HN.out (.refl _ _) (.refl _ _) hK2;have HN2:Hid _:=dN.trans (.refl w _) HK.out.size VM;clear hF2 hK2 VM hown2 hgrow2 Sr h6)
  clear c7 d7 f7 HF HK HL hlt e1;generalize w6.setCell ⟨R,7,none⟩ (.slice a3 (s.same.length+1) c3)=w7 at *;have hlt:=Ox.out.ko;have e1:¬R=w7.heap.size:=by omega
  obtain⟨a4,c4,rfl⟩:=aw Ox.out.jX;obtain⟨_,_,_,_,_,_,_,_,c8⟩:=bu Ox.out.blk;have HL:Hid (w0.heap.size≤(w7.alloc (.cells #[Θ.bool false] 4)).heap.size):=by have:=Ox.out.low.size;show _≤_;simp;omega
  go_upto_region 4 with(at_builtin;refine cj rfl _ _ 42 rfl w0.heap.size 4 iB (.bool false) 1 DY hiB adm adn ado (by decide) rfl _ s.begun.length (s.begun.map .bool) rfl (zbL Ox.out.jX _) ⟨w7.heap.size,0,none⟩ 1 1 [.bool false] rfl (by decide) rfl (pj w7 _ _) (po rfl) hbg HL.out ?_;intro v3 w8 Nj Nk Ss;obtain⟨a5,c5,rfl⟩:=aw Nj;obtain⟨h8,hF3,hK3,hN3⟩:=Un Ox.out false ((zad _ _).alloc (zab _) _) Nj Nk Ss;obtain⟨_,_,_,_,_,_,_,_,d8⟩:=bu h8;have f8:=ky h8 1008;have HF3:Hid _:=hF3;have uS:Hid _:=oX.out.trans HN.out HN2.out (.refl _ _) hK3;have HN3:Hid _:=dN.trans (.refl w _) oX.out.size hN3;clear hF3 hK3 hN3 Nj Nk Ss h8)
  clear c8 d8 f8 Ox oX HL hlt e1;generalize w8.setCell ⟨R,1008,none⟩ (.slice a5 (s.begun.length+1) c5)=w9 at *;obtain⟨_,_,_,_,_,_,c6,_,_⟩:=bu HF3.out.blk;go_wp2_with fail;go_ret;exact⟨by simp,_,_,_,HF3.out,uS.out,HN.out,HN2.out,HN3.out⟩
theorem xN (h:bw w0 w R src dp s er wh nv sv bv ay)(x:dF)(hx:x.subs=[])(hn:s.nodes.length+1≤1000000)(hs:s.same.length+1≤1000000)(hbg:s.begun.length+1≤1000000):Ω prog 18 #[ai R,fV x (.slice none 0 0)] w λe w'=>e=.returned (Γ Δ s.nodes.length)∧bA w0 w R src dp nv sv bv (s.add x) er wh w':=
 (BK h x (.slice none 0 0) (by rw[hx];exact⟨rfl,.inl ⟨rfl,rfl⟩⟩) (λb e=>by cases e) hn hs hbg).mono (by
   rintro e w' ⟨rfl,lM,pY,pc,g1,g2,g3,g4,g5⟩;refine⟨rfl,lM,pY,pc,_,g1,g2,g3,g4,g5,λF hF h0 v hv b hb=>?_⟩;rcases zaQ.1 hv with q|q
   ·exact h0 _ _ _ _ h v q b hb
   ·simp at q;subst q;cases hb)
end
def xO (w:Λ)(a:Option Addr)(l:List Nat):Prop:=∀j,j<l.length→∃b,a=some ⟨b,0,none⟩∧b<w.heap.size∧w.cell? ⟨b,j,none⟩=some (Γ Δ ((l.getD j 0:Nat):Int))
theorem xO.below {w w':Λ}{a:Option Addr}{l:List Nat}(h:xO w a l)(hb:Φ w.heap.size w w'):xO w' a l:=λj hj=>by
 obtain⟨b,e,hl,hc⟩:=h j hj;have:=hb.size;exact⟨b,e,by omega,((Ad hb).1 b j hl).trans hc⟩
theorem oy (w:Λ)(m:Nat):Φ w.heap.size w (w.drewN m):=by
 induction m with
 |zero=>exact zad _ _
 |succ m ih=>exact ih.drew
theorem D7 (l:List Nat)(a b:Option Addr)(ca cb:Nat)(w:Λ)(ha:xO w a l)(hb:xO w b l)(h1:l.length≤1000000):Ω prog 21 #[.slice a l.length ca,.slice b l.length cb] w λe w'=>e=.returned (.bool true)∧∃m,w'=w.drewN m:=by
 have HA:Hid _:=ha;have HB:Hid _:=hb;clear ha hb;go_enter func21,ntmps21;go_wp2_with fail;go_loopw [5] (λi wr=>∃k m:Nat,k≤l.length∧i=Γ Δ k∧wr=w.drewN m) (λi _=>l.length-(intOf i).toNat)
 case atStart=>exact⟨0,0,zap _,rfl,rfl⟩
 case round=>
  obtain⟨k,m,hk,rfl,rfl⟩:=hrel;by_cases hlt:k<l.length
  ·obtain⟨b1,rfl,_,c1⟩:=HA.out k hlt;obtain⟨b2,rfl,_,c2⟩:=HB.out k hlt;clear HA HB;generalize l.getD k 0=x at *;go_wp2_with fail
   go_quiet (fail)
   go_wp2_with fail;go_roundw
   case rel=>exact⟨k+1,_,by omega,by go_num,rfl⟩
   case measure=>simp[intOf];omega
  ·go_wp2_with fail;go_ret;exact⟨rfl,_,rfl⟩
theorem D9 (x:dF)(a b:Option Addr)(ca cb:Nat)(w:Λ)(ha:xO w a x.subs)(hb:xO w b x.subs)(h1:x.subs.length≤1000000):Ω prog 11 #[fV x (.slice a x.subs.length ca),fV x (.slice b x.subs.length cb)] w λe w'=>e=.returned (.bool true)∧Φ w.heap.size w w':=by
 unfold fV;have HX:Hid _:=ha;have HY:Hid _:=hb;have hB:=((zad w.heap.size w).alloc (zab _) (.cells #[Γ Δ x.kind,.string ⟨⟨x.text⟩⟩,Γ Δ x.n,Γ Δ x.d,.slice a x.subs.length ca] 50)).alloc (by simp) (.cells #[Γ Δ x.kind,.string ⟨⟨x.text⟩⟩,Γ Δ x.n,Γ Δ x.d,.slice b x.subs.length cb] 50);have HB:Hid _:=hB;have HC:Hid _:=D7 x.subs a b ca cb _ (ha.below hB) (hb.below hB) h1;clear ha hb hB;go_enter func11,ntmps11;go_wp2_with fail;refine zae HC.out ?_;rintro e w1 ⟨rfl,m,rfl⟩;clear HX HY HC;go_wp2_with fail;go_ret;exact⟨rfl,HB.out.trans ((oy _ _).mono HB.out.size)⟩
def uY (w:Λ)(av:Option Addr)(nodes:List dF):Prop:=∀(i:Nat) x,nodes[i]?=some x→∃g sa sc,av=some ⟨g,0,none⟩∧g<w.heap.size∧w.cell? ⟨g,i*5,none⟩=some (Γ Δ x.kind)∧w.cell? ⟨g,i*5+1,none⟩=some (.string ⟨⟨x.text⟩⟩)∧w.cell? ⟨g,i*5+2,none⟩=some (Γ Δ x.n)∧w.cell? ⟨g,i*5+3,none⟩=some (Γ Δ x.d)∧w.cell? ⟨g,i*5+4,none⟩=some (.slice sa x.subs.length sc)∧xO w sa x.subs
theorem uY.below {w w':Λ}{av:Option Addr}{nodes:List dF}(h:uY w av nodes)(hb:Φ w.heap.size w w'):uY w' av nodes:=λi x hx=>by
 obtain⟨g,sa,sc,e,hl,h0,h1,h2,h3,h4,h5⟩:=h i x hx;have:=hb.size;have hc:=λo=>(Ad hb).1 g o hl;exact⟨g,sa,sc,e,by omega,(hc _).trans h0,(hc _).trans h1,(hc _).trans h2,(hc _).trans h3,(hc _).trans h4,h5.below hb⟩
theorem BO (nodes:List dF)(a b:Option Addr)(ca cb:Nat)(w:Λ)(ha:uY w a nodes)(hb:uY w b nodes)(h1:nodes.length≤1000000)(h2:∀x∈nodes,x.subs.length≤1000000):Ω prog 7 #[.slice a nodes.length ca,.slice b nodes.length cb] w λe w'=>e=.returned (.bool true)∧Φ w.heap.size w w':=by
 have HA:Hid _:=ha;have HB:Hid _:=hb;have H2:Hid _:=h2;clear ha hb h2;go_enter func7,ntmps7;go_wp2_with fail;go_loopw [5] (λi wr=>∃k:Nat,k≤nodes.length∧i=Γ Δ k∧Hid (Φ w.heap.size w wr)) (λi _=>nodes.length-(intOf i).toNat)
 case atStart=>exact⟨0,zap _,rfl,zad _ _⟩
 case round=>
  obtain⟨k,hk,rfl,HW⟩:=hrel;by_cases hlt:k<nodes.length
  ·obtain⟨x,hx⟩:∃x,nodes[k]?=some x:=⟨_,zaP hlt⟩;obtain⟨g1,sa1,sc1,rfl,sG,x0,x1,x2,x3,x4,hi1⟩:=(uY.below HA.out HW.out) k x hx;obtain⟨g2,sa2,sc2,rfl,hl2,y0,y1,y2,y3,y4,Wn⟩:=(uY.below HB.out HW.out) k x hx;have VZ:(k:Int)<(nodes.length:Int):=by omega
   have Uo:∀m,Hid _:=λm=>D9 x sa1 sa2 sc1 sc2 (wr.drewN m) (hi1.below (oy _ _)) (Wn.below (oy _ _)) (H2.out x (zbo hx));clear hi1 Wn HA HB hx;unfold fV at Uo
   go_upto_region 6 with fail
   go_cut [6] (λx9 wc=>x9=.bool true∧Hid (Φ wr.heap.size wr wc))
   case first=>
    go_region_with (go_at_call 11;refine zae (Uo 1).out ?_;rintro e w' ⟨rfl,hb'⟩)
    all_goals
     have HBW:Hid (Φ wr.heap.size wr w'):=((zad _ wr).drew).trans hb';clear hb' Uo;go_wp2_with fail
     go_meet
     case rel=>exact⟨rfl,HBW.out⟩
   case rest=>
    obtain⟨rfl,hwc⟩:=hcut;have OA:Hid (Φ w.heap.size w wc):=HW.out.trans (hwc.out.mono HW.out.size);clear hwc HW Uo x0 x1 x2 x3 x4 y0 y1 y2 y3 y4;go_wp2_with fail;go_roundw
    case rel=>exact⟨k+1,by omega,by go_num,OA⟩
    case measure=>simp[intOf];omega
  ·go_wp2_with fail;go_ret;exact⟨rfl,HW.out⟩
theorem mO:∀(l:List Nat) (r:Nat) (s:FS),(aR l r s).2.nodes.length=s.nodes.length+l.length∧(aR l r s).2.same.length=s.same.length+l.length∧(aR l r s).2.begun.length=s.begun.length+l.length
 |[],r,s=>⟨rfl,rfl,rfl⟩
 |a::l,r,s=>by
  obtain⟨h1,h2,h3⟩:=mO l r s;simp only[aR,FS.add,zaT,zas,zbp,h1,h2,h3];omega
theorem Ea {l:List Nat}{j:Nat}(h:j<l.length)(r:Nat)(s:FS):aR (l.drop j) r s=((aR (l.drop (j+1)) r s).2.nodes.length,(aR (l.drop (j+1)) r s).2.add ⟨1,[],0,0,[l[j],(aR (l.drop (j+1)) r s).1]⟩):=by
 rw[zbZ h];rfl
section
variable {w0 w:Λ}{R:Nat}{src:ByteArray}{dp:Nat}{s s':FS}{er Uj:Int}{wh Uk:Nat}{nv sv bv:Θ}{ay:List Θ}
theorem bA.trans {w1 w2:Λ}{fU gR ik:Θ}{cA:List Θ}{s1:FS}{Zj er1:Int}{Zk wh1:Nat}(hf:bw w0 w1 R src dp s1 Zj Zk fU gR ik cA)(hk:Kf R nv sv bv w w1)(h1:dN w nv fU)(h2:dN w sv gR)(h3:rZ w0 w R src dp nv sv bv ik cA)(h:bA w0 w1 R src dp fU gR ik s' er1 wh1 w2):bA w0 w R src dp nv sv bv s' er1 wh1 w2:=by
 obtain⟨lM,pY,pc,ie,g1,g2,g3,g4,g5⟩:=h;exact⟨lM,pY,pc,ie,g1,hk.trans h1 h2 h3.n g2,h1.trans hk.size g3,h2.trans hk.size g4,rZ.trans hf h3 hk.size g5⟩
theorem bA.adp {w2:Λ}{o:Obj}{x:dF}(h:bw w0 w R src dp s er wh nv sv bv ay)(hq:∃lM pY pc,bw w0 w2 R src dp (s.add x) er wh lM pY pc (ay++[.slice (some ⟨w.heap.size,0,none⟩) 2 2])∧Kf R nv sv bv (w.alloc o) w2∧dN (w.alloc o) nv lM∧dN (w.alloc o) sv pY∧dN (w.alloc o) bv pc):bA w0 w R src dp nv sv bv (s.add x) er wh w2:=by
 obtain⟨lM,pY,pc,g1,g2,g3,g4,g5⟩:=hq;have hB:Φ w.heap.size w (w.alloc o):=(zad _ w).alloc (zab _) o;refine⟨lM,pY,pc,_,g1,(Kf.below hB).trans (.refl _ _) (.refl _ _) (.refl _ _) g2,dN.trans (.refl _ _) hB.size g3,dN.trans (.refl _ _) hB.size g4,dN.trans (.refl _ _) hB.size g5,λF hF h0 v hv b hb=>?_⟩;rcases zaQ.1 hv with q|q
 ·exact h0 _ _ _ _ h v q b hb
 ·simp at q;subst q;cases hb;exact λhF'=>Nat.lt_irrefl _ (hF _ hF')
theorem bw.go (h:bw w0 w R src dp s er wh nv sv bv ay):bA w0 w R src dp nv sv bv s er wh w:=⟨nv,sv,bv,ay,h,.refl _ _ _ _ _,.refl _ _,.refl _ _,.refl h⟩
theorem Eb {w1:Λ}{nv sv bv:Θ}(h:bw w0 w R src dp s er wh nv sv bv ay)(hk:Kf R nv sv bv w w1){v:Θ}{l:List Nat}(hv:mN w w0.heap.size v l)(uX:∀b,v.ownBlock=some b→sv.ownBlock≠some b):mN w1 w0.heap.size v l:=by
 refine bo hv λb hb=>?_;obtain⟨_,hlt,cur,hc⟩:=ba hv hb;refine hk.block b hlt (λe=>by rw[e,h.blk]at hc;simp at hc) (λe=>?_) (uX b hb) (λe=>?_)
 ·exact fA hv h.iM (by decide) hb e.symm
 ·exact fA hv h.jX (by decide) hb e.symm
theorem addr_add (g j:Nat):(⟨g,0,none⟩:Addr).add j=⟨g,j,none⟩:=by
 unfold ζ;split
 ·rename_i h;subst h;rfl
 ·simp
theorem Nl {v:Θ}{l:List Nat}{j:Nat}(hv:mN w w0.heap.size v l)(hj:j<l.length):∃g c,v=.slice (some ⟨g,0,none⟩) l.length c∧g<w.heap.size∧w.cell? ⟨g,j,none⟩=some (Γ Δ (l[j]:Nat)):=by
 rcases hv.2 with⟨e1,e2⟩|⟨g,cap,cur,rfl,_,hg,_⟩
 ·omega
 ·refine⟨g,cap,rfl,(zag.1 hg).1,?_⟩;have:=hv.cells (g:=g) rfl j (Γ Δ (l[j]:Nat)) (by simp[hj]);rw[addr_add]at this;exact this
theorem Ic (w:Λ)(hb:w0.heap.size≤w.heap.size)(a b:Nat):mN (w.alloc (.cells #[Γ Δ a,Γ Δ b] 3)) w0.heap.size (.slice (some ⟨w.heap.size,0,none⟩) 2 2) [a,b]:=by
 refine⟨rfl,.inr ⟨w.heap.size,2,#[Γ Δ a,Γ Δ b],rfl,hb,?_,?_⟩⟩
 ·show(w.heap.push _)[w.heap.size]?=_;simp
 ·simp[maxLen]
theorem xP (h:bw w0 w R src dp s er wh nv sv bv ay)(l:List Nat)(lv:Θ)(hl:mN w w0.heap.size lv l)(uX:∀b,lv.ownBlock=some b→sv.ownBlock≠some b)(r:Nat)(hn:s.nodes.length+l.length≤900000)(hs:s.same.length+l.length≤900000)(hbg:s.begun.length+l.length≤900000):Ω prog 64 #[ai R,lv,Γ Δ r] w λe w'=>e=.returned (Γ Δ (aR l r s).1)∧bA w0 w R src dp nv sv bv (aR l r s).2 er wh w':=by
 have HG:Hid _:=h;have HL:Hid _:=hl;have HS:Hid _:=uX;obtain⟨la,lc,rfl⟩:=aw hl;clear h hl uX;unfold ai;go_enter func64,ntmps64;go_wp2_with fail;go_loopw [2,7] (λq i wr=>∃k:Nat,k≤l.length∧i=Γ Δ ((k:Int)-1)∧q=Γ Δ (aR (l.drop k) r s).1∧Hid (bA w0 w R src dp nv sv bv (aR (l.drop k) r s).2 er wh wr)) (λ_ i _=>(intOf i+1).toNat)
 case atStart=>exact⟨l.length,zab _,rfl,by simp[aR],by rw[zcg];exact HG.out.go⟩
 case round=>
  obtain⟨k,hk,rfl,rfl,hI⟩:=hrel;cases k with
  |zero=>
   have hJ:Hid (bA w0 w R src dp nv sv bv (aR l r s).2 er wh wr):=hI.out;clear hI HG HL HS;rw[zbJ];go_wp2_with fail;go_ret;exact⟨rfl,hJ.out⟩
  |succ j=>
   have hst:Hid _:=Ea (show j<l.length by omega) r s;obtain⟨b1,b2,b3⟩:=mO (l.drop (j+1)) r s;rw[zan]at b1 b2 b3;obtain⟨fU,gR,ik,cA,g1,g2,g3,g4,g5⟩:=hI.out;clear hI;generalize hS:(aR (l.drop (j+1)) r s).2=s1 at *;generalize hC:(aR (l.drop (j+1)) r s).1=c1 at *;have sG:=Eb HG.out g2 HL.out HS.out;obtain⟨g,c,e,IP,hcell⟩:=Nl (w0:=w0) (j:=j) sG (by omega);cases e;generalize l[j]=p at *;have hbl:w0.heap.size≤wr.heap.size:=g1.low.size;have HA:Hid _:=BK (g1.keep ((zad _ wr).alloc (zab _) (.cells #[Γ Δ p,Γ Δ c1] 3))) ⟨1,[],0,0,[p,c1]⟩ (.slice (some ⟨wr.heap.size,0,none⟩) 2 2) (Ic wr hbl p c1) (λb e e'=>by cases e;exact Nat.lt_irrefl _ (ba g1.jI e').2.1) (by omega) (by omega) (by omega);have HT:Hid (∀w2,(∃lM pY pc,bw w0 w2 R src dp (s1.add ⟨1,[],0,0,[p,c1]⟩) er wh lM pY pc (cA++[.slice (some ⟨wr.heap.size,0,none⟩) 2 2])∧Kf R fU gR ik (wr.alloc (.cells #[Γ Δ p,Γ Δ c1] 3)) w2∧dN (wr.alloc (.cells #[Γ Δ p,Γ Δ c1] 3)) fU lM∧dN (wr.alloc (.cells #[Γ Δ p,Γ Δ c1] 3)) gR pY∧dN (wr.alloc (.cells #[Γ Δ p,Γ Δ c1] 3)) ik pc)→bA w0 w R src dp nv sv bv (aR (l.drop j) r s).2 er wh w2):=λw2 hq=>by
    rw[hst.out];exact bA.trans g1 g2 g3 g4 g5 (bA.adp g1 hq)
   have HC:Hid ((aR (l.drop j) r s).1=s1.nodes.length):=by show _=_;rw[hst.out]
   clear g1 g2 g3 g4 g5 hst HG HL HS sG hS hC;unfold ai fV at HA;go_wp2_with fail;refine zae HA.out ?_;rintro e w2 ⟨rfl,hq⟩;have HQ:Hid _:=HT.out w2 hq;clear hq HA HT;go_wp2_with fail;go_roundw
   case rel=>exact⟨j,by omega,by go_num,by rw[HC.out];congr 1;omega,HQ⟩
   case measure=>simp[intOf]
end
end Go.Proofs.YtlhimdjkkiflhaaGreat
