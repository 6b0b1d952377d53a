import Derived.Test.YtlhimdjkkiflhaaGreatReads29
import Derived.Test.YtlhimdjkkiflhaaGreatReads30
set_option maxHeartbeats 8000000
set_option maxRecDepth 100000
open Go.Value renaming int→Γ
open Go.IntKind renaming i64→Δ
open Go renaming World→Θ,Value→Λ,Calls→Ξ,TypeId→Ω
open Go.RowKit renaming Below→Φ
namespace Go.Proofs.YtlhimdjkkiflhaaGreat
open Go.Proofs.Tryz
open Go.RowKit Go.Loop
def dL (w0 w:Θ)(R:Nat)(src:ByteArray)(dp:Nat)(nv sv bv:Λ)(s:FS)(c:Nat):FR Nat→Ending→Θ→Prop
 |.out,_,_=>False
 |.fail er a,e,w'=>er≠0∧∃(k:Nat) (s':FS),e=.returned (Γ Δ k)∧bA w0 w R src dp nv sv bv s' er a w'∧Fw src.size s'∧s.nodes.length≤s'.nodes.length∧s'.nodes.length≤s.nodes.length+505*(src.size+1-s.at_)+c
 |.ok k s',e,w'=>e=.returned (Γ Δ k)∧bA w0 w R src dp nv sv bv s' 0 0 w'
def Ed (w0 w:Θ)(R:Nat)(src:ByteArray)(dp:Nat)(nv sv bv:Λ)(s:FS):FR RT→Ending→Θ→Prop
 |.out,_,_=>False
 |.fail er a,e,w'=>er≠0∧∃(r:RT) (s':FS),e=.returned (uA r)∧bA w0 w R src dp nv sv bv s' er a w'∧Fw src.size s'∧s.nodes.length≤s'.nodes.length∧s'.nodes.length≤s.nodes.length+505*(src.size+1-s.at_)
 |.ok r s',e,w'=>e=.returned (uA r)∧bA w0 w R src dp nv sv bv s' 0 0 w'
def dU (r:RT):Array Λ:=#[.int .u8 r.k,Γ Δ r.f,Γ Δ r.t,.string ⟨⟨r.x⟩⟩,Γ Δ r.n,Γ Δ r.d]
def il (w:Θ)(c:Nat)(r:RT):Θ:=(((((w.setCell ⟨c,0,none⟩ (.int .u8 r.k)).setCell ⟨c,1,none⟩ (Γ Δ r.f)).setCell ⟨c,2,none⟩ (Γ Δ r.t)).setCell ⟨c,3,none⟩ (.string ⟨⟨r.x⟩⟩)).setCell ⟨c,4,none⟩ (Γ Δ r.n)).setCell ⟨c,5,none⟩ (Γ Δ r.d)
theorem r9 {w:Θ}{c:Nat}{u0 u1 u2 u3 u4 u5:Λ}{e:Ω}(h:w.heap[c]?=some (.cells #[u0,u1,u2,u3,u4,u5] e))(r:RT):(il w c r).heap[c]?=some (.cells (dU r) e):=by
 have:=bk (bk (bk (bk (bk (bk h 0 (.int .u8 r.k)) 1 (Γ Δ r.f)) 2 (Γ Δ r.t)) 3 (.string ⟨⟨r.x⟩⟩)) 4 (Γ Δ r.n)) 5 (Γ Δ r.d);unfold il;rw[this];simp[dU]
theorem jl (w:Θ)(c:Nat)(r:RT){b:Nat}(hb:b≠c):(il w c r).heap[b]?=w.heap[b]?:=by
 unfold il;rw[bL _ _ _ _ b hb,bL _ _ _ _ b hb,bL _ _ _ _ b hb,bL _ _ _ _ b hb,bL _ _ _ _ b hb,bL _ _ _ _ b hb]
theorem mP (w:Θ)(c B:Nat)(h:B≤c)(r:RT):Φ B w (il w c r):=
 ((((((zad B w).setCell (p:=⟨c,0,none⟩) h _).setCell (p:=⟨c,1,none⟩) h _).setCell (p:=⟨c,2,none⟩) h _).setCell (p:=⟨c,3,none⟩) h _).setCell (p:=⟨c,4,none⟩) h _).setCell (p:=⟨c,5,none⟩) h _
theorem adt {w w1:Θ}{Z C:Obj}(hb:Φ (w.alloc Z).drew.heap.size (w.alloc Z).drew w1):w.heap.size<w1.heap.size∧(w1.alloc C).heap[w1.heap.size]?=some C∧(w1.alloc C).heap[w.heap.size]?=some Z∧Hid (Φ w.heap.size w (w1.alloc C)):=by
 have h0:(w.alloc Z).drew.heap.size=w.heap.size+1:=by simp
 have h1:=hb.size;have h2:(w.alloc Z).drew.heap[w.heap.size]?=some Z:=by
  show(w.heap.push Z)[w.heap.size]?=_;simp
 have hB:Φ w.heap.size w w1:=(((zad _ w).alloc (zab _) Z).drew).trans (hb.mono (by omega));refine⟨by omega,?_,?_,hB.alloc (by omega) _⟩
 ·show(w1.heap.push C)[w1.heap.size]?=_;simp
 ·rw[zaK _ _ _ (by omega),hb.block _ (by omega)];exact h2
theorem adu {w w1:Θ}{u0 u1 u2 u3 u4 u5:Λ}{e:Ω}{Z:Obj}(hb:Φ ((w.alloc Z).alloc (.cells #[u0,u1,u2,u3,u4,u5] e)).drew.heap.size ((w.alloc Z).alloc (.cells #[u0,u1,u2,u3,u4,u5] e)).drew w1)(r:RT):w.heap.size<w.heap.size+1∧(il w1 (w.heap.size+1) r).heap[w.heap.size+1]?=some (.cells (dU r) e)∧(il w1 (w.heap.size+1) r).heap[w.heap.size]?=some Z∧Hid (Φ w.heap.size w (il w1 (w.heap.size+1) r)):=by
 have h0:((w.alloc Z).alloc (.cells #[u0,u1,u2,u3,u4,u5] e)).drew.heap.size=w.heap.size+1+1:=by simp
 have h2:((w.alloc Z).alloc (.cells #[u0,u1,u2,u3,u4,u5] e)).drew.heap[w.heap.size]?=some Z:=by
  show((w.heap.push Z).push _)[w.heap.size]?=_;rw[zbl,zaa (by simp)];simp
 have h3:((w.alloc Z).alloc (.cells #[u0,u1,u2,u3,u4,u5] e)).drew.heap[w.heap.size+1]?=some (.cells #[u0,u1,u2,u3,u4,u5] e):=by
  show((w.heap.push Z).push _)[w.heap.size+1]?=_;rw[zbl,zac (by simp)]
 have hB:Φ w.heap.size w w1:=((((zad _ w).alloc (zab _) Z).alloc (by simp) _).drew).trans (hb.mono (by omega));refine⟨by omega,r9 ((hb.block _ (by omega)).trans h3) r,?_,hB.trans (mP w1 (w.heap.size+1) w.heap.size (by omega) r)⟩;rw[jl _ _ _ (by omega),hb.block _ (by omega)];exact h2
def ck (src:ByteArray)(a:Nat):RT:=fN src.data.toList a
section
variable {w0 w wr:Θ}{R:Nat}{src:ByteArray}{dp:Nat}{s s':FS}{er:Int}{wh:Nat}{nv sv bv:Λ}{ay:List Λ}
theorem oA {b:Nat}{r:RT}(h:w.heap[b]?=some (.cells (dU r) 57)):w.cell? ⟨b,0,none⟩=some (.int .u8 r.k)∧w.cell? ⟨b,1,none⟩=some (Γ Δ r.f)∧w.cell? ⟨b,2,none⟩=some (Γ Δ r.t)∧w.cell? ⟨b,3,none⟩=some (.string ⟨⟨r.x⟩⟩)∧w.cell? ⟨b,4,none⟩=some (Γ Δ r.n)∧w.cell? ⟨b,5,none⟩=some (Γ Δ r.d):=by
 refine⟨?_,?_,?_,?_,?_,?_⟩<;>simp[Θ.cell?,h,dU]
theorem bw.UG (h:bw w0 w R src dp s er wh nv sv bv ay){b:Nat}{cs:Array Λ}(hb:w.heap[b]?=some (.cells cs 57)):b≠R∧nv.ownBlock≠some b∧sv.ownBlock≠some b∧bv.ownBlock≠some b∧∀(j:Nat) x v,s.nodes[j]?=some x→ay[j]?=some v→v.ownBlock≠some b:=by
 refine⟨λe=>?_,λe=>?_,λe=>?_,λe=>?_,λj x v h1 h2 e=>?_⟩
 ·rw[e,h.blk]at hb;simp at hb
 ·obtain⟨_,_,cur,hc⟩:=ba h.iM e;rw[hb]at hc;simp at hc
 ·obtain⟨_,_,cur,hc⟩:=ba h.jI e;rw[hb]at hc;simp at hc
 ·obtain⟨_,_,cur,hc⟩:=ba h.jX e;rw[hb]at hc;simp at hc
 ·obtain⟨_,_,cur,hc⟩:=ba (h.subs j x v h1 h2) e;rw[hb]at hc;simp at hc
theorem Kf.tok (h:bw w0 w R src dp s er wh nv sv bv ay)(hk:Kf R nv sv bv w wr){b:Nat}{cs:Array Λ}(hb:w.heap[b]?=some (.cells cs 57)):wr.heap[b]?=some (.cells cs 57):=by
 obtain⟨h1,h2,h3,h4,_⟩:=h.UG hb;exact(hk.block b (zag.1 hb).1 h1 h2 h3 h4).trans hb
theorem bw.il (h:bw w0 w R src dp s er wh nv sv bv ay){b:Nat}{cs:Array Λ}(hb:w.heap[b]?=some (.cells cs 57))(hl:w0.heap.size≤b)(r:RT):bw w0 (il w b r) R src dp s er wh nv sv bv ay:=by
 obtain⟨h1,h2,h3,h4,h5⟩:=h.UG hb;have ho:∀c,c≠b→(Proofs.YtlhimdjkkiflhaaGreat.il w b r).heap[c]?=w.heap[c]?:=λc hc=>jl w b r hc;have hk:∀v:Λ,v.ownBlock≠some b→∀c,v.ownBlock=some c→(Proofs.YtlhimdjkkiflhaaGreat.il w b r).heap[c]?=w.heap[c]?:=λv hv c hc=>ho c λe=>hv (e▸hc);exact⟨h.J6,h.low.trans (mP w b w0.heap.size hl r),(ho R (Ne.symm h1)).trans h.blk,bo h.iM (hk _ h2),bo h.jI (hk _ h3),bo h.jX (hk _ h4),h.len,λj x v a1 a2=>bo (h.subs j x v a1 a2) (hk _ (h5 j x v a1 a2)),h.sep⟩
theorem bA.il {w':Θ}(h:bA w0 w R src dp nv sv bv s' er wh w'){b:Nat}{cs:Array Λ}(hb:w'.heap[b]?=some (.cells cs 57))(h0:w0.heap.size≤w.heap.size)(hl:w.heap.size≤b)(r:RT):bA w0 w R src dp nv sv bv s' er wh (il w' b r):=by
 obtain⟨lM,pY,pc,ie,g1,g2,g3,g4,g5⟩:=h;have hB:=mP w' b w.heap.size hl r;refine⟨lM,pY,pc,ie,g1.il hb (by omega) r,⟨hB.os.trans g2.os,hB.tape.trans g2.tape,hB.output.trans g2.output,zaj g2.size hB.size,λc a1 a2 a3 a4 a5=>(jl w' b r (by omega)).trans (g2.block c a1 a2 a3 a4 a5)⟩,g3,g4,g5⟩
end
structure OM (w0:Θ) (R:Nat) (src:ByteArray) (dp m:Nat):Prop where
 tok:∀w s nv sv bv ay (deep:Nat),bw w0 w R src dp s 0 0 nv sv bv ay→Fw src.size s→s.nodes.length+505*(src.size+1-s.at_)≤300000→deep≤dp→cX (ck src) dp m deep s≠.out→Ξ prog 15 #[ai R,Γ Δ deep] w (Ed w0 w R src dp nv sv bv s (cX (ck src) dp m deep s))
 mj:∀w s nv sv bv ay (deep:Nat) over,bw w0 w R src dp s 0 0 nv sv bv ay→Fw src.size s→s.nodes.length+505*(src.size+1-s.at_)≤300000→deep≤dp→bz (ck src) dp m deep over s≠.out→Ξ prog 9 #[ai R,Γ Δ deep,.bool over] w (dL w0 w R src dp nv sv bv s 0 (bz (ck src) dp m deep over s))
 plain:∀w s nv sv bv ay (deep:Nat) over,bw w0 w R src dp s 0 0 nv sv bv ay→Fw src.size s→s.nodes.length+505*(src.size+1-s.at_)≤300000→deep≤dp→bK (ck src) dp m (ck src s.at_) deep over s≠.out→Ξ prog 19 #[ai R,uA (ck src s.at_),Γ Δ deep,.bool over] w (dL w0 w R src dp nv sv bv s 0 (bK (ck src) dp m (ck src s.at_) deep over s))
 hold:∀w s nv sv bv ay (kind deep:Nat) over,(kind=40∨kind=118∨kind=39)→bw w0 w R src dp s 0 0 nv sv bv ay→Fw src.size s→s.nodes.length+505*(src.size+1-s.at_)≤299900→deep≤dp→cC (ck src) dp m kind deep over s≠.out→Ξ prog 31 #[ai R,.int .u8 kind,Γ Δ deep,.bool over] w (dL w0 w R src dp nv sv bv s 4 (cC (ck src) dp m kind deep over s))
 V0:∀w s nv sv bv ay (deep:Nat) over,bw w0 w R src dp s 0 0 nv sv bv ay→Fw src.size s→s.nodes.length+505*(src.size+1-s.at_)≤300000→deep≤dp→cN (ck src) dp m deep over s≠.out→Ξ prog 65 #[ai R,Γ Δ deep,.bool over] w (dL w0 w R src dp nv sv bv s 0 (cN (ck src) dp m deep over s))
section
variable {w0 w:Θ}{R:Nat}{src:ByteArray}{dp:Nat}{s:FS}{nv sv bv:Λ}{ay:List Λ}
def TkI (w0 w:Θ)(R:Nat)(src:ByteArray)(dp:Nat)(s:FS)(nv sv bv:Λ)(deep m b:Nat)(X:FR RT)(wr:Θ):Prop:=
 ∃(er:Int) (a:Nat) (s1:FS) (r1:RT),r1=ck src s1.at_∧wr.heap[b]?=some (.cells (dU r1) 57)∧bA w0 w R src dp nv sv bv s1 er a wr∧Fw src.size s1∧
  ((er=0∧a=0∧Sz src.size 0 0 s s1∧∃j,j≤m∧X=cX (ck src) dp (j+1) deep s1)∨(er≠0∧X=.fail er a∧s.nodes.length≤s1.nodes.length∧s1.nodes.length≤s.nodes.length+505*(src.size+1-s.at_)))
def Kb (R:Nat)(wr:Θ):Nat:=
 match wr.cell? ⟨R,4,none⟩,wr.cell? ⟨R,2,none⟩with
 |some (.int _ e),some (.int _ a)=>if e=0 then 1001-a.toNat else 0
 |_,_=>0
theorem qw {er:Int}{wh:Nat}{w':Θ}(h:bw w0 w' R src dp s er wh nv sv bv ay):Kb R w'=if er=0 then 1001-s.at_ else 0:=by
 obtain⟨_,_,c2,_,c4,_,_,_,_⟩:=bu h.blk;unfold Kb;rw[c4,c2];simp
theorem NB {w3 w4:Θ}{b:Nat}{v0 v1 v2 v3 v4 v5:Λ}(hb:Φ w3.drew.heap.size w3.drew w4)(hl:b<w3.heap.size)(t0:w3.cell? ⟨b,0,none⟩=some v0)(t1:w3.cell? ⟨b,1,none⟩=some v1)(t2:w3.cell? ⟨b,2,none⟩=some v2)(t3:w3.cell? ⟨b,3,none⟩=some v3)(t4:w3.cell? ⟨b,4,none⟩=some v4)(t5:w3.cell? ⟨b,5,none⟩=some v5)(hf:∀o,w3.frozen? ⟨b,o,none⟩=false):w4.cell? ⟨b,0,none⟩=some v0∧w4.cell? ⟨b,1,none⟩=some v1∧w4.cell? ⟨b,2,none⟩=some v2∧w4.cell? ⟨b,3,none⟩=some v3∧w4.cell? ⟨b,4,none⟩=some v4∧w4.cell? ⟨b,5,none⟩=some v5∧∀o,w4.frozen? ⟨b,o,none⟩=false:=by
 obtain⟨P8,hbf⟩:=Ad hb;exact⟨(P8 b 0 hl).trans t0,(P8 b 1 hl).trans t1,(P8 b 2 hl).trans t2,(P8 b 3 hl).trans t3,(P8 b 4 hl).trans t4,(P8 b 5 hl).trans t5,λo=>(hbf b o hl).trans (hf o)⟩
theorem NC (hL:Lk (ck src) src.size){w2 w3:Θ}{m j deep:Nat}{s1:FS}{r1:RT}{X:FR RT}{e:Ending}(hr1:r1=ck src s1.at_)(vq:r1.k=59)(ku:Fw src.size s1)(hs1:Sz src.size 0 0 s s1)(hj:j≤m)(hX:X=(bz (ck src) dp j deep true (s1.to r1.t)).bind λ_ s=>cX (ck src) dp j deep s)(ho:X≠.out)(h:dL w0 w2 R src dp nv sv bv (s1.to r1.t) 0 (bz (ck src) dp j deep true (s1.to r1.t)) e w3):∃(er:Int) (a:Nat) (s2:FS) (k:Nat),e=.returned (Γ Δ k)∧bA w0 w2 R src dp nv sv bv s2 er a w3∧Fw src.size s2∧(er=0→s1.at_<s2.at_)∧((er=0∧a=0∧Sz src.size 0 0 s s2∧∃j,j≤m∧X=cX (ck src) dp (j+1) deep s2)∨(er≠0∧X=.fail er a∧s.nodes.length≤s2.nodes.length∧s2.nodes.length≤s.nodes.length+505*(src.size+1-s.at_))):=by
 obtain⟨l1,l2⟩:=hL.go s1.at_ ku.an (by rw[←hr1,vq];decide) (by rw[←hr1,vq];decide);rw[←hr1]at l1 l2;have t0:=Sz.to ku l2 l1;cases hd:bz (ck src) dp j deep true (s1.to r1.t)with
 |out=>rw[hd]at hX;exact absurd hX ho
 |fail er a=>
  rw[hd]at h hX;obtain⟨h1,k,s2,h2,h3,h4,h5,h6⟩:=h;have q1:=hs1.nn;have q2:=hs1.at_;have q3:=hs1.ge;have h5:s1.nodes.length≤s2.nodes.length:=h5;have h6:s2.nodes.length≤s1.nodes.length+505*(src.size+1-r1.t)+0:=h6;exact⟨er,a,s2,k,h2,h3,h4,λe=>absurd e h1,.inr ⟨h1,hX,by omega,by omega⟩⟩
 |ok k s2=>
  rw[hd]at h hX;obtain⟨h1,h2⟩:=h;obtain⟨t1,t2⟩:=(eB hL j).mj _ _ _ _ _ t0.fw hd;have hX:X=cX (ck src) dp j deep s2:=hX;obtain⟨j',rfl⟩:∃j',j=j'+1:=by
   cases j with
   |zero=>simp only[cX]at hX;exact absurd hX ho
   |succ j=>exact⟨j,rfl⟩
  have t2:r1.t<s2.at_:=t2;exact⟨0,0,s2,k,h1,h2,t1.fw,λ_=>by omega,.inl ⟨rfl,rfl,(hs1.trans t0 (c2:=5) (d2:=0) (by omega)).trans t1 (by omega),j',by omega,hX⟩⟩
theorem UH {w3 w4:Θ}{b c:Nat}{r1 rz:RT}(hb3:w3.heap[b]?=some (.cells (dU r1) 57))(hz3:w3.heap[c]?=some (.cells (dU rz) 57))(hb:Φ w3.drew.heap.size w3.drew w4)(hne:¬c=b)(r2:RT):w4.heap[b]?=some (.cells (dU r1) 57)∧(il w4 b r2).heap[b]?=some (.cells (dU r2) 57)∧(il w4 b r2).heap[c]?=some (.cells (dU rz) 57):=by
 have h1:w4.heap[b]?=some (.cells (dU r1) 57):=(hb.block b (zag.1 hb3).1).trans hb3;have h2:w4.heap[c]?=some (.cells (dU rz) 57):=(hb.block c (zag.1 hz3).1).trans hz3;exact⟨h1,r9 h1 r2,(jl w4 b r2 hne).trans h2⟩
theorem xV {w3 w4:Θ}(hb:Φ w3.drew.heap.size w3.drew w4):Φ w3.heap.size w3 w4:=((zad w3.heap.size w3).drew).trans hb
theorem UI {w3 w4:Θ}{b:Nat}{r1 r2:RT}{s2:FS}{er:Int}{a deep m:Nat}{X:FR RT}(Gj:w0.heap.size≤w.heap.size)(hbw:w.heap.size<b)(hr2:r2=ck src s2.at_)(hb3:w3.heap[b]?=some (.cells (dU r1) 57))(hgo:bA w0 w R src dp nv sv bv s2 er a w3)(hw2:Fw src.size s2)(hc:(er=0∧a=0∧Sz src.size 0 0 s s2∧∃j,j≤m∧X=cX (ck src) dp (j+1) deep s2)∨(er≠0∧X=.fail er a∧s.nodes.length≤s2.nodes.length∧s2.nodes.length≤s.nodes.length+505*(src.size+1-s.at_)))(hb:Φ w3.drew.heap.size w3.drew w4):TkI w0 w R src dp s nv sv bv deep m b X (il w4 b r2):=by
 have h1:w4.heap[b]?=some (.cells (dU r1) 57):=(hb.block b (zag.1 hb3).1).trans hb3;exact⟨er,a,s2,r2,hr2,r9 h1 r2,bA.il (hgo.on (xV hb)) h1 Gj (by omega) r2,hw2,hc⟩
theorem Q7 {w3 w4:Θ}{b:Nat}{r1 r2:RT}{s1 s2:FS}{er:Int}{a:Nat}(Gj:w0.heap.size≤w.heap.size)(hbw:w.heap.size<b)(hb3:w3.heap[b]?=some (.cells (dU r1) 57))(hgo:bA w0 w R src dp nv sv bv s2 er a w3)(hw2:Fw src.size s2)(hsz:src.size≤400)(hlt:er=0→s1.at_<s2.at_)(hb:Φ w3.drew.heap.size w3.drew w4)(V2:s1.at_≤src.size):Kb R (il w4 b r2)<1001-s1.at_:=by
 have h1:w4.heap[b]?=some (.cells (dU r1) 57):=(hb.block b (zag.1 hb3).1).trans hb3;obtain⟨lM,pY,pc,ie,g1,_⟩:=bA.il (hgo.on (xV hb)) h1 Gj (by omega) r2;rw[qw g1];have:=hw2.an;split
 ·rename_i e;have:=hlt e;omega
 ·omega
theorem ND (hsz:src.size≤400)(hL:Lk (ck src) src.size){m:Nat}(ih:∀j,j≤m→OM w0 R src dp j)(h:bw w0 w R src dp s 0 0 nv sv bv ay)(hw:Fw src.size s)(hn:s.nodes.length+505*(src.size+1-s.at_)≤300000)(deep:Nat)(hd:deep≤dp)(ho:cX (ck src) dp (m+1) deep s≠.out):Ξ prog 15 #[ai R,Γ Δ deep] w (Ed w0 w R src dp nv sv bv s (cX (ck src) dp (m+1) deep s)):=by
 have mixed:prog.follows Departure.mixedOrders=true:=by kernel_rfl
 have hlt:=h.ko;have V2:=hw.an;obtain⟨c0,c1,c2,_,c4,_,_,_,_⟩:=bu h.blk;have ZF:Hid (∀(w:Θ) (a:Nat),a≤src.size→Ξ prog 29 #[.string src,Γ Δ a] w λe w'=>e=.returned (uA (ck src a))∧Φ w.heap.size w w'):=λw a ha=>UF src a w (by omega) ha;have HG:Hid _:=h;have lI:Hid _:=ih;have lN:Hid _:=hL;have HW:Hid _:=hw;have HO:Hid _:=ho;have e1:¬R=w.heap.size:=by omega
 have e2:R<w.heap.size+1:=by omega
 have e3:¬R=w.heap.size+1:=by omega
 clear h ih hL hw ho;unfold ai;go_enter func15,ntmps15;go_wp2_with fail;obtain⟨r0,sD⟩:∃r,r=ck src s.at_:=⟨_,rfl⟩;have HL0:Hid (∀w:Θ,Ξ prog 29 #[.string src,Γ Δ s.at_] w λe w'=>e=.returned (aK r0.k r0.f r0.t r0.x r0.n r0.d)∧Φ w.heap.size w w'):=λw=>by rw[sD];exact ZF.out w _ V2
 have sI:Hid _:=sD;clear sD;unfold aK at HL0
 go_cut [4,5] (λx y wc=>x=.pointer (some ⟨w.heap.size,0,none⟩)∧∃b,y=.pointer (some ⟨b,0,none⟩)∧w.heap.size<b∧wc.heap[b]?=some (.cells (dU r0) 57)∧wc.heap[w.heap.size]?=some (.cells #[.int .u8 0,Γ Δ 0,Γ Δ 0,.string ⟨#[]⟩,Γ Δ 0,Γ Δ 0] 57)∧Hid (Φ w.heap.size w wc))
 case first=>
  go_region_with (go_at_call 29;refine zae (HL0.out _) ?_;rintro e w1 ⟨rfl,hb⟩;have hgs:=hb.size;obtain⟨P8,hbf⟩:=Ad hb)
  all_goals
   go_wp2_with fail
   go_meet
   case rel=>
    refine⟨rfl,_,rfl,?_⟩;first
    |exact adt hb
    |exact adu hb r0
 case rest=>
  obtain⟨rfl,b,rfl,hbw,B7,hbr,hB⟩:=hcut;have Gj:=HG.out.low.size;have HI:Hid (TkI w0 w R src dp s nv sv bv deep m b (cX (ck src) dp (m+1) deep s) wc):=⟨0,0,s,r0,sI.out,B7,bA.on HG.out.go hB.out,HW.out,.inl ⟨rfl,rfl,Sz.refl HW.out,m,zab _,rfl⟩⟩;clear HL0 c0 c1 c2 c4 B7 hB sI;generalize hX:cX (ck src) dp (m+1) deep s=X at *;go_wp2_with fail;go_loopw [] (λwr=>(∃r,wr.heap[w.heap.size]?=some (.cells (dU r) 57))∧Hid (TkI w0 w R src dp s nv sv bv deep m b X wr)) (λwr=>Kb R wr)
  case atStart=>exact⟨⟨⟨0,0,0,[],0,0⟩,hbr⟩,HI⟩
  case round=>
   obtain⟨⟨rz,hz⟩,hI⟩:=hrel;obtain⟨er,a,s1,r1,hr1,B7,hgo,ku,fT⟩:=hI.out;obtain⟨fU,gR,ik,cA,g1,g2,g3,g4,g5⟩:=hgo;have HM:Hid _:=qw g1;obtain⟨c0,c1,c2,_,c4,_,_,_,_⟩:=bu g1.blk;obtain⟨t0,t1,t2,t3,t4,t5⟩:=oA B7;obtain⟨z0,z1,z2,z3,z4,z5⟩:=oA hz;have H7:∀o,wr.frozen? ⟨w.heap.size,o,none⟩=false:=λo=>by simp[Θ.frozen?,hz]
   have aeA:¬b=w.heap.size:=by omega
   have adv:¬w.heap.size=b:=by omega
   have pC:Hid (∀r,bA w0 w R src dp nv sv bv s1 er a (il wr w.heap.size r)):=λr=>bA.il ⟨fU,gR,ik,cA,g1,g2,g3,g4,g5⟩ hz Gj (zab _) r;rcases fT with⟨rfl,rfl,Fs,j,hj,hXj⟩|⟨hne,hXf,hb1,hb2⟩
   ·by_cases vq:r1.k=59
    ·have adw:((r1.k:Int)==59)=true:=by simp;omega
     have hXd:X=(bz (ck src) dp j deep true (s1.to r1.t)).bind λ_ s=>cX (ck src) dp j deep s:=by
      rw[hXj,hr1];simp only[cX];rw[zac (by rw[←hr1];exact vq)]
     obtain⟨l1,l2⟩:=lN.out.go s1.at_ ku.an (by rw[←hr1,vq];decide) (by rw[←hr1,vq];decide);rw[←hr1]at l1 l2;have q1:=Fs.nn;have q2:=Fs.at_;have NF:Hid _:=js g1 r1;have Su:Hid _:=λ(w2 w3:Θ) (iT iY iV:Λ) (e:Ending)=>NC (w0:=w0) (w2:=w2) (w3:=w3) (R:=R) (dp:=dp) (nv:=iT) (sv:=iY) (bv:=iV) (s:=s) (m:=m) (e:=e) lN.out hr1 vq ku Fs hj hXd HO.out;have pG:Hid (∀(w2:Θ) iT iY iV cK,bw w0 w2 R src dp (s1.to r1.t) 0 0 iT iY iV cK→Ξ prog 9 #[ai R,Γ Δ deep,.bool true] w2 (dL w0 w2 R src dp iT iY iV (s1.to r1.t) 0 (bz (ck src) dp j deep true (s1.to r1.t)))):=λw2 iT iY iV cK hq=>(lI.out j hj).mj w2 _ iT iY iV cK deep true hq (ku.to l2) (by show s1.nodes.length+505*(src.size+1-r1.t)≤300000;omega) hd (λe=>by rw[e]at hXd;exact HO.out hXd);have xW:Hid _:=And.intro g1 (And.intro g2 (And.intro g3 (And.intro g4 g5)));have V3:Hid _:=B7;have HZ:Hid _:=hz;have hrz:=g1.ko;have hbz:b<wr.heap.size:=(zag.1 B7).1;have UJ:=ku.an;have Kc:Hid (Kb R wr=1001-s1.at_):=HM.out;clear hXj hXd hI HI HG HM g1 g2 g3 g4 g5 Fs ku B7 hz hr1 lI HW HO vq pC z0 z1 z2 z3 z4 z5 H7 hrz;unfold ai aK at NF;unfold ai at pG;go_wp2_with fail;refine zae NF.out ?_;rintro e w2 ⟨rfl,hq⟩;obtain⟨iT,iY,iV,cK,f1,f2,f3,f4,f5⟩:=hq;have HF:Hid _:=And.intro f1 (And.intro f2 (And.intro f3 (And.intro f4 f5)));clear f1 f2 f3 f4 f5 NF c0 c1 c2 c4 t0 t1 t2 t3 t4 t5;go_wp2_with fail;refine zae (pG.out w2 iT iY iV cK HF.out.1) ?_;intro e w3 hres;obtain⟨V4,a2,s2,k2,rfl,hq,hw2,P2,fT⟩:=Su.out w2 w3 iT iY iV e hres;clear hres pG Su;obtain⟨KR,KS,KT,xX,f1,f2,f3,f4,f5⟩:=hq;obtain⟨c0,c1,c2,_,c4,_,_,_,_⟩:=bu f1.blk;have hb3:w3.heap[b]?=some (.cells (dU r1) 57):=Kf.tok HF.out.1 f2 (Kf.tok xW.out.1 HF.out.2.1 V3.out);have hz3:w3.heap[w.heap.size]?=some (.cells (dU rz) 57):=Kf.tok HF.out.1 f2 (Kf.tok xW.out.1 HF.out.2.1 HZ.out);have vB:Hid (bA w0 w R src dp nv sv bv s2 V4 a2 w3):=bA.trans xW.out.1 xW.out.2.1 xW.out.2.2.1 xW.out.2.2.2.1 xW.out.2.2.2.2 (bA.trans HF.out.1 HF.out.2.1 HF.out.2.2.1 HF.out.2.2.2.1 HF.out.2.2.2.2 ⟨KR,KS,KT,xX,f1,f2,f3,f4,f5⟩);obtain⟨t0,t1,t2,t3,t4,t5⟩:=oA hb3;have H7:∀o,w3.frozen? ⟨b,o,none⟩=false:=λo=>by simp[Θ.frozen?,hb3]
     have yK:Hid _:=hb3;have HZ3:Hid _:=hz3;have ZG:Hid _:=fT;have OA:Hid _:=hw2;have adx:Hid _:=P2;have ady:=hw2.an;have adz:b<w3.heap.size:=(zag.1 hb3).1;have aeB:w.heap.size<w3.heap.size:=(zag.1 hz3).1;have MU:=f1.ko;clear f1 f2 f3 f4 f5 HF xW V3 HZ hb3 hz3 fT hw2 P2;obtain⟨r2,hr2⟩:∃r,r=ck src s2.at_:=⟨_,rfl⟩;have HL2:Hid (∀w:Θ,Ξ prog 29 #[.string src,Γ Δ s2.at_] w λe w'=>e=.returned (aK r2.k r2.f r2.t r2.x r2.n r2.d)∧Φ w.heap.size w w'):=λw=>by rw[hr2];exact ZF.out w _ ady
     have Du:Hid _:=hr2;clear hr2 ZF;unfold aK at HL2;go_wp2_with fail
     go_region_with (go_at_call 29;refine zae (HL2.out _) ?_;rintro e w4 ⟨rfl,hb4⟩;have hgs:w3.heap.size≤w4.heap.size:=hb4.size;obtain⟨y0,y1,y2,y3,y4,y5,yf⟩:=NB hb4 adz t0 t1 t2 t3 t4 t5 H7)
     all_goals
      go_wp2_with fail;go_roundw
      case rel=>exact⟨⟨rz,(UH yK.out HZ3.out hb4 adv r2).2.2⟩,UI Gj hbw Du.out yK.out vB.out OA.out ZG.out hb4⟩
      case measure=>
       rw[Kc.out];exact Q7 Gj hbw yK.out vB.out OA.out hsz adx.out hb4 UJ
    ·have adw:((r1.k:Int)==59)=false:=by simp;omega
     have hXk:Hid (X=.ok r1 s1):=by
      show _=_;rw[hXj,hr1];simp only[cX];rw[zaa (by rw[←hr1];exact vq)]
     clear hXj hI HI HG ZF HM g1 g2 g3 g4 g5 Fs ku B7 hz hr1 lI lN HW HO vq;go_wp2_with fail;refine zak (by simp[results,results15,go_sem,z0,z1,z2,z3,z4,z5];rfl) rfl ?_;rw[hXk.out];exact⟨rfl,pC.out r1⟩
   ·have Bd:(er==0)=false:=by simpa using hne
    have hXk:Hid (X=.fail er a):=hXf;have HP:Hid _:=And.intro hne (And.intro ku (And.intro hb1 hb2));clear hXf hI HI HG ZF HM g1 g2 g3 g4 g5 ku B7 hz hr1 lI lN HW HO hne hb1 hb2;go_wp2_with fail;refine zak (by simp[results,results15,go_sem,z0,z1,z2,z3,z4,z5];rfl) rfl ?_;rw[hXk.out];exact⟨HP.out.1,r1,s1,rfl,pC.out r1,HP.out.2.1,HP.out.2.2.1,HP.out.2.2.2⟩
end
section
variable {w0 w:Θ}{R:Nat}{src:ByteArray}{dp:Nat}{s:FS}{nv sv bv:Λ}{ay:List Λ}
def Rd2 (w0 w:Θ)(R:Nat)(src:ByteArray)(dp:Nat)(nv sv bv:Λ)(s:FS)(c d:Nat)(er:Int)(a:Nat)(s2:FS)(w':Θ):Prop:=
 bA w0 w R src dp nv sv bv s2 er a w'∧Fw src.size s2∧s.nodes.length≤s2.nodes.length∧(er=0→a=0∧Sz src.size c d s s2)∧(er≠0→s2.nodes.length≤s.nodes.length+505*(src.size+1-s.at_)+d)
theorem mh {e:Ending}{w':Θ}{c d:Nat}{X:FR Nat}(hX:X≠.out)(h:dL w0 w R src dp nv sv bv s d X e w')(bM:∀k s',X=.ok k s'→Sz src.size c d s s'):∃(er:Int) (a:Nat) (s2:FS) (k:Nat),e=.returned (Γ Δ k)∧Rd2 w0 w R src dp nv sv bv s c d er a s2 w'∧(er=0→X=.ok k s2)∧(er≠0→X=.fail er a):=by
 cases X with
 |out=>exact absurd rfl hX
 |fail er a=>
  obtain⟨h1,k,s2,h2,h3,h4,h5,h6⟩:=h;exact⟨er,a,s2,k,h2,⟨h3,h4,h5,λe=>absurd e h1,λ_=>h6⟩,λe=>absurd e h1,λ_=>rfl⟩
 |ok k s2=>
  obtain⟨h1,h2⟩:=h;have:=bM k s2 rfl;exact⟨0,0,s2,k,h1,⟨h2,this.fw,this.ge,λ_=>⟨rfl,this⟩,λe=>absurd rfl e⟩,λ_=>rfl,λe=>absurd rfl e⟩
theorem oB {e:Ending}{w':Θ}{X:FR RT}(hX:X≠.out)(h:Ed w0 w R src dp nv sv bv s X e w')(bM:∀k s',X=.ok k s'→Sz src.size 0 0 s s'):∃(er:Int) (a:Nat) (s2:FS) (r:RT),e=.returned (aK r.k r.f r.t r.x r.n r.d)∧Rd2 w0 w R src dp nv sv bv s 0 0 er a s2 w'∧(er=0→X=.ok r s2)∧(er≠0→X=.fail er a):=by
 cases X with
 |out=>exact absurd rfl hX
 |fail er a=>
  obtain⟨h1,k,s2,h2,h3,h4,h5,h6⟩:=h;exact⟨er,a,s2,k,h2,⟨h3,h4,h5,λe=>absurd e h1,λ_=>h6⟩,λe=>absurd e h1,λ_=>rfl⟩
 |ok k s2=>
  obtain⟨h1,h2⟩:=h;have:=bM k s2 rfl;exact⟨0,0,s2,k,h1,⟨h2,this.fw,this.ge,λ_=>⟨rfl,this⟩,λe=>absurd rfl e⟩,λ_=>rfl,λe=>absurd rfl e⟩
theorem dV {α β:Type}{x:FR α}{f:α→FS→FR β}(h:x.bind f≠.out):x≠.out:=λe=>by rw[e]at h;exact h rfl
theorem xY {α β:Type}{x:FR α}{f:α→FS→FR β}{a:α}{s':FS}(h:x.bind f≠.out)(e:x=.ok a s'):f a s'≠.out:=λe'=>by rw[e]at h;exact h e'
theorem Kd (hL:Lk (ck src) src.size){m:Nat}(ih:∀j,j≤m→OM w0 R src dp j)(h:bw w0 w R src dp s 0 0 nv sv bv ay)(hw:Fw src.size s)(hn:s.nodes.length+505*(src.size+1-s.at_)≤300000)(deep:Nat)(over:Bool)(hd:deep≤dp)(ho:cN (ck src) dp (m+1) deep over s≠.out):Ξ prog 65 #[ai R,Γ Δ deep,.bool over] w (dL w0 w R src dp nv sv bv s 0 (cN (ck src) dp (m+1) deep over s)):=by
 simp only[cN]at ho ⊢;have pG:Hid _:=(ih m (zab _)).mj w s nv sv bv ay deep over h hw hn hd (dV ho);have Gk:Hid (∀(w2:Θ) s2 iT iY iV cK k,bz (ck src) dp m deep over s=.ok k s2→bw w0 w2 R src dp s2 0 0 iT iY iV cK→Ξ prog 15 #[ai R,Γ Δ deep] w2 (Ed w0 w2 R src dp iT iY iV s2 (cX (ck src) dp m deep s2))):=λw2 s2 iT iY iV cK k e hq=>by
  obtain⟨t1,_⟩:=(eB hL m).mj _ _ _ _ _ hw e;have q1:=t1.nn;have q2:=t1.at_;have q3:=t1.fw.an;exact(ih m (zab _)).tok w2 s2 iT iY iV cK deep hq t1.fw (by omega) hd (dV (xY ho e))
 have MG:Hid (bz (ck src) dp m deep over s≠.out):=dV ho;have HO:Hid _:=ho;have BQ:Hid _:=λk s' e=>((eB (dp:=dp) hL m).mj deep over s k s' hw e).1;have lN:Hid _:=hL;have hlt:=h.ko;clear h ih hL hw ho;unfold ai at *;go_enter func65,ntmps65;go_wp2_with fail;refine zae pG.out ?_;intro e w2 hres;obtain⟨er,a,s2,k,rfl,hR,bM,hno⟩:=mh (c:=1) MG.out hres BQ.out;clear hres pG;obtain⟨⟨iT,iY,iV,cK,g1,g2,g3,g4,g5⟩,hw2,ft,hz0,hz1⟩:=hR;obtain⟨_,_,c2,_,c4,_,_,_,_⟩:=bu g1.blk;have xW:Hid _:=And.intro g1 (And.intro g2 (And.intro g3 (And.intro g4 g5)));by_cases her:er=0
 ·subst her;obtain⟨rfl,hS⟩:=hz0 rfl;have hX:=bM rfl;have HT:Hid _:=Gk.out w2 s2 iT iY iV cK k hX g1;have yP:cX (ck src) dp m deep s2≠.out:=dV (xY HO.out hX);have yQ:Hid _:=yP;have HST:Hid _:=λr s' e=>(eB (dp:=dp) lN.out m).tok deep s2 r s' hw2 e;have HX:Hid _:=hX;have HS:Hid _:=hS;have aeC:=hw2.an;clear bM hno hz0 hz1 Gk BQ MG HO g1 g2 g3 g4 g5 hX hS yP ft;go_wp2_with fail;refine zae HT.out ?_;intro e w3 hres;obtain⟨er,a,s3,r,rfl,hR,bM,hno⟩:=oB yQ.out hres (λr s' e=>(HST.out r s' e).1);clear hres HT;simp only[aK];obtain⟨⟨KR,KS,KT,xX,f1,f2,f3,f4,f5⟩,hw3,Ee,hz0,hz1⟩:=hR;have MU:=f1.ko;have aeD:¬R=w3.heap.size:=by omega
  have UK:=f1.keep ((zad _ w3).alloc (zab _) (.cells #[.int .u8 r.k,Γ Δ r.f,Γ Δ r.t,.string ⟨⟨r.x⟩⟩,Γ Δ r.n,Γ Δ r.d] 57));obtain⟨_,_,d2,_,d4,_,_,_,_⟩:=bu f1.blk;have vB:Hid (∀(w5:Θ) s5 e5 a5,bA w0 (w3.alloc (.cells #[.int .u8 r.k,Γ Δ r.f,Γ Δ r.t,.string ⟨⟨r.x⟩⟩,Γ Δ r.n,Γ Δ r.d] 57)) R src dp KR KS KT s5 e5 a5 w5→bA w0 w R src dp nv sv bv s5 e5 a5 w5):=λw5 s5 e5 a5 hq=>bA.trans xW.out.1 xW.out.2.1 xW.out.2.2.1 xW.out.2.2.2.1 xW.out.2.2.2.2 (bA.trans f1 f2 f3 f4 f5 (bA.from f1 ((zad _ w3).alloc (zab _) _) hq));have q1:=HS.out.nn;have q2:=HS.out.at_;have q3:=HS.out.ge;by_cases her:er=0
  ·subst her;obtain⟨rfl,rq⟩:=hz0 rfl;have nt:=bM rfl;have p1:=rq.nn;have p2:=rq.at_;have p3:=rq.fw.an;have HB:Hid (Fw src.size s3∧s.nodes.length≤s3.nodes.length∧s3.nodes.length≤s.nodes.length+505*(src.size+1-s.at_)+0):=⟨hw3,by omega,by omega⟩;have HF:Hid _:=λ(e:Int) (a:Nat)=>pg UK e a;have lO:Hid _:=js UK r;by_cases uQ:r.k=41
   ·have NG:((r.k:Int)==41)=true:=by simp;omega
    have HE:Hid ((bz (ck src) dp m deep over s).bind (λk s=>(cX (ck src) dp m deep s).bind λt s=>if t.k=41 then .ok k (s.to t.t)else if t.k=101 then .fail 4 t.f else .fail 3 t.f)=.ok k (s3.to r.t)):=by
     show _=_;rw[HX.out];show(cX (ck src) dp m deep s2).bind _=_;rw[nt];show(if r.k=41 then _ else _)=_;rw[zac uQ]
    clear bM hno hz0 hz1 nt rq f1 UK f2 f3 f4 f5 HB HF HST yQ hw3 Ee uQ HS HX xW lN hw2;unfold ai aK at lO;go_wp2_with fail;refine zae lO.out ?_;rintro e w5 ⟨rfl,hq⟩;have HQ:Hid _:=vB.out _ _ _ _ hq;clear hq lO;go_wp2_with fail;go_ret;rw[HE.out];exact⟨rfl,HQ.out⟩
   ·have NG:((r.k:Int)==41)=false:=by simp;omega
    by_cases Q8:r.k=101
    ·have ZH:((r.k:Int)==101)=true:=by simp;omega
     have HE:Hid ((bz (ck src) dp m deep over s).bind (λk s=>(cX (ck src) dp m deep s).bind λt s=>if t.k=41 then .ok k (s.to t.t)else if t.k=101 then .fail 4 t.f else .fail 3 t.f)=.fail 4 r.f):=by
      show _=_;rw[HX.out];show(cX (ck src) dp m deep s2).bind _=_;rw[nt];show(if r.k=41 then _ else _)=_;rw[zaa uQ,zac Q8]
     clear bM hno hz0 hz1 nt rq f1 UK f2 f3 f4 f5 lO HST yQ hw3 Ee uQ Q8 HS HX xW lN hw2;unfold ai at HF;go_wp2_with fail;refine zae (HF.out 4 r.f) ?_;rintro e w5 ⟨rfl,hq⟩;have HQ:Hid _:=vB.out _ _ _ _ hq;clear hq HF;go_wp2_with fail;go_ret;rw[HE.out];exact⟨by decide,0,s3,rfl,HQ.out,HB.out.1,HB.out.2.1,HB.out.2.2⟩
    ·have ZH:((r.k:Int)==101)=false:=by simp;omega
     have HE:Hid ((bz (ck src) dp m deep over s).bind (λk s=>(cX (ck src) dp m deep s).bind λt s=>if t.k=41 then .ok k (s.to t.t)else if t.k=101 then .fail 4 t.f else .fail 3 t.f)=.fail 3 r.f):=by
      show _=_;rw[HX.out];show(cX (ck src) dp m deep s2).bind _=_;rw[nt];show(if r.k=41 then _ else _)=_;rw[zaa uQ,zaa Q8]
     clear bM hno hz0 hz1 nt rq f1 UK f2 f3 f4 f5 lO HST yQ hw3 Ee uQ Q8 HS HX xW lN hw2;unfold ai at HF;go_wp2_with fail;refine zae (HF.out 3 r.f) ?_;rintro e w5 ⟨rfl,hq⟩;have HQ:Hid _:=vB.out _ _ _ _ hq;clear hq HF;go_wp2_with fail;go_ret;rw[HE.out];exact⟨by decide,0,s3,rfl,HQ.out,HB.out.1,HB.out.2.1,HB.out.2.2⟩
  ·have NH:(er != 0)=true:=by simpa using her
   have nt:=hno her;have p1:=hz1 her;have HQ:Hid _:=vB.out _ _ _ _ UK.go;have HE:Hid ((bz (ck src) dp m deep over s).bind (λk s=>(cX (ck src) dp m deep s).bind λt s=>if t.k=41 then .ok k (s.to t.t)else if t.k=101 then .fail 4 t.f else .fail 3 t.f)=.fail er a):=by
    show _=_;rw[HX.out];show(cX (ck src) dp m deep s2).bind _=_;rw[nt];rfl
   have HP:Hid _:=And.intro her (And.intro hw3 (And.intro (show s.nodes.length≤s3.nodes.length by omega) (show s3.nodes.length≤s.nodes.length+505*(src.size+1-s.at_)+0 by omega)));clear bM hno hz0 hz1 nt f1 UK f2 f3 f4 f5 HST yQ hw3 Ee HS HX xW lN hw2 her p1;go_wp2_with fail;go_ret;rw[HE.out];exact⟨HP.out.1,0,s3,rfl,HQ.out,HP.out.2.1,HP.out.2.2.1,HP.out.2.2.2⟩
 ·have NH:(er != 0)=true:=by simpa using her
  have hX:Hid _:=hno her;have HP:Hid _:=And.intro her (And.intro hw2 (And.intro ft (hz1 her)));clear bM hno hz0 hz1 Gk MG HO BQ lN g1 g2 g3 g4 g5 hw2 ft her;go_wp2_with fail;go_ret;rw[hX.out];exact⟨HP.out.1,0,s2,rfl,⟨iT,iY,iV,cK,xW.out.1,xW.out.2.1,xW.out.2.2.1,xW.out.2.2.2.1,xW.out.2.2.2.2⟩,HP.out.2.1,HP.out.2.2.1,HP.out.2.2.2⟩
end
theorem BR (w:Θ)(b:Nat):mN w b (.slice none 0 0) []:=⟨rfl,.inl ⟨rfl,rfl⟩⟩
section
variable {w0 w:Θ}{R:Nat}{src:ByteArray}{dp:Nat}{s:FS}{nv sv bv:Λ}{ay:List Λ}
def tR (w:Θ)(r:RT)(x:dF):Θ:=(w.alloc (.cells (dU r) 57)).alloc (.cells #[Γ Δ x.kind,.string ⟨⟨x.text⟩⟩,Γ Δ x.n,Γ Δ x.d,.slice none 0 0] 50)
theorem jK (w:Θ)(r:RT)(x:dF):Φ w.heap.size w (tR w r x):=((zad _ _).alloc (zab _) _).alloc (by simp) _
theorem Q9 (w:Θ)(r:RT)(x:dF):(tR w r x).heap.size=w.heap.size+1+1:=by simp[tR]
theorem UL (w:Θ)(r:RT)(x:dF):(tR w r x).heap[w.heap.size]?=some (.cells (dU r) 57):=by
 show((w.heap.push _).push _)[w.heap.size]?=_;rw[zbl,zaa (by simp)];simp
theorem Ij (w:Θ)(r:RT)(x:dF):(tR w r x).heap[w.heap.size+1]?=some (.cells #[Γ Δ x.kind,.string ⟨⟨x.text⟩⟩,Γ Δ x.n,Γ Δ x.d,.slice none 0 0] 50):=by
 show((w.heap.push _).push _)[w.heap.size+1]?=_;rw[zbl,zac (by simp)]
theorem UM {b:Nat}{u0 u1 u2 u3 u4:Λ}{e:Ω}(h:w.heap[b]?=some (.cells #[u0,u1,u2,u3,u4] e)):w.cell? ⟨b,0,none⟩=some u0∧w.cell? ⟨b,1,none⟩=some u1∧w.cell? ⟨b,2,none⟩=some u2∧w.cell? ⟨b,3,none⟩=some u3∧w.cell? ⟨b,4,none⟩=some u4:=by
 refine⟨?_,?_,?_,?_,?_⟩<;>simp[Θ.cell?,h]
theorem Ef {r:RT}{x:dF}{W w3:Θ}(hB:Φ w.heap.size w W)(hz:W.heap.size=w.heap.size+1+1)(ZI:W.heap[w.heap.size+1]?=some (.cells #[Γ Δ x.kind,.string ⟨⟨x.text⟩⟩,Γ Δ x.n,Γ Δ x.d,.slice none 0 0] 50))(h:bw w0 w R src dp s 0 0 nv sv bv ay)(hw:Fw src.size s)(hn:s.nodes.length≤300000)(hx:x.subs=[])(hq:bA w0 W R src dp nv sv bv (s.to r.t) 0 0 w3):(w3.cell? ⟨w.heap.size+1,0,none⟩=some (Γ Δ x.kind)∧w3.cell? ⟨w.heap.size+1,1,none⟩=some (.string ⟨⟨x.text⟩⟩)∧w3.cell? ⟨w.heap.size+1,2,none⟩=some (Γ Δ x.n)∧w3.cell? ⟨w.heap.size+1,3,none⟩=some (Γ Δ x.d)∧w3.cell? ⟨w.heap.size+1,4,none⟩=some (.slice none 0 0))∧Ξ prog 18 #[ai R,fV x (.slice none 0 0)] w3 λe w'=>e=.returned (Γ Δ s.nodes.length)∧bA w0 w R src dp nv sv bv ((s.to r.t).add x) 0 0 w':=by
 obtain⟨KR,KS,KT,xX,f1,f2,f3,f4,f5⟩:=hq;have hlt:∀{e:Ω} {z:Nat} {v:Λ} {n:Nat} {xs:List Λ},w.ownsRow w0.heap.size e z v n xs→v.ownBlock≠some (w.heap.size+1):=λhr e=>by have:=(ba hr e).2.1;omega
 have hk:w3.heap[w.heap.size+1]?=some (.cells #[Γ Δ x.kind,.string ⟨⟨x.text⟩⟩,Γ Δ x.n,Γ Δ x.d,.slice none 0 0] 50):=(f2.block _ (by omega) (by have:=h.ko;omega) (hlt h.iM) (hlt h.jI) (hlt h.jX)).trans ZI;refine⟨UM hk,(xN f1 x hx (by show s.nodes.length+1≤1000000;omega) (by show s.same.length+1≤1000000;rw[hw.sl];omega) (by show s.begun.length+1≤1000000;rw[hw.bl];omega)).mono ?_⟩;rintro e w' ⟨rfl,hg⟩;exact⟨rfl,bA.from h hB (bA.trans f1 f2 f3 f4 f5 hg)⟩
theorem zbg {b q:Nat}{W:Θ}(h:Φ b w W):Φ b w (W.drewN q):=⟨h.os,h.tape,h.output,h.size,h.block⟩
theorem yR {m:Nat}(h:bw w0 w R src dp s 0 0 nv sv bv ay)(hw:Fw src.size s)(hn:s.nodes.length+505*(src.size+1-s.at_)≤300000)(deep:Nat)(over:Bool)(kX:(ck src s.at_).k=115∨(ck src s.at_).k=119∨(ck src s.at_).k=98∨(ck src s.at_).k=99):Ξ prog 19 #[ai R,uA (ck src s.at_),Γ Δ deep,.bool over] w (dL w0 w R src dp nv sv bv s 0 (bK (ck src) dp (m+1) (ck src s.at_) deep over s)):=by
 have hlt:=h.ko;have e1:¬R=w.heap.size:=by omega
 have e2:R<w.heap.size+1:=by omega
 have e3:¬R=w.heap.size+1:=by omega
 generalize ck src s.at_=r at *;obtain⟨rk,rf,rt,rx,rn,rd⟩:=r;have lO:Hid (∀x,Ξ prog 17 #[ai R,aK rk rf rt rx rn rd] (tR w ⟨rk,rf,rt,rx,rn,rd⟩ x) λe w'=>e=.returned (.tuple #[])∧bA w0 (tR w ⟨rk,rf,rt,rx,rn,rd⟩ x) R src dp nv sv bv (s.to rt) 0 0 w'):=λx=>js (h.keep (jK w ⟨rk,rf,rt,rx,rn,rd⟩ x)) ⟨rk,rf,rt,rx,rn,rd⟩;have HAD:Hid (∀x w3,x.subs=[]→bA w0 (tR w ⟨rk,rf,rt,rx,rn,rd⟩ x) R src dp nv sv bv (s.to rt) 0 0 w3→_):=λx w3 hx hq=>Ef (x:=x) (w3:=w3) (r:=⟨rk,rf,rt,rx,rn,rd⟩) (jK w _ x) (Q9 w _ x) (Ij w _ x) h hw (by omega) hx hq;clear h hw;unfold ai aK tR dU at lO;simp only[uA,aK];unfold ai;by_cases ZJ:rk=115
 ·subst ZJ;have ux:Hid _:=lO.out ⟨3,rx,0,0,[]⟩;have HA:Hid _:=λw3=>HAD.out ⟨3,rx,0,0,[]⟩ w3 rfl;clear lO HAD;unfold tR dU ai fV at HA;go_enter func19,ntmps19;go_wp2_with fail;refine zae ux.out ?_;rintro e w3 ⟨rfl,hq⟩;obtain⟨⟨n0,n1,n2,n3,n4⟩,fP⟩:=HA.out w3 hq;have HC:Hid _:=fP;clear fP hq ux HA;go_wp2_with fail;refine zae HC.out ?_;rintro e w4 ⟨rfl,hg⟩;have HG:Hid _:=hg;clear hg HC;go_wp2_with fail;go_ret;simp only[bK];exact⟨rfl,HG.out⟩
 by_cases ZK:rk=119
 ·subst ZK;have ux:Hid _:=lO.out ⟨4,rx,0,0,[]⟩;have HA:Hid _:=λw3=>HAD.out ⟨4,rx,0,0,[]⟩ w3 rfl;clear lO HAD;unfold tR dU ai fV at HA;go_enter func19,ntmps19;go_wp2_with fail;refine zae ux.out ?_;rintro e w3 ⟨rfl,hq⟩;obtain⟨⟨n0,n1,n2,n3,n4⟩,fP⟩:=HA.out w3 hq;have HC:Hid _:=fP;clear fP hq ux HA;go_wp2_with fail;refine zae HC.out ?_;rintro e w4 ⟨rfl,hg⟩;have HG:Hid _:=hg;clear hg HC;go_wp2_with fail;go_ret;simp only[bK];exact⟨rfl,HG.out⟩
 by_cases ZL:rk=98
 ·subst ZL;have ux:Hid _:=lO.out ⟨6,[],rn,0,[]⟩;have HA:Hid _:=λw3=>HAD.out ⟨6,[],rn,0,[]⟩ w3 rfl;clear lO HAD;unfold tR dU ai fV at HA;go_enter func19,ntmps19;go_wp2_with fail;refine zae ux.out ?_;rintro e w3 ⟨rfl,hq⟩;obtain⟨⟨n0,n1,n2,n3,n4⟩,fP⟩:=HA.out w3 hq;have HC:Hid _:=fP;clear fP hq ux HA;go_wp2_with fail;refine zae HC.out ?_;rintro e w4 ⟨rfl,hg⟩;have HG:Hid _:=hg;clear hg HC;go_wp2_with fail;go_ret;simp only[bK];exact⟨rfl,HG.out⟩
 by_cases ZM:rk=99
 ·subst ZM;have ux:Hid _:=lO.out ⟨7,[],rn,0,[]⟩;have HA:Hid _:=λw3=>HAD.out ⟨7,[],rn,0,[]⟩ w3 rfl;clear lO HAD;unfold tR dU ai fV at HA;go_enter func19,ntmps19;go_wp2_with fail;refine zae ux.out ?_;rintro e w3 ⟨rfl,hq⟩;obtain⟨⟨n0,n1,n2,n3,n4⟩,fP⟩:=HA.out w3 hq;have HC:Hid _:=fP;clear fP hq ux HA;go_wp2_with fail;refine zae HC.out ?_;rintro e w4 ⟨rfl,hg⟩;have HG:Hid _:=hg;clear hg HC;go_wp2_with fail;go_ret;simp only[bK];exact⟨rfl,HG.out⟩
 exfalso;rcases kX with h|h|h|h
 ·exact ZJ h
 ·exact ZK h
 ·exact ZL h
 ·exact ZM h
end
section
variable {w0 w:Θ}{R:Nat}{src:ByteArray}{dp:Nat}{s:FS}{nv sv bv:Λ}{ay:List Λ}
theorem se (h:bw w0 w R src dp s 0 0 nv sv bv ay)(hw:Fw src.size s)(r:RT)(x:dF)(e:Int)(he:e≠0):Ξ prog 16 #[ai R,Γ Δ e,Γ Δ r.f] (tR w r x) λy w'=>y=.returned (Γ Δ 0)∧dL w0 w R src dp nv sv bv s 0 (.fail e r.f) (.returned (Γ Δ 0)) w':=
 (pg (h.keep (jK w r x)) e r.f).mono (by
   rintro y w' ⟨rfl,hg⟩;exact⟨rfl,he,0,s,rfl,bA.from h (jK w r x) hg,hw,zab _,by omega⟩)
theorem BS (h:bw w0 w R src dp s 0 0 nv sv bv ay)(hw:Fw src.size s)(deep:Nat)(over:Bool)(rf rt:Nat)(rx:List UInt8)(rn rd:Int)(vX:1000000<rn∨(¬1000000<rn∧rn< -1000000)∨(¬1000000<rn∧¬rn< -1000000∧1000000<rd)):Ξ prog 19 #[ai R,aK 110 rf rt rx rn rd,Γ Δ deep,.bool over] w (dL w0 w R src dp nv sv bv s 0 (.fail 7 rf)):=by
 have hlt:=h.ko;have e1:¬R=w.heap.size:=by omega
 have e2:R<w.heap.size+1:=by omega
 have e3:¬R=w.heap.size+1:=by omega
 have HT:Hid _:=se h hw ⟨110,rf,rt,rx,rn,rd⟩ fq 7 (by decide);clear h hw;unfold ai tR dU at HT;unfold ai aK;rcases vX with hb|⟨hb,hb2⟩|⟨hb,hb2,hb3⟩
 all_goals
  go_enter func19,ntmps19;go_wp2_with fail;refine zae HT.out ?_;rintro e w3 ⟨rfl,hq⟩;have HQ:Hid _:=hq;clear hq HT;go_wp2_with fail;go_ret;exact HQ.out
theorem yS (h:bw w0 w R src dp s 0 0 nv sv bv ay)(hw:Fw src.size s)(deep:Nat)(over:Bool)(rf rt:Nat)(rx:List UInt8)(rn:Int)(hb1:¬1000000<rn)(hb2:¬rn< -1000000):Ξ prog 19 #[ai R,aK 110 rf rt rx rn 0,Γ Δ deep,.bool over] w (dL w0 w R src dp nv sv bv s 0 (.fail 3 rf)):=by
 have hlt:=h.ko;have e1:¬R=w.heap.size:=by omega
 have e2:R<w.heap.size+1:=by omega
 have e3:¬R=w.heap.size+1:=by omega
 have HT:Hid _:=se h hw ⟨110,rf,rt,rx,rn,0⟩ fq 3 (by decide);clear h hw;unfold ai tR dU at HT;unfold ai aK;go_enter func19,ntmps19;go_wp2_with fail;refine zae HT.out ?_;rintro e w3 ⟨rfl,hq⟩;have HQ:Hid _:=hq;clear hq HT;go_wp2_with fail;go_ret;exact HQ.out
def Sv (w:Θ)(r:RT)(x:dF)(q:Nat):Θ:=((((((tR w r fq).drewN q).setCell ⟨w.heap.size+1,0,none⟩ (Γ Δ x.kind)).setCell ⟨w.heap.size+1,1,none⟩ (.string ⟨⟨x.text⟩⟩)).setCell ⟨w.heap.size+1,2,none⟩ (Γ Δ x.n)).setCell ⟨w.heap.size+1,3,none⟩ (Γ Δ x.d)).setCell ⟨w.heap.size+1,4,none⟩ (.slice none 0 0)
theorem Eg (w:Θ)(r:RT)(x:dF)(q:Nat):Φ w.heap.size w (Sv w r x q):=by
 have h:w.heap.size≤w.heap.size+1:=by omega
 exact(((((zbg (q:=q) (jK w r fq)).setCell (p:=⟨w.heap.size+1,0,none⟩) h _).setCell (p:=⟨w.heap.size+1,1,none⟩) h _).setCell (p:=⟨w.heap.size+1,2,none⟩) h _).setCell (p:=⟨w.heap.size+1,3,none⟩) h _).setCell (p:=⟨w.heap.size+1,4,none⟩) h _
theorem Ra (w:Θ)(r:RT)(x:dF)(q:Nat):(Sv w r x q).heap.size=w.heap.size+1+1:=by simp[Sv,tR]
theorem Rb (w:Θ)(r:RT)(x:dF)(q:Nat):(Sv w r x q).heap[w.heap.size+1]?=some (.cells #[Γ Δ x.kind,.string ⟨⟨x.text⟩⟩,Γ Δ x.n,Γ Δ x.d,.slice none 0 0] 50):=by
 have h0:((tR w r fq).drewN q).heap[w.heap.size+1]?=some (.cells #[Γ Δ fq.kind,.string ⟨⟨fq.text⟩⟩,Γ Δ fq.n,Γ Δ fq.d,.slice none 0 0] 50):=Ij w r fq;unfold Sv;rw[bk (bk (bk (bk (bk h0 0 _) 1 _) 2 _) 3 _) 4 _];simp
theorem BU (h:bw w0 w R src dp s 0 0 nv sv bv ay)(hw:Fw src.size s)(hn:s.nodes.length≤300000)(deep:Nat)(over:Bool)(rf rt:Nat)(rx:List UInt8)(rn rd n' d':Int)(hb1:¬1000000<rn)(hb2:¬rn< -1000000)(hb3:¬1000000<rd)(Pv:(rd==0)=false)(eQ:∀W,Ξ prog 30 #[Γ Δ rn,Γ Δ rd] W λe w'=>e=.returned (.tuple #[Γ Δ n',Γ Δ d'])∧∃m,w'=W.drewN m):Ξ prog 19 #[ai R,aK 110 rf rt rx rn rd,Γ Δ deep,.bool over] w (dL w0 w R src dp nv sv bv s 0 (.ok s.nodes.length ((s.to rt).add ⟨5,[],n',d',[]⟩))):=by
 have hlt:=h.ko;have e1:¬R=w.heap.size:=by omega
 have e2:R<w.heap.size+1:=by omega
 have e3:¬R=w.heap.size+1:=by omega
 have ux:Hid (∀q:Nat,Ξ prog 17 #[ai R,aK 110 rf rt rx rn rd] (Sv w ⟨110,rf,rt,rx,rn,rd⟩ ⟨5,[],n',d',[]⟩ q) λe w'=>e=.returned (.tuple #[])∧bA w0 (Sv w ⟨110,rf,rt,rx,rn,rd⟩ ⟨5,[],n',d',[]⟩ q) R src dp nv sv bv (s.to rt) 0 0 w'):=λq=>js (h.keep (Eg w ⟨110,rf,rt,rx,rn,rd⟩ ⟨5,[],n',d',[]⟩ q)) ⟨110,rf,rt,rx,rn,rd⟩;have HA:Hid _:=λ(q:Nat) (w3:Θ) (hq:bA w0 (Sv w ⟨110,rf,rt,rx,rn,rd⟩ ⟨5,[],n',d',[]⟩ q) R src dp nv sv bv (s.to rt) 0 0 w3)=>Ef (x:=⟨5,[],n',d',[]⟩) (w3:=w3) (r:=⟨110,rf,rt,rx,rn,rd⟩) (Eg w ⟨110,rf,rt,rx,rn,rd⟩ ⟨5,[],n',d',[]⟩ q) (Ra w ⟨110,rf,rt,rx,rn,rd⟩ ⟨5,[],n',d',[]⟩ q) (Rb w ⟨110,rf,rt,rx,rn,rd⟩ ⟨5,[],n',d',[]⟩ q) h hw hn rfl hq;have ZN:Hid _:=eQ;clear h hw eQ;unfold ai aK at ux;unfold ai fV at HA;unfold ai aK;go_enter func19,ntmps19;go_wp2_with fail;refine zae (ZN.out _) ?_;rintro e w1 ⟨rfl,q,rfl⟩;go_wp2_with fail;refine zae (ux.out q) ?_;rintro e w3 ⟨rfl,hq⟩;obtain⟨⟨n0,n1,n2,n3,n4⟩,fP⟩:=HA.out q w3 hq;have HC:Hid _:=fP;clear fP hq ux HA ZN;go_wp2_with fail;refine zae HC.out ?_;rintro e w4 ⟨rfl,hg⟩;have HG:Hid _:=hg;clear hg HC;go_wp2_with fail;go_ret;exact⟨rfl,HG.out⟩
end
end Go.Proofs.YtlhimdjkkiflhaaGreat
