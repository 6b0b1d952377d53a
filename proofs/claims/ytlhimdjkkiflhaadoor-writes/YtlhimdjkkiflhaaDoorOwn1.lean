/- The program's writer: its memory, and add. -/
import Derived.Test.YtlhimdjkkiflhaaDoorAtom
import Derived.Test.YtlhimdjkkiflhaaDoorRefSay
namespace Go.Proofs.YtlhimdjkkiflhaaDoor
open Go.RowKit Go.Loop

/-- the writer in memory: W0 is the world at the call of Write -/
structure OwnW (w : World) (B p bl bL n : Nat) (nv : Value) (t : TS) (v : Value) : Prop where
  hB : B ≤ p
  blk : ∃ q, (q = .pointer none ∨ q = .pointer (some ⟨p, 4, none⟩)) ∧
    w.heap[p]? = some (.cells #[nv, .slice (some ⟨bL, 0, none⟩) n n, .slice (some ⟨bl, 0, none⟩) n n, .int .i64 t.next, q, v, .bool t.long] 60 (0, 0))
  own : w.ownsRow B 5 1 v (Lib.byteCells t.out).length (Lib.byteCells t.out)
  rl : RowI w bl t.lab
  nb : v.ownBlock ≠ some bl
  ol : t.out.length ≤ 400
  bl : bl < w.heap.size

/-- what a step of the writer leaves -/
structure KeptO (w w' : World) (p bl : Nat) (v v' : Value) : Prop where
  os : w'.os = w.os
  tape : w'.tape = w.tape
  output : w'.output = w.output
  size : w.heap.size ≤ w'.heap.size
  block : ∀ k, k < w.heap.size → k ≠ p → k ≠ bl → some k ≠ v.ownBlock → w'.heap[k]? = w.heap[k]?
  buf : v'.ownBlock = v.ownBlock ∨ ∃ k, v'.ownBlock = some k ∧ w.heap.size ≤ k

theorem KeptO.refl (w : World) (p bl : Nat) (v : Value) : KeptO w w p bl v v := ⟨rfl, rfl, rfl, Nat.le_refl _, fun _ _ _ _ _ => rfl, Or.inl rfl⟩
theorem KeptO.trans {w w' w'' : World} {p bl : Nat} {v v' v'' : Value} (h : KeptO w w' p bl v v') (k : KeptO w' w'' p bl v' v'') : KeptO w w'' p bl v v'' := by
  refine ⟨k.os.trans h.os, k.tape.trans h.tape, k.output.trans h.output, Nat.le_trans h.size k.size, fun i hi hb hl hv => ?_, ?_⟩
  · have hne : some i ≠ v'.ownBlock := by
      rcases h.buf with e | ⟨g, e, hg⟩
      · rw [e]; exact hv
      · rw [e]; intro x; simp only [Option.some.injEq] at x; omega
    exact (k.block i (Nat.lt_of_lt_of_le hi h.size) hb hl hne).trans (h.block i hi hb hl hv)
  · rcases k.buf with e | ⟨g, e, hg⟩
    · rw [e]; exact h.buf
    · exact Or.inr ⟨g, e, Nat.le_trans h.size hg⟩
theorem KeptO.of_below {w w' : World} {p bl : Nat} {v : Value} (h : Below w.heap.size w w') : KeptO w w' p bl v v := ⟨h.os, h.tape, h.output, h.size, fun k hk _ _ _ => h.block k hk, Or.inl rfl⟩
theorem KeptO.of_to {w w' : World} {p bl : Nat} {v v' : Value} (h : BldTo w w' p v v') : KeptO w w' p bl v v' := ⟨h.os, h.tape, h.output, h.size, fun k hk hp _ hv => h.block k hk hp hv, h.buf⟩
theorem KeptO.set {w : World} {p bl : Nat} {v : Value} {x : Addr} (hx : x.block = p ∨ x.block = bl) (u : Value) : KeptO w (w.setCell x u) p bl v v :=
  ⟨rfl, rfl, rfl, by simp [World.setCell], fun k _ h1 h2 _ => Below.heap_setCell _ _ _ _ (by rcases hx with h | h <;> omega), Or.inl rfl⟩
theorem KeptO.below {w w' : World} {B p bl : Nat} {v v' : Value} (h : KeptO w w' p bl v v') (hB : B ≤ w.heap.size) (hp : B ≤ p) (hl : B ≤ bl) (hv : ∀ k, v.ownBlock = some k → B ≤ k) : Below B w w' :=
  ⟨h.os, h.tape, h.output, h.size, fun k hk => h.block k (by omega) (by omega) (by omega) (fun e => by have := hv k e.symm; omega)⟩

theorem RowI.of_block {w w' : World} {b : Nat} {l : List Int} (h : RowI w b l) (e : w'.heap[b]? = w.heap[b]?) : RowI w' b l := fun i hi => by
  rw [World.cell?_of_block (w := w) (w' := w') (a := ⟨b, i, none⟩) e, World.frozen?_of_block (w := w) (w' := w') (a := ⟨b, i, none⟩) e]; exact h i hi

theorem OwnW.ownB {w : World} {B p bl bL n : Nat} {nv : Value} {t : TS} {v : Value} (h : OwnW w B p bl bL n nv t v) : ∀ k, v.ownBlock = some k → B ≤ k := fun k hk => (h.own.lt k hk).1
theorem wT : 60 ≠ 5 := by decide

/-- the writer's builder -/
theorem OwnW.bld {w : World} {B p bl bL n : Nat} {nv : Value} {t : TS} {v : Value} (h : OwnW w B p bl bL n nv t v) : ∃ q, (q = .pointer none ∨ q = .pointer (some ⟨p, 4, none⟩)) ∧
    BldAt w 60 4 B p #[nv, .slice (some ⟨bL, 0, none⟩) n n, .slice (some ⟨bl, 0, none⟩) n n, .int .i64 t.next, q, v, .bool t.long] v (Lib.byteCells t.out) := by
  obtain ⟨q, hq, hb⟩ := h.blk
  exact ⟨q, hq, h.hB, hb, by rcases hq with rfl | rfl <;> simp, rfl, h.own⟩

/-- too long: the mark is set -/
theorem OwnW.mark {w : World} {B p bl bL n : Nat} {nv : Value} {t : TS} {v : Value} (h : OwnW w B p bl bL n nv t v) (hne : p ≠ bl) :
    OwnW (w.setCell ⟨p, 6, none⟩ (.bool true)) B p bl bL n nv { t with long := true } v := by
  obtain ⟨q, hq, hb⟩ := h.blk
  have hn := Lib.ownBlock_ne h.own hb wT
  refine ⟨h.hB, ⟨q, hq, ?_⟩, ?_, ?_, h.nb, h.ol, ?_⟩
  · have := heap_setCell_same w p 6 _ _ (.bool true) hb
    exact this
  · exact h.own.kept (row := some p) ⟨rfl, rfl, rfl, by simp [World.setCell], fun k _ hk => Below.heap_setCell _ _ _ _ (fun e => hk (by simp [e]))⟩ (Or.inr hn)
  · exact h.rl.of_block (Below.heap_setCell _ _ _ _ (fun e => hne e.symm))
  · have := h.bl; simpa [World.setCell] using this

/-- a piece was written -/
theorem OwnW.wrote {w w' : World} {B p bl bL n : Nat} {nv : Value} {t : TS} {v v' : Value} {s : List UInt8} {q : Value} (h : OwnW w B p bl bL n nv t v) (hne : p ≠ bl) (hl : t.long = false) (hs : t.out.length + s.length ≤ 400)
    (h1 : BldAt w' 60 4 B p ((usedC 4 p #[nv, .slice (some ⟨bL, 0, none⟩) n n, .slice (some ⟨bl, 0, none⟩) n n, .int .i64 t.next, q, v, .bool t.long]).setIfInBounds (4 + 1) v') v' (Lib.byteCells t.out ++ Lib.strCells ⟨⟨s⟩⟩))
    (h2 : BldTo w w' p v v') : OwnW w' B p bl bL n nv (t.add s) v' ∧ KeptO w w' p bl v v' := by
  rw [add_fits hl hs]
  have e1 : Lib.byteCells (t.out ++ s) = Lib.byteCells t.out ++ Lib.strCells ⟨⟨s⟩⟩ := by rw [Lib.byteCells_append]; rfl
  refine ⟨⟨h.hB, ⟨_, Or.inr rfl, h1.blk⟩, ?_, ?_, ?_, ?_, Nat.lt_of_lt_of_le h.bl h2.size⟩, KeptO.of_to h2⟩
  · show World.ownsRow _ _ _ _ _ (Lib.byteCells (t.out ++ s)).length (Lib.byteCells (t.out ++ s))
    rw [e1]; exact h1.own
  · exact h.rl.of_block (h2.block bl h.bl (fun e => hne e.symm) (fun e => h.nb e.symm))
  · rcases h2.buf with e | ⟨k, e, hk⟩
    · rw [e]; exact h.nb
    · rw [e]; intro x; simp only [Option.some.injEq] at x; have := h.bl; omega
  · show (t.out ++ s).length ≤ 400
    rw [List.length_append]; exact hs

set_option maxHeartbeats 1000000 in
set_option maxRecDepth 100000 in
theorem add_any {w : World} {B p bl bL n : Nat} {nv : Value} {t : TS} {v : Value} (h : OwnW w B p bl bL n nv t v) (hne : p ≠ bl) (hBw : B ≤ w.heap.size) (s : List UInt8) :
    Calls Tryd.prog 38 #[.pointer (some ⟨p, 0, none⟩), .string ⟨⟨s⟩⟩] w fun e w' => e = .returned (.tuple #[]) ∧ ∃ v', OwnW w' B p bl bL n nv (t.add s) v' ∧ KeptO w w' p bl v v' := by
  obtain ⟨q, hq, hbld⟩ := h.bld
  have HBL : Hid _ := hbld
  have HW : Hid (OwnW w B p bl bL n nv t v) := h
  have hol := h.ol
  have e0 : (Lib.byteCells t.out).length = t.out.length := Lib.byteCells_length _
  have c6 : w.cell? ⟨p, 6, none⟩ = some (.bool t.long) := hbld.cell 6
  have f6 : w.frozen? ⟨p, 6, none⟩ = false := hbld.frozen 6
  clear hbld h hq
  by_cases hov : 400 < t.out.length + s.length
  · have HM : Hid _ := HW.out.mark hne
    have HA : Hid (t.add s = { t with long := true }) := by
      show _ = _
      cases hl : t.long
      · rw [add_over hl hov]
      · rw [add_long hl, ← hl]
    go_enter Tryd.func38, Tryd.ntmps38
    go_wp2_with (go_at_call 54; refine (bldLen_any HBL.out).mono ?_)
    rintro e w1 ⟨rfl, rfl⟩
    rw [e0]
    go_wp2_with fail
    go_end0
    exact ⟨rfl, v, by rw [HA.out]; exact HM.out, KeptO.set (Or.inl rfl) _⟩
  · cases hl : t.long
    · rw [hl] at c6
      go_enter Tryd.func38, Tryd.ntmps38
      go_wp2_with (go_at_call 54; refine (bldLen_any HBL.out).mono ?_)
      rintro e w1 ⟨rfl, rfl⟩
      rw [e0]
      go_wp2_with (go_at_call 55; refine (writeString_any lies_writer wT HBL.out ⟨⟨s⟩⟩ (by show _ + s.length ≤ _; omega) hBw).mono ?_)
      rintro e w2 ⟨rfl, v', h1, h2⟩
      have HR : Hid _ := HW.out.wrote hne hl (by omega) h1 h2
      clear h1 h2
      go_wp2_with fail
      go_end0
      exact ⟨rfl, v', HR.out⟩
    · rw [hl] at c6
      have HA : Hid (t.add s = t) := add_long hl s
      go_enter Tryd.func38, Tryd.ntmps38
      go_wp2_with (go_at_call 54; refine (bldLen_any HBL.out).mono ?_)
      rintro e w1 ⟨rfl, rfl⟩
      rw [e0]
      go_wp2_with fail
      go_end0
      exact ⟨rfl, v, by rw [HA.out]; exact HW.out, KeptO.refl _ _ _ _⟩
end Go.Proofs.YtlhimdjkkiflhaaDoor

/- The program's writer: put. -/
namespace Go.Proofs.YtlhimdjkkiflhaaDoor
open Go.RowKit Go.Loop

def TS.lay (t : TS) (a : Nat) : TS := { t with lab := t.lab.set a t.next, next := t.next + 1 }
theorem lay_add (t : TS) (a : Nat) : (TS.lay t a).add (35 :: (Lib.itoa t.next ++ [61])) = t.put a := by
  cases hl : t.long
  · by_cases h : 400 < t.out.length + (35 :: (Lib.itoa t.next ++ [61])).length
    · rw [add_over (t := TS.lay t a) hl h]; unfold TS.put; rw [add_over hl h]; rfl
    · rw [add_fits (t := TS.lay t a) hl (by show t.out.length + _ ≤ 400; omega)]; unfold TS.put; rw [add_fits hl (by omega)]; rfl
  · rw [add_long (t := TS.lay t a) hl]; unfold TS.put; rw [add_long hl]; rfl

theorem OwnW.lay {w : World} {B p bl bL n : Nat} {nv : Value} {t : TS} {v : Value} (h : OwnW w B p bl bL n nv t v) (hne : p ≠ bl) {a : Nat} (ha : a < t.lab.length) :
    OwnW ((w.setCell ⟨bl, a, none⟩ (.int .i64 t.next)).setCell ⟨p, 3, none⟩ (.int .i64 (t.next + 1))) B p bl bL n nv (TS.lay t a) v := by
  obtain ⟨q, hq, hb⟩ := h.blk
  have hn := Lib.ownBlock_ne h.own hb wT
  have hb1 : (w.setCell ⟨bl, a, none⟩ (.int .i64 t.next)).heap[p]? = some (.cells #[nv, .slice (some ⟨bL, 0, none⟩) n n, .slice (some ⟨bl, 0, none⟩) n n, .int .i64 t.next, q, v, .bool t.long] 60 (0, 0)) :=
    (Below.heap_setCell _ _ _ _ hne).trans hb
  have o1 := h.own.kept (w' := w.setCell ⟨bl, a, none⟩ (.int .i64 t.next)) (row := some bl) ⟨rfl, rfl, rfl, by simp [World.setCell], fun k _ hk => Below.heap_setCell _ _ _ _ (fun e => hk (by simp [e]))⟩ (Or.inr h.nb)
  refine ⟨h.hB, ⟨q, hq, ?_⟩, ?_, ?_, h.nb, h.ol, ?_⟩
  · have := heap_setCell_same (w.setCell ⟨bl, a, none⟩ (.int .i64 t.next)) p 3 _ _ (.int .i64 (t.next + 1)) hb1
    exact this
  · exact o1.kept (row := some p) ⟨rfl, rfl, rfl, by simp [World.setCell], fun k _ hk => Below.heap_setCell _ _ _ _ (fun e => hk (by simp [e]))⟩ (Or.inr hn)
  · exact (h.rl.set a ha t.next).of_block (Below.heap_setCell _ _ _ _ (fun e => hne e.symm))
  · have := h.bl; simpa [World.setCell] using this

/-- the table, whatever is written from B on -/
def PowB (B : Nat) (w : World) : Prop := ∀ w', Below B w w' → Pow w'
theorem PowB.on {B : Nat} {w w' : World} (h : PowB B w) (hb : Below B w w') : PowB B w' := fun x hx => h x (hb.trans hx)
theorem PowB.here {B : Nat} {w : World} (h : PowB B w) : Pow w := h w (Below.refl _ _)
theorem OwnW.drew {w : World} {B p bl bL n : Nat} {nv : Value} {t : TS} {v : Value} (h : OwnW w B p bl bL n nv t v) : OwnW w.drew B p bl bL n nv t v := ⟨h.hB, h.blk, h.own, h.rl, h.nb, h.ol, h.bl⟩
theorem OwnW.lt {w : World} {B p bl bL n : Nat} {nv : Value} {t : TS} {v : Value} (h : OwnW w B p bl bL n nv t v) : p < w.heap.size := by
  obtain ⟨q, hq, hb⟩ := h.blk
  exact (Array.getElem?_eq_some_iff.1 hb).1
theorem OwnW.below {w w' : World} {B p bl bL n : Nat} {nv : Value} {t : TS} {v : Value} (h : OwnW w B p bl bL n nv t v) (hb : Below w.heap.size w w') : OwnW w' B p bl bL n nv t v := by
  obtain ⟨q, hq, hk⟩ := h.blk
  refine ⟨h.hB, ⟨q, hq, (hb.block p h.lt).trans hk⟩, ?_, h.rl.of_block (hb.block bl h.bl), h.nb, h.ol, Nat.lt_of_lt_of_le h.bl hb.size⟩
  exact h.own.kept (row := none) ⟨hb.os, hb.tape, hb.output, hb.size, fun k hk _ => hb.block k hk⟩ (by cases v.ownBlock <;> simp)

set_option maxHeartbeats 1000000 in
set_option maxRecDepth 100000 in
theorem put_any {w : World} {B p bl bL n : Nat} {nv : Value} {t : TS} {v : Value} (h : OwnW w B p bl bL n nv t v) (hne : p ≠ bl) (hBw : B ≤ w.heap.size) (hn : t.lab.length = n) (hnx : t.next ≤ 401) (a : Nat) (ha : a < n) (hBl : B ≤ bl) (hp : PowB B w) :
    Calls Tryd.prog 40 #[.pointer (some ⟨p, 0, none⟩), .int .i64 a] w fun e w' => e = .returned (.tuple #[]) ∧ ∃ v', OwnW w' B p bl bL n nv (t.put a) v' ∧ KeptO w w' p bl v v' := by
  have HL : Hid _ := h.lay hne (a := a) (by omega)
  have HKL : Hid (KeptO w ((w.setCell ⟨bl, a, none⟩ (.int .i64 t.next)).setCell ⟨p, 3, none⟩ (.int .i64 (t.next + 1))) p bl v v) :=
    (KeptO.set (x := ⟨bl, a, none⟩) (Or.inr rfl) _).trans (KeptO.set (x := ⟨p, 3, none⟩) (Or.inl rfl) _)
  obtain ⟨q, hq, hb⟩ := h.blk
  have c2 : w.cell? ⟨p, 2, none⟩ = some (.slice (some ⟨bl, 0, none⟩) n n) := Lib.cell_of_heap hb 2
  have c3 : w.cell? ⟨p, 3, none⟩ = some (.int .i64 t.next) := Lib.cell_of_heap hb 3
  have f3 : w.frozen? ⟨p, 3, none⟩ = false := Lib.frozen_of_heap hb 3
  obtain ⟨ca, fa⟩ := h.rl a (by omega)
  have HP : Hid (PowB B w) := hp
  have HLW : Hid (OwnW w B p bl bL n nv t v) := h
  have hlen := itoa_len t.next (by omega) (by omega)
  have ks := str_app
  clear hp hb hq h
  go_enter Tryd.func40, Tryd.ntmps40
  go_wp2_with fail
  go_region
  all_goals
    go_wp2_with (go_at_call 39; refine (itoa_any t.next _ (by omega) (by omega) (HP.out _ (HKL.out.below hBw HLW.out.hB hBl HLW.out.ownB).drew)).mono ?_)
    rintro e w1 ⟨rfl, hb1⟩
    have HB1 : Hid (OwnW w1 B p bl bL n nv (TS.lay t a) v) := HL.out.drew.below hb1
    have HK1 : Hid (KeptO w w1 p bl v v) := HKL.out.trans (KeptO.of_below (((Below.refl _ _).drew).trans hb1))
    clear hb1
    go_wp2_with (go_at_call 38; refine (add_any HB1.out hne (Nat.le_trans hBw HK1.out.size) (35 :: (Lib.itoa t.next ++ [61]))).mono ?_)
    rintro e w2 ⟨rfl, v', h2, h3⟩
    have H2 : Hid (OwnW w2 B p bl bL n nv (t.put a) v') := by rw [lay_add] at h2; exact h2
    have H3 : Hid (KeptO w w2 p bl v v') := HK1.out.trans h3
    clear h2 h3
    go_wp2_with fail
    go_end0
    exact ⟨rfl, v', H2.out, H3.out⟩
end Go.Proofs.YtlhimdjkkiflhaaDoor

/- The program's writer: vectors. -/
namespace Go.Proofs.YtlhimdjkkiflhaaDoor
open Go.RowKit Go.Loop

/-- what is written, and where it lies; Rc: what may be met, rk: a rank that falls along rests without labels -/
structure OCtx (G : List Nd) (b o : Nat) (W0 : World) (p bl bL : Nat) (L : Nat → Bool) (Rc : Nat → Prop) (rk : Nat → Nat) : Prop where
  hG : GraphAt W0 b o G
  hk : ∀ x (h : x < G.length), kindB G[x] = true
  hs : ∀ x (h : x < G.length), subsB G[x].subs G.length = true
  hn : G.length ≤ 150
  hp : W0.heap.size ≤ p
  hl : W0.heap.size ≤ bl
  pl : p ≠ bl
  hL : ∀ i, i < G.length → W0.cell? ⟨bL, i, none⟩ = some (.bool (L i))
  pw : Pow W0
  rc : ∀ x, Rc x → ∀ y ∈ subsN G x, Rc y
  rr : ∀ x, Rc x → ∀ y ∈ subsN G x, kindN G y = 1 → L y = false → rk y < rk x

def NSaid (G : List Nd) (b o cap : Nat) (W0 : World) (p bl bL : Nat) (L : Nat → Bool) (Rc : Nat → Prop) (f : Nat) : Prop :=
  ∀ (t : TS) (a : Int) (w : World) (v : Value), t.Ok G.length L → 0 ≤ a → a < G.length → Rc a.toNat → need t ≤ f → Below W0.heap.size W0 w → OwnW w W0.heap.size p bl bL G.length (.slice (some ⟨b, o, none⟩) G.length cap) t v →
    Calls Tryd.prog 23 #[.pointer (some ⟨p, 0, none⟩), .int .i64 a] w fun e w' => e = .returned (.tuple #[]) ∧
      ∃ v', OwnW w' W0.heap.size p bl bL G.length (.slice (some ⟨b, o, none⟩) G.length cap) (WF (kindN G) (subsN G) (atN G) L f false t a.toNat) v' ∧ KeptO w w' p bl v v'

theorem subs_mem (G : List Nd) (x : Nat) (h : x < G.length) (k : Nat) (hk : k < G[x].subs.length) : (G[x].subs.getD k 0).toNat ∈ subsN G x := by
  rw [subsN_at G x h]
  simp only [List.mem_map]
  exact ⟨G[x].subs.getD k 0, by simp [List.getD, List.getElem?_eq_getElem hk], rfl⟩

theorem KeptO.box {w w' : World} {p bl : Nat} {v v' : Value} {cs : Array Value} {T : TypeId} (h : KeptO (w.alloc (.cells cs T)) w' p bl v v') (hp : p < w.heap.size) (hl : bl < w.heap.size) (hv : ∀ k, v.ownBlock = some k → k < w.heap.size) :
    ∀ i z, cs[i]? = some z → w'.cell? ⟨w.heap.size, i, none⟩ = some z := fun i z hz => by
  have := h.block w.heap.size (by simp) (by omega) (by omega) (fun e => by have := hv _ e.symm; omega)
  rw [Lib.cell_of_heap (this.trans (heap_alloc_new w _))]; exact hz
theorem OwnW.ownLt {w : World} {B p bl bL n : Nat} {nv : Value} {t : TS} {v : Value} (h : OwnW w B p bl bL n nv t v) : ∀ k, v.ownBlock = some k → k < w.heap.size := fun k hk => (h.own.lt k hk).2

set_option maxHeartbeats 1000000 in
set_option maxRecDepth 100000 in
theorem vector_step (G : List Nd) (b o cap : Nat) (W0 : World) (p bl bL : Nat) (L : Nat → Bool) (Rc : Nat → Prop) (rk : Nat → Nat) (C : OCtx G b o W0 p bl bL L Rc rk) (f : Nat) (IA : Hid (NSaid G b o cap W0 p bl bL L Rc f))
    (n : Nat) (han : n < G.length) (hrc : Rc n) (k2 : G[n].kind = 2) (t : TS) (w : World) (v : Value) (ht : t.Ok G.length L) (hf : need (t.add [35, 40]) ≤ f) (hb : Below W0.heap.size W0 w)
    (hSLT : ∀ x, x < G.length → ∀ y ∈ subsN G x, y < G.length) (hS2 : ∀ x, x < G.length → kindN G x = 1 → (subsN G x).length = 2)
    (hw : OwnW w W0.heap.size p bl bL G.length (.slice (some ⟨b, o, none⟩) G.length cap) t v) :
    Calls Tryd.prog 42 #[.pointer (some ⟨p, 0, none⟩), nodeV G[n]] w fun e w' => e = .returned (.tuple #[]) ∧
      ∃ v', OwnW w' W0.heap.size p bl bL G.length (.slice (some ⟨b, o, none⟩) G.length cap) ((vecTo (WF (kindN G) (subsN G) (atN G) L f false) (subsN G n) (subsN G n).length (t.add [35, 40])).add [41]) v' ∧ KeptO w w' p bl v v' := by
  have HC : Hid (OCtx G b o W0 p bl bL L Rc rk) := C
  have HB : Hid (Below W0.heap.size W0 w) := hb
  have HXI : Hid _ := (C.hG n han).ints
  have HXS : Hid _ := C.hs n han
  have HXK : Hid _ := C.hk n han
  have HSG : Hid (∀ k, k < G[n].subs.length → (subsN G n).getD k 0 = (G[n].subs.getD k 0).toNat) := fun k hk => subs_get G n han k hk
  have HRC : Hid (∀ k, k < G[n].subs.length → Rc (G[n].subs.getD k 0).toNat) := fun k hk => C.rc n hrc _ (subs_mem G n han k hk)
  have HLL : Hid ((subsN G n).length = G[n].subs.length) := by show _ = _; rw [subsN_at G n han]; simp
  generalize G[n] = x at *
  have HNV : Hid (∀ k, need (vecTo (WF (kindN G) (subsN G) (atN G) L f false) (subsN G n) k (t.add [35, 40])) ≤ f) := fun k => Nat.le_trans (need_vec (fun t y => need_WF f false t y) _ _ _) hf
  have HOV : Hid (∀ k, k ≤ x.subs.length → (vecTo (WF (kindN G) (subsN G) (atN G) L f false) (subsN G n) k (t.add [35, 40])).Ok G.length L) := fun k hk =>
    vec_ok (fun t y ht hy => WF_ok hSLT hS2 f false t y ht hy) (subsN G n) (hSLT n han) k _ (by rw [HLL.out]; exact hk) (ht.add _)
  have hlen : x.subs.length ≤ 20 := by have := HXK.out; unfold kindB at this; rw [if_neg (by omega), if_neg (by omega), if_pos k2] at this; simp at this; exact this.1
  have HBX : Hid (OwnW (w.alloc (.cells #[.int .i64 x.kind, .string ⟨⟨x.text⟩⟩, .int .i64 x.n, .int .i64 x.d, .slice x.sa x.subs.length x.cap] 26)) W0.heap.size p bl bL G.length (.slice (some ⟨b, o, none⟩) G.length cap) t v) := hw.below below_box
  have HBOX : Hid _ := (⟨hw.lt, hw.bl, hw.ownLt⟩ : p < w.heap.size ∧ bl < w.heap.size ∧ ∀ k, v.ownBlock = some k → k < w.heap.size)
  have hsz := hb.size
  have hne := C.pl
  have HKB : Hid (∀ w' v', KeptO w w' p bl v v' → Below W0.heap.size W0 w') := fun w' v' h => hb.trans (h.below hsz C.hp C.hl hw.ownB)
  clear k2 C hb ht hf hw hSLT hS2 hrc
  unfold nodeV
  go_enter Tryd.func42, Tryd.ntmps42
  go_wp2_with (go_at_call 38; refine (add_any HBX.out hne (by simp; omega) [35, 40]).mono ?_)
  rintro e w1 ⟨rfl, v1, h1, h2⟩
  have r4 := h2.box HBOX.out.1 HBOX.out.2.1 HBOX.out.2.2 4 _ rfl
  have H1 : Hid (OwnW w1 W0.heap.size p bl bL G.length (.slice (some ⟨b, o, none⟩) G.length cap) (t.add [35, 40]) v1) := h1
  have H2 : Hid (KeptO w w1 p bl v v1) := (KeptO.of_below below_box).trans h2
  clear h1 h2
  rcases HXI.out with h | ⟨sb, so, hsa, hc⟩
  · have HE0 : Hid (x.subs.length = 0) := by show _ = _; rw [h]; rfl
    clear h HXI
    go_wp2_with fail
    go_loopw [11] (fun i wr => ∃ (k : Nat) (vk : Value), k ≤ x.subs.length ∧ i = .int .i64 k ∧ Hid (OwnW wr W0.heap.size p bl bL G.length (.slice (some ⟨b, o, none⟩) G.length cap) (vecTo (WF (kindN G) (subsN G) (atN G) L f false) (subsN G n) k (t.add [35, 40])) vk) ∧ Hid (KeptO w wr p bl v vk)) (fun i _ => x.subs.length - (intOf i).toNat)
    case atStart => exact ⟨0, v1, Nat.zero_le _, rfl, H1.out, H2.out⟩
    case round =>
      obtain ⟨k, vk, hk, rfl, hwk, hkk⟩ := hrel
      have HBK : Hid (Below W0.heap.size W0 wr) := HKB.out _ _ hkk.out
      have hszk : W0.heap.size ≤ wr.heap.size := HBK.out.size
      by_cases hlt : k < x.subs.length
      · exfalso; have := HE0.out; omega
      · have hkl : k = x.subs.length := by omega
        go_wp2_with (go_at_call 38; refine (add_any hwk.out hne hszk [41]).mono ?_)
        rintro e w5 ⟨rfl, v5, hw5, hk5⟩
        rw [hkl, ← HLL.out] at hw5
        have HW5 : Hid _ := hw5
        have HK5 : Hid _ := hkk.out.trans hk5
        clear hw5 hk5 hwk hkk
        go_wp2_with fail
        go_end0
        exact ⟨rfl, v5, HW5.out, HK5.out⟩
  · have HCE : Hid (∀ w' : World, Below W0.heap.size W0 w' → ∀ k, k < x.subs.length → w'.cell? ⟨sb, so + k, none⟩ = some (.int .i64 (x.subs.getD k 0))) := fun w' hb' k hk => cell_below hb' (hc k hk)
    clear hc HXI
    rw [hsa] at r4
    go_wp2_with fail
    go_loopw [11] (fun i wr => ∃ (k : Nat) (vk : Value), k ≤ x.subs.length ∧ i = .int .i64 k ∧ Hid (OwnW wr W0.heap.size p bl bL G.length (.slice (some ⟨b, o, none⟩) G.length cap) (vecTo (WF (kindN G) (subsN G) (atN G) L f false) (subsN G n) k (t.add [35, 40])) vk) ∧ Hid (KeptO w wr p bl v vk)) (fun i _ => x.subs.length - (intOf i).toNat)
    case atStart => exact ⟨0, v1, Nat.zero_le _, rfl, H1.out, H2.out⟩
    case round =>
      obtain ⟨k, vk, hk, rfl, hwk, hkk⟩ := hrel
      have HBK : Hid (Below W0.heap.size W0 wr) := HKB.out _ _ hkk.out
      have hszk : W0.heap.size ≤ wr.heap.size := HBK.out.size
      by_cases hlt : k < x.subs.length
      · have hcell := HCE.out _ HBK.out k hlt
        have hv := subsB_at _ _ HXS.out k hlt
        have HR : Hid _ := HRC.out k hlt
        have HGK : Hid _ := HSG.out k hlt
        have HOK : Hid _ := HOV.out k hk
        have HND : Hid _ := HNV.out k
        by_cases hk0 : k = 0
        · have HST : Hid (vecTo (WF (kindN G) (subsN G) (atN G) L f false) (subsN G n) (k + 1) (t.add [35, 40]) = WF (kindN G) (subsN G) (atN G) L f false (vecTo (WF (kindN G) (subsN G) (atN G) L f false) (subsN G n) k (t.add [35, 40])) (x.subs.getD k 0).toNat) := by
            show _ = _; rw [← HGK.out]; simp only [vecTo]; rw [if_pos hk0]
          generalize vecTo (WF (kindN G) (subsN G) (atN G) L f false) (subsN G n) k (t.add [35, 40]) = tk at *
          generalize x.subs.getD k 0 = sv at *
          have hkz : (k : Int) ≤ 0 := by omega
          have HK0 : Hid _ := hk0
          clear hk0
          go_wp2_with (go_at_call 23; refine (IA.out _ sv _ _ HOK.out hv.1 hv.2 HR.out HND.out HBK.out hwk.out).mono ?_)
          rintro e w4 ⟨rfl, v4, hw4, hk4⟩
          rw [← HST.out] at hw4
          have HW4 : Hid _ := hw4
          have HK4 : Hid _ := hkk.out.trans hk4
          clear hw4 hk4 hwk hkk hcell HBK
          go_wp2_with fail
          go_roundw
          case rel => exact ⟨k + 1, v4, by omega, by go_num, HW4, HK4⟩
          case measure => simp [intOf]; omega
        · have HST : Hid (vecTo (WF (kindN G) (subsN G) (atN G) L f false) (subsN G n) (k + 1) (t.add [35, 40]) = WF (kindN G) (subsN G) (atN G) L f false ((vecTo (WF (kindN G) (subsN G) (atN G) L f false) (subsN G n) k (t.add [35, 40])).add [32]) (x.subs.getD k 0).toNat) := by
            show _ = _; rw [← HGK.out]; simp only [vecTo]; rw [if_neg hk0]
          generalize vecTo (WF (kindN G) (subsN G) (atN G) L f false) (subsN G n) k (t.add [35, 40]) = tk at *
          generalize x.subs.getD k 0 = sv at *
          have hkz : (0 : Int) < (k : Int) := by omega
          have HOK2 : Hid _ := HOK.out.add [32]
          have HND2 : Hid _ := Nat.le_trans (need_add tk [32]) HND.out
          go_wp2_with (go_at_call 38; refine (add_any hwk.out hne hszk [32]).mono ?_)
          rintro e w3 ⟨rfl, v3, hw3, hk3⟩
          have HW3 : Hid _ := hw3
          have HK3 : Hid _ := hkk.out.trans hk3
          have HB3 : Hid (Below W0.heap.size W0 w3) := HKB.out _ _ HK3.out
          clear hw3 hk3 hwk hkk hcell HBK
          go_wp2_with (go_at_call 23; refine (IA.out _ sv _ _ HOK2.out hv.1 hv.2 HR.out HND2.out HB3.out HW3.out).mono ?_)
          rintro e w4 ⟨rfl, v4, hw4, hk4⟩
          rw [← HST.out] at hw4
          have HW4 : Hid _ := hw4
          have HK4 : Hid _ := HK3.out.trans hk4
          clear hw4 hk4
          go_wp2_with fail
          go_roundw
          case rel => exact ⟨k + 1, v4, by omega, by go_num, HW4, HK4⟩
          case measure => simp [intOf]; omega
      · have hkl : k = x.subs.length := by omega
        go_wp2_with (go_at_call 38; refine (add_any hwk.out hne hszk [41]).mono ?_)
        rintro e w5 ⟨rfl, v5, hw5, hk5⟩
        rw [hkl, ← HLL.out] at hw5
        have HW5 : Hid _ := hw5
        have HK5 : Hid _ := hkk.out.trans hk5
        clear hw5 hk5 hwk hkk
        go_wp2_with fail
        go_end0
        exact ⟨rfl, v5, HW5.out, HK5.out⟩
end Go.Proofs.YtlhimdjkkiflhaaDoor
