/- The program's writer: its memory, and add. -/
import Derived.Test.YtlhimdjkkiflhaaDoorAtom
import Derived.Test.YtlhimdjkkiflhaaDoorRefWrite
namespace Go.Proofs.YtlhimdjkkiflhaaDoor
open Go.RowKit Go.Loop

/-- the writer in memory: W0 is the world at the call of Write -/
structure OwnW (w : World) (B p bl bL n : Nat) (nv : Value) (t : TS) (v : Value) : Prop where
  hB : B ≤ p
  blk : ∃ q, (q = .pointer none ∨ q = .pointer (some ⟨p, 4, none⟩)) ∧
    w.heap[p]? = some (.cells #[nv, .slice (some ⟨bL, 0, none⟩) n n, .slice (some ⟨bl, 0, none⟩) n n, .int .i64 t.next, q, v, .bool t.long] 60 (0, 0))
  own : w.ownsRow B 5 1 v (Lib.byteCells t.out).length (Lib.byteCells t.out)
  rl : RowI w bl t.lab
  nb : v.ownBlock ≠ some bl
  ol : t.out.length ≤ 400
  bl : bl < w.heap.size

/-- what a step of the writer leaves -/
structure KeptO (w w' : World) (p bl : Nat) (v v' : Value) : Prop where
  os : w'.os = w.os
  tape : w'.tape = w.tape
  output : w'.output = w.output
  size : w.heap.size ≤ w'.heap.size
  block : ∀ k, k < w.heap.size → k ≠ p → k ≠ bl → some k ≠ v.ownBlock → w'.heap[k]? = w.heap[k]?
  buf : v'.ownBlock = v.ownBlock ∨ ∃ k, v'.ownBlock = some k ∧ w.heap.size ≤ k

theorem KeptO.refl (w : World) (p bl : Nat) (v : Value) : KeptO w w p bl v v := ⟨rfl, rfl, rfl, Nat.le_refl _, fun _ _ _ _ _ => rfl, Or.inl rfl⟩
theorem KeptO.trans {w w' w'' : World} {p bl : Nat} {v v' v'' : Value} (h : KeptO w w' p bl v v') (k : KeptO w' w'' p bl v' v'') : KeptO w w'' p bl v v'' := by
  refine ⟨k.os.trans h.os, k.tape.trans h.tape, k.output.trans h.output, Nat.le_trans h.size k.size, fun i hi hb hl hv => ?_, ?_⟩
  · have hne : some i ≠ v'.ownBlock := by
      rcases h.buf with e | ⟨g, e, hg⟩
      · rw [e]; exact hv
      · rw [e]; intro x; simp only [Option.some.injEq] at x; omega
    exact (k.block i (Nat.lt_of_lt_of_le hi h.size) hb hl hne).trans (h.block i hi hb hl hv)
  · rcases k.buf with e | ⟨g, e, hg⟩
    · rw [e]; exact h.buf
    · exact Or.inr ⟨g, e, Nat.le_trans h.size hg⟩
theorem KeptO.of_below {w w' : World} {p bl : Nat} {v : Value} (h : Below w.heap.size w w') : KeptO w w' p bl v v := ⟨h.os, h.tape, h.output, h.size, fun k hk _ _ _ => h.block k hk, Or.inl rfl⟩
theorem KeptO.of_to {w w' : World} {p bl : Nat} {v v' : Value} (h : BldTo w w' p v v') : KeptO w w' p bl v v' := ⟨h.os, h.tape, h.output, h.size, fun k hk hp _ hv => h.block k hk hp hv, h.buf⟩
theorem KeptO.set {w : World} {p bl : Nat} {v : Value} {x : Addr} (hx : x.block = p ∨ x.block = bl) (u : Value) : KeptO w (w.setCell x u) p bl v v :=
  ⟨rfl, rfl, rfl, by simp [World.setCell], fun k _ h1 h2 _ => Below.heap_setCell _ _ _ _ (by rcases hx with h | h <;> omega), Or.inl rfl⟩
theorem KeptO.below {w w' : World} {B p bl : Nat} {v v' : Value} (h : KeptO w w' p bl v v') (hB : B ≤ w.heap.size) (hp : B ≤ p) (hl : B ≤ bl) (hv : ∀ k, v.ownBlock = some k → B ≤ k) : Below B w w' :=
  ⟨h.os, h.tape, h.output, h.size, fun k hk => h.block k (by omega) (by omega) (by omega) (fun e => by have := hv k e.symm; omega)⟩

theorem RowI.of_block {w w' : World} {b : Nat} {l : List Int} (h : RowI w b l) (e : w'.heap[b]? = w.heap[b]?) : RowI w' b l := fun i hi => by
  rw [World.cell?_of_block (w := w) (w' := w') (a := ⟨b, i, none⟩) e, World.frozen?_of_block (w := w) (w' := w') (a := ⟨b, i, none⟩) e]; exact h i hi

theorem OwnW.ownB {w : World} {B p bl bL n : Nat} {nv : Value} {t : TS} {v : Value} (h : OwnW w B p bl bL n nv t v) : ∀ k, v.ownBlock = some k → B ≤ k := fun k hk => (h.own.lt k hk).1
theorem wT : 60 ≠ 5 := by decide

/-- the writer's builder -/
theorem OwnW.bld {w : World} {B p bl bL n : Nat} {nv : Value} {t : TS} {v : Value} (h : OwnW w B p bl bL n nv t v) : ∃ q, (q = .pointer none ∨ q = .pointer (some ⟨p, 4, none⟩)) ∧
    BldAt w 60 4 B p #[nv, .slice (some ⟨bL, 0, none⟩) n n, .slice (some ⟨bl, 0, none⟩) n n, .int .i64 t.next, q, v, .bool t.long] v (Lib.byteCells t.out) := by
  obtain ⟨q, hq, hb⟩ := h.blk
  exact ⟨q, hq, h.hB, hb, by rcases hq with rfl | rfl <;> simp, rfl, h.own⟩

/-- too long: the mark is set -/
theorem OwnW.mark {w : World} {B p bl bL n : Nat} {nv : Value} {t : TS} {v : Value} (h : OwnW w B p bl bL n nv t v) (hne : p ≠ bl) :
    OwnW (w.setCell ⟨p, 6, none⟩ (.bool true)) B p bl bL n nv { t with long := true } v := by
  obtain ⟨q, hq, hb⟩ := h.blk
  have hn := Lib.ownBlock_ne h.own hb wT
  refine ⟨h.hB, ⟨q, hq, ?_⟩, ?_, ?_, h.nb, h.ol, ?_⟩
  · have := heap_setCell_same w p 6 _ _ (.bool true) hb
    exact this
  · exact h.own.kept (row := some p) ⟨rfl, rfl, rfl, by simp [World.setCell], fun k _ hk => Below.heap_setCell _ _ _ _ (fun e => hk (by simp [e]))⟩ (Or.inr hn)
  · exact h.rl.of_block (Below.heap_setCell _ _ _ _ (fun e => hne e.symm))
  · have := h.bl; simpa [World.setCell] using this

/-- a piece was written -/
theorem OwnW.wrote {w w' : World} {B p bl bL n : Nat} {nv : Value} {t : TS} {v v' : Value} {s : List UInt8} {q : Value} (h : OwnW w B p bl bL n nv t v) (hne : p ≠ bl) (hl : t.long = false) (hs : t.out.length + s.length ≤ 400)
    (h1 : BldAt w' 60 4 B p ((usedC 4 p #[nv, .slice (some ⟨bL, 0, none⟩) n n, .slice (some ⟨bl, 0, none⟩) n n, .int .i64 t.next, q, v, .bool t.long]).setIfInBounds (4 + 1) v') v' (Lib.byteCells t.out ++ Lib.strCells ⟨⟨s⟩⟩))
    (h2 : BldTo w w' p v v') : OwnW w' B p bl bL n nv (t.add s) v' ∧ KeptO w w' p bl v v' := by
  rw [add_fits hl hs]
  have e1 : Lib.byteCells (t.out ++ s) = Lib.byteCells t.out ++ Lib.strCells ⟨⟨s⟩⟩ := by rw [Lib.byteCells_append]; rfl
  refine ⟨⟨h.hB, ⟨_, Or.inr rfl, h1.blk⟩, ?_, ?_, ?_, ?_, Nat.lt_of_lt_of_le h.bl h2.size⟩, KeptO.of_to h2⟩
  · show World.ownsRow _ _ _ _ _ (Lib.byteCells (t.out ++ s)).length (Lib.byteCells (t.out ++ s))
    rw [e1]; exact h1.own
  · exact h.rl.of_block (h2.block bl h.bl (fun e => hne e.symm) (fun e => h.nb e.symm))
  · rcases h2.buf with e | ⟨k, e, hk⟩
    · rw [e]; exact h.nb
    · rw [e]; intro x; simp only [Option.some.injEq] at x; have := h.bl; omega
  · show (t.out ++ s).length ≤ 400
    rw [List.length_append]; exact hs

set_option maxHeartbeats 1000000 in
set_option maxRecDepth 100000 in
theorem add_any {w : World} {B p bl bL n : Nat} {nv : Value} {t : TS} {v : Value} (h : OwnW w B p bl bL n nv t v) (hne : p ≠ bl) (hBw : B ≤ w.heap.size) (s : List UInt8) :
    Calls Tryd.prog 38 #[.pointer (some ⟨p, 0, none⟩), .string ⟨⟨s⟩⟩] w fun e w' => e = .returned (.tuple #[]) ∧ ∃ v', OwnW w' B p bl bL n nv (t.add s) v' ∧ KeptO w w' p bl v v' := by
  obtain ⟨q, hq, hbld⟩ := h.bld
  have HBL : Hid _ := hbld
  have HW : Hid (OwnW w B p bl bL n nv t v) := h
  have hol := h.ol
  have e0 : (Lib.byteCells t.out).length = t.out.length := Lib.byteCells_length _
  have c6 : w.cell? ⟨p, 6, none⟩ = some (.bool t.long) := hbld.cell 6
  have f6 : w.frozen? ⟨p, 6, none⟩ = false := hbld.frozen 6
  clear hbld h hq
  by_cases hov : 400 < t.out.length + s.length
  · have HM : Hid _ := HW.out.mark hne
    have HA : Hid (t.add s = { t with long := true }) := by
      show _ = _
      cases hl : t.long
      · rw [add_over hl hov]
      · rw [add_long hl, ← hl]
    go_enter Tryd.func38, Tryd.ntmps38
    go_wp2_with (go_at_call 54; refine (bldLen_any HBL.out).mono ?_)
    rintro e w1 ⟨rfl, rfl⟩
    rw [e0]
    go_wp2_with fail
    go_end0
    exact ⟨rfl, v, by rw [HA.out]; exact HM.out, KeptO.set (Or.inl rfl) _⟩
  · cases hl : t.long
    · rw [hl] at c6
      go_enter Tryd.func38, Tryd.ntmps38
      go_wp2_with (go_at_call 54; refine (bldLen_any HBL.out).mono ?_)
      rintro e w1 ⟨rfl, rfl⟩
      rw [e0]
      go_wp2_with (go_at_call 55; refine (writeString_any lies_writer wT HBL.out ⟨⟨s⟩⟩ (by show _ + s.length ≤ _; omega) hBw).mono ?_)
      rintro e w2 ⟨rfl, v', h1, h2⟩
      have HR : Hid _ := HW.out.wrote hne hl (by omega) h1 h2
      clear h1 h2
      go_wp2_with fail
      go_end0
      exact ⟨rfl, v', HR.out⟩
    · rw [hl] at c6
      have HA : Hid (t.add s = t) := add_long hl s
      go_enter Tryd.func38, Tryd.ntmps38
      go_wp2_with (go_at_call 54; refine (bldLen_any HBL.out).mono ?_)
      rintro e w1 ⟨rfl, rfl⟩
      rw [e0]
      go_wp2_with fail
      go_end0
      exact ⟨rfl, v, by rw [HA.out]; exact HW.out, KeptO.refl _ _ _ _⟩
end Go.Proofs.YtlhimdjkkiflhaaDoor
