/- The document's writer, in memory; what it says. -/
import Derived.Test.YtlhimdjkkiflhaaDoorRefAtom
import Derived.Test.YtlhimdjkkiflhaaDoorRows1
import Derived.Test.YtlhimdjkkiflhaaDoorWr
namespace Go.Proofs.YtlhimdjkkiflhaaDoor
open Go.RowKit Go.Loop

/-- all old blocks but two are as they were -/
structure Kept (p q : Nat) (w w' : World) : Prop where
  os : w'.os = w.os
  tape : w'.tape = w.tape
  output : w'.output = w.output
  size : w.heap.size ≤ w'.heap.size
  block : ∀ k, k < w.heap.size → k ≠ p → k ≠ q → w'.heap[k]? = w.heap[k]?

theorem Kept.refl (p q : Nat) (w : World) : Kept p q w w := ⟨rfl, rfl, rfl, Nat.le_refl _, fun _ _ _ _ => rfl⟩
theorem Kept.trans {p q : Nat} {a b c : World} (h : Kept p q a b) (k : Kept p q b c) : Kept p q a c :=
  ⟨k.os.trans h.os, k.tape.trans h.tape, k.output.trans h.output, Nat.le_trans h.size k.size, fun i hi hp hq => (k.block i (Nat.lt_of_lt_of_le hi h.size) hp hq).trans (h.block i hi hp hq)⟩
theorem Kept.setCell {p q : Nat} {a w : World} (h : Kept p q a w) {x : Addr} (hx : x.block = p ∨ x.block = q) (v : Value) : Kept p q a (w.setCell x v) :=
  h.trans ⟨rfl, rfl, rfl, by simp [World.setCell], fun k hk hp hq => Below.heap_setCell _ _ _ _ (by rcases hx with h | h <;> omega)⟩
theorem Kept.drew {p q : Nat} {a w : World} (h : Kept p q a w) : Kept p q a w.drew := ⟨h.os, h.tape, h.output, h.size, h.block⟩
theorem Kept.below {p q B : Nat} {a w : World} (h : Kept p q a w) (hB : B ≤ a.heap.size) (hp : B ≤ p) (hq : B ≤ q) : Below B a w :=
  ⟨h.os, h.tape, h.output, h.size, fun k hk => h.block k (by omega) (by omega) (by omega)⟩
theorem Kept.of_below {p q : Nat} {a w : World} (h : Below a.heap.size a w) : Kept p q a w := ⟨h.os, h.tape, h.output, h.size, fun k hk _ _ => h.block k hk⟩
theorem Kept.alloc {p q : Nat} {a w : World} (h : Kept p q a w) (o : Obj) : Kept p q a (w.alloc o) := h.trans (Kept.of_below ((Below.refl _ _).alloc (Nat.le_refl _) o))
theorem Kept.cell {p q : Nat} {a w : World} (h : Kept p q a w) {x : Addr} {v : Value} (hx : a.cell? x = some v) (hp : x.block ≠ p) (hq : x.block ≠ q) : w.cell? x = some v := by
  rw [World.cell?_of_block (w := a) (h.block x.block (cell_lt hx) hp hq)]; exact hx

/-- the label of a node, as the document's writer keeps it -/
def labR (L : Nat → Bool) (t : TS) (i : Nat) : Int := if 0 ≤ t.lab.getD i (-1) then t.lab.getD i (-1) + 1 else if L i then -1 else 0

/-- the document's writer in memory -/
structure RefW (w : World) (p bl n : Nat) (nv : Value) (L : Nat → Bool) (t : TS) : Prop where
  c0 : w.cell? ⟨p, 0, none⟩ = some nv
  c4 : w.cell? ⟨p, 4, none⟩ = some (.slice (some ⟨bl, 0, none⟩) n n)
  c5 : w.cell? ⟨p, 5, none⟩ = some (.int .i64 t.next)
  c6 : ∃ o : List UInt8, w.cell? ⟨p, 6, none⟩ = some (.string ⟨⟨o⟩⟩) ∧ (t.long = true → 400 < o.length) ∧ (t.long = false → o = t.out)
  f5 : w.frozen? ⟨p, 5, none⟩ = false
  f6 : w.frozen? ⟨p, 6, none⟩ = false
  rl : ∃ lr : List Int, lr.length = n ∧ RowI w bl lr ∧ ∀ i, i < n → lr.getD i 0 = labR L t i

set_option maxHeartbeats 400000 in
theorem refFull_any (p bl n : Nat) (nv : Value) (L : Nat → Bool) (t : TS) (w : World) (ht : t.Ok n L) (hw : RefW w p bl n nv L t) :
    Calls Tryd.prog 18 #[.pointer (some ⟨p, 0, none⟩)] w fun e w' => e = .returned (.bool t.long) ∧ w' = w := by
  obtain ⟨o, hc, h1, h2⟩ := hw.c6
  cases hl : t.long
  · have hle : (o.length : Int) ≤ 400 := by rw [h2 hl]; have := ht.lo hl; omega
    clear h1 h2 hw ht
    go_enter Tryd.func18, Tryd.ntmps18
    go_wp2_with fail
    go_ret
    exact ⟨ret_bool (by simp <;> omega), rfl⟩
  · have hle : (400 : Int) < o.length := by have := h1 hl; omega
    clear h1 h2 hw ht
    go_enter Tryd.func18, Tryd.ntmps18
    go_wp2_with fail
    go_ret
    exact ⟨ret_bool (by simp <;> omega), rfl⟩

theorem RefW.out {w : World} {p bl n : Nat} {nv : Value} {L : Nat → Bool} {t t' : TS} (h : RefW w p bl n nv L t) (hp : p ≠ bl) (o : List UInt8) (hn : t'.next = t.next) (hlab : t'.lab = t.lab)
    (h1 : t'.long = true → 400 < o.length) (h2 : t'.long = false → o = t'.out) : RefW (w.setCell ⟨p, 6, none⟩ (.string ⟨⟨o⟩⟩)) p bl n nv L t' := by
  obtain ⟨o0, c6, _, _⟩ := h.c6
  obtain ⟨lr, hl, hr, he⟩ := h.rl
  refine ⟨?_, ?_, ?_, ⟨o, World.cell?_setCell_same _ _ _ c6, h1, h2⟩, by rw [World.frozen?_setCell]; exact h.f5, by rw [World.frozen?_setCell]; exact h.f6, ⟨lr, hl, hr.far hp _, fun i hi => ?_⟩⟩
  · rw [World.cell?_setCell_other (h := by intro e; cases e)]; exact h.c0
  · rw [World.cell?_setCell_other (h := by intro e; cases e)]; exact h.c4
  · rw [World.cell?_setCell_other (h := by intro e; cases e), hn]; exact h.c5
  · rw [he i hi]; unfold labR; rw [hlab]

/-- a label is put: 'Next++; Label[n] = Next', behind what is said of it -/
theorem RefW.put {w : World} {p bl n : Nat} {nv : Value} {L : Nat → Bool} {t : TS} (h : RefW w p bl n nv L (t.add (35 :: (Lib.itoa t.next ++ [61])))) (hp : p ≠ bl) (ht : t.lab.length = n) {a : Nat} (ha : a < n) :
    RefW ((w.setCell ⟨p, 5, none⟩ (.int .i64 (t.next + 1))).setCell ⟨bl, a, none⟩ (.int .i64 (t.next + 1))) p bl n nv L (t.put a) := by
  obtain ⟨o0, c6, o1, o2⟩ := h.c6
  obtain ⟨lr, hl, hr, he⟩ := h.rl
  have e : (⟨bl, a, none⟩ : Addr).block ≠ p := fun x => hp x.symm
  have c5 := h.c5
  rw [add_next] at c5
  refine ⟨?_, ?_, ?_, ⟨o0, ?_, o1, o2⟩, by rw [World.frozen?_setCell, World.frozen?_setCell]; exact h.f5, by rw [World.frozen?_setCell, World.frozen?_setCell]; exact h.f6, ⟨lr.set a (t.next + 1), by simp [hl], (hr.far hp _).set a (by omega) _, fun i hi => ?_⟩⟩
  · rw [cell_far e, World.cell?_setCell_other (h := by intro e; cases e)]; exact h.c0
  · rw [cell_far e, World.cell?_setCell_other (h := by intro e; cases e)]; exact h.c4
  · rw [cell_far e, World.cell?_setCell_same _ _ _ c5]; rfl
  · rw [cell_far e, World.cell?_setCell_other (h := by intro e; cases e)]; exact c6
  · rw [getD_set _ _ _ _ _ (by omega)]
    have e1 : (t.put a).lab = t.lab.set a t.next := rfl
    unfold labR
    rw [e1, getD_set _ _ _ _ _ (by omega)]
    split
    · rw [if_pos (by omega)]
    · have := he i hi
      unfold labR at this
      rw [add_lab] at this
      exact this

set_option maxHeartbeats 400000 in
theorem refSay_any (p bl n : Nat) (nv : Value) (L : Nat → Bool) (t : TS) (w : World) (s : List UInt8) (hs : s.length ≤ 140737488355328) (hp : p ≠ bl) (ht : t.Ok n L) (hw : RefW w p bl n nv L t) :
    Calls Tryd.prog 29 #[.pointer (some ⟨p, 0, none⟩), .string ⟨⟨s⟩⟩] w fun e w' => e = .returned (.tuple #[]) ∧ RefW w' p bl n nv L (t.add s) ∧ Kept p bl w w' := by
  cases hl : t.long
  · obtain ⟨o, hc, h1, h2⟩ := hw.c6
    have ho := h2 hl
    subst ho
    have hol := ht.lo hl
    have hf := hw.f6
    have HN : Hid (RefW (w.setCell ⟨p, 6, none⟩ (.string ⟨⟨t.out ++ s⟩⟩)) p bl n nv L (t.add s)) := by
      refine hw.out hp _ (add_next _ _) (add_lab _ _) ?_ ?_
      · intro h
        by_cases hov : 400 < t.out.length + s.length
        · simpa using hov
        · rw [add_fits hl (by omega), hl] at h; exact absurd h (by simp)
      · intro h
        by_cases hov : 400 < t.out.length + s.length
        · rw [add_over hl hov] at h; exact absurd h (by simp)
        · rw [add_fits hl (by omega)]
    have HF : Hid _ := refFull_any p bl n nv L t w ht hw
    have ks := str_app
    clear h1 h2
    have HW : Hid _ := hw
    have HT : Hid _ := ht
    clear hw ht HF
    go_enter Tryd.func29, Tryd.ntmps29
    go_wp2_with fail
    refine (refFull_any p bl n nv L t _ HT.out HW.out).mono ?_
    rw [hl]; rintro e w' ⟨rfl, rfl⟩
    go_wp2_with fail
    go_end0
    exact ⟨rfl, HN.out, (Kept.refl p bl _).setCell (x := ⟨p, 6, none⟩) (Or.inl rfl) _⟩
  · have HN : Hid (t.add s = t) := add_long hl s
    have HW : Hid _ := hw
    have HT : Hid _ := ht
    clear hw ht
    go_enter Tryd.func29, Tryd.ntmps29
    go_wp2_with fail
    refine (refFull_any p bl n nv L t _ HT.out HW.out).mono ?_
    rw [hl]; rintro e w' ⟨rfl, rfl⟩
    go_wp2_with fail
    go_end0
    exact ⟨rfl, by rw [HN.out]; exact HW.out, Kept.refl _ _ _⟩
end Go.Proofs.YtlhimdjkkiflhaaDoor
