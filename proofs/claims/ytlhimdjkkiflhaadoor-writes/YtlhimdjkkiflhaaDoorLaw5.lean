/- The law Writes, for every argument. -/
import Derived.Test.YtlhimdjkkiflhaaDoorLaw4
import Derived.Test.YtlhimdjkkiflhaaDoorLawNil
namespace Go.Proofs.YtlhimdjkkiflhaaDoor
open Go.RowKit Go.Loop

/-- the first graph of the law: a pair that is its own first, with a symbol as its rest -/
def lawG (q : Nat) : List Nd := [⟨1, [], 0, 0, [0, 1], some ⟨q, 0, none⟩, 2⟩, ⟨4, [97], 0, 0, [], none, 0⟩]
/-- the second: a pair that is its own first and rest -/
def lawH (q : Nat) : List Nd := [⟨1, [], 0, 0, [0, 0], some ⟨q, 0, none⟩, 2⟩]

theorem lawH_bare (q : Nat) : (lawH q).map bareN = [⟨1, [], 0, 0, [0, 0], none, 0⟩] := rfl
set_option maxRecDepth 100000 in
theorem lawH_said (q : Nat) : writeP (lawH q) 1 403 = ([35, 48, 61, 40, 35, 48, 35, 32, 46, 32, 35, 48, 35, 41], 0) := by
  rw [writeP_same (lawH q) [⟨1, [], 0, 0, [0, 0], none, 0⟩] rfl]
  decide +kernel

theorem lawG_at {w : World} {q p : Nat} {t1 t2 : TypeId} (h1 : w.heap[q]? = some (.cells #[.int .i64 0, .int .i64 1] t1 (0, 0)))
    (h2 : w.heap[p]? = some (.cells #[.int .i64 1, .string ⟨#[]⟩, .int .i64 0, .int .i64 0, .slice (some ⟨q, 0, none⟩) 2 2, .int .i64 4, .string ⟨#[97]⟩, .int .i64 0, .int .i64 0, .slice none 0 0] t2 (0, 0))) : GraphAt w p 0 (lawG q) := by
  have c1 : ∀ j, w.cell? ⟨q, j, none⟩ = (#[.int .i64 0, .int .i64 1] : Array Value)[j]? := fun j => by unfold World.cell?; simp only [h1]; rw [if_neg (by simp)]
  have c2 : ∀ j, w.cell? ⟨p, j, none⟩ = (#[.int .i64 1, .string ⟨#[]⟩, .int .i64 0, .int .i64 0, .slice (some ⟨q, 0, none⟩) 2 2, .int .i64 4, .string ⟨#[97]⟩, .int .i64 0, .int .i64 0, .slice none 0 0] : Array Value)[j]? := fun j => by unfold World.cell?; simp only [h2]; rw [if_neg (by simp)]
  intro i hi
  have : i = 0 ∨ i = 1 := by simp [lawG] at hi; omega
  rcases this with rfl | rfl
  · refine ⟨c2 0, c2 1, c2 2, c2 3, c2 4, Or.inr ⟨q, 0, rfl, fun j hj => ?_⟩, by show 0 ≤ _; simp, by show 2 ≤ _; simp [maxLen]⟩
    have : j = 0 ∨ j = 1 := by simp [lawG] at hj; omega
    rcases this with rfl | rfl
    · exact c1 0
    · exact c1 1
  · exact ⟨c2 5, c2 6, c2 7, c2 8, c2 9, Or.inl rfl, by show 1 ≤ _; simp [maxLen], by show 0 ≤ _; simp⟩
theorem lawH_at {w : World} {q p : Nat} {t1 t2 : TypeId} (h1 : w.heap[q]? = some (.cells #[.int .i64 0, .int .i64 0] t1 (0, 0)))
    (h2 : w.heap[p]? = some (.cells #[.int .i64 1, .string ⟨#[]⟩, .int .i64 0, .int .i64 0, .slice (some ⟨q, 0, none⟩) 2 2] t2 (0, 0))) : GraphAt w p 0 (lawH q) := by
  have c1 : ∀ j, w.cell? ⟨q, j, none⟩ = (#[.int .i64 0, .int .i64 0] : Array Value)[j]? := fun j => by unfold World.cell?; simp only [h1]; rw [if_neg (by simp)]
  have c2 : ∀ j, w.cell? ⟨p, j, none⟩ = (#[.int .i64 1, .string ⟨#[]⟩, .int .i64 0, .int .i64 0, .slice (some ⟨q, 0, none⟩) 2 2] : Array Value)[j]? := fun j => by unfold World.cell?; simp only [h2]; rw [if_neg (by simp)]
  intro i hi
  obtain rfl : i = 0 := by simp [lawH] at hi; omega
  refine ⟨c2 0, c2 1, c2 2, c2 3, c2 4, Or.inr ⟨q, 0, rfl, fun j hj => ?_⟩, by show 0 ≤ _; simp, by show 2 ≤ _; simp [maxLen]⟩
  have : j = 0 ∨ j = 1 := by simp [lawH] at hj; omega
  rcases this with rfl | rfl
  · exact c1 0
  · exact c1 1

/-- the law's own call, of whatever nodes it was given -/
def LawSaid (v : Value) (mode : Int) (w : World) : Prop :=
  ∀ w1, Below w.heap.size w w1 → Calls Tryd.prog 4 #[v, .int .i64 mode] w1 fun e w' => e = .returned (.bool true) ∧ Below w1.heap.size w1 w'

set_option maxHeartbeats 2000000 in
set_option maxRecDepth 100000 in
theorem writes_any (v : Value) (hv : ∃ a n c, v = .slice a n c) (mode : Int) (w : World) (hp : Pow w) (hs : LawSaid v mode w) :
    Calls Tryd.prog 3 #[v, .int .i64 mode] w fun e w' => e = .returned (.bool true) ∧ Below w.heap.size w w' := by
  obtain ⟨a, n, c, rfl⟩ := hv
  have HP : Hid _ := hp
  have HS : Hid _ := hs
  clear hp hs
  go_enter Tryd.func3, Tryd.ntmps3
  go_wp2_with fail
  have HB0 : Hid (Below w.heap.size w ((w.alloc (.cells #[.int .i64 0, .int .i64 1] 3)).alloc (.cells #[.int .i64 1, .string ⟨#[]⟩, .int .i64 0, .int .i64 0, .slice (some ⟨w.heap.size, 0, none⟩) 2 2, .int .i64 4, .string ⟨#[97]⟩, .int .i64 0, .int .i64 0, .slice none 0 0] 26))) := below_box.trans (below_box.mono (by simp))
  have HG0 : Hid (GraphAt ((w.alloc (.cells #[.int .i64 0, .int .i64 1] 3)).alloc (.cells #[.int .i64 1, .string ⟨#[]⟩, .int .i64 0, .int .i64 0, .slice (some ⟨w.heap.size, 0, none⟩) 2 2, .int .i64 4, .string ⟨#[97]⟩, .int .i64 0, .int .i64 0, .slice none 0 0] 26)) (w.heap.size + 1) 0 (lawG w.heap.size)) := by
    refine lawG_at (t1 := 3) (t2 := 26) ((Lib.alloc_old _ _ _ (by simp)).trans (heap_alloc_new w _)) ?_
    have := heap_alloc_new (w.alloc (.cells #[.int .i64 0, .int .i64 1] 3)) (.cells #[.int .i64 1, .string ⟨#[]⟩, .int .i64 0, .int .i64 0, .slice (some ⟨w.heap.size, 0, none⟩) 2 2, .int .i64 4, .string ⟨#[97]⟩, .int .i64 0, .int .i64 0, .slice none 0 0] 26)
    rw [World.size_alloc] at this
    exact this
  refine Calls.mono (write_any (lawG w.heap.size) (w.heap.size + 1) 0 2 2 _ HG0.out (Pow.on HP.out HB0.out) (by show 2 ≤ _; omega) ?_ ?_) ?_
  · intro i hi
    have : i = 0 ∨ i = 1 := by simp [lawG] at hi; omega
    rcases this with rfl | rfl
    · show 2 ≤ _; omega
    · show 0 ≤ _; omega
  · intro i hi
    have : i = 0 ∨ i = 1 := by simp [lawG] at hi; omega
    rcases this with rfl | rfl
    · show 0 ≤ _; omega
    · show 1 ≤ _; omega
  rintro e w1 ⟨rfl, hb1⟩
  have HB1 : Hid (Below w.heap.size w w1) := HB0.out.trans (hb1.mono HB0.out.size)
  clear hb1 HB0 HG0
  go_wp2_with fail
  have HB2 : Hid (Below w.heap.size w ((w1.alloc (.cells #[.int .i64 0, .int .i64 0] 3)).alloc (.cells #[.int .i64 1, .string ⟨#[]⟩, .int .i64 0, .int .i64 0, .slice (some ⟨w1.heap.size, 0, none⟩) 2 2] 26))) := HB1.out.trans ((below_box.trans (below_box.mono (by simp))).mono HB1.out.size)
  have HG2 : Hid (GraphAt ((w1.alloc (.cells #[.int .i64 0, .int .i64 0] 3)).alloc (.cells #[.int .i64 1, .string ⟨#[]⟩, .int .i64 0, .int .i64 0, .slice (some ⟨w1.heap.size, 0, none⟩) 2 2] 26)) (w1.heap.size + 1) 0 (lawH w1.heap.size)) := by
    refine lawH_at (t1 := 3) (t2 := 26) ((Lib.alloc_old _ _ _ (by simp)).trans (heap_alloc_new w1 _)) ?_
    have := heap_alloc_new (w1.alloc (.cells #[.int .i64 0, .int .i64 0] 3)) (.cells #[.int .i64 1, .string ⟨#[]⟩, .int .i64 0, .int .i64 0, .slice (some ⟨w1.heap.size, 0, none⟩) 2 2] 26)
    rw [World.size_alloc] at this
    exact this
  have HOW : Hid _ := ownWrite_any (lawH w1.heap.size) (w1.heap.size + 1) 0 1 1 403 (Nat.le_refl _) _ (by show 1 ≤ _; simp [maxLen]) HG2.out (Pow.on HP.out HB2.out)
  rw [lawH_said] at HOW
  clear HG2
  refine Calls.mono HOW.out ?_
  rintro e w3 ⟨rfl, hb3⟩
  have HB3 : Hid (Below w.heap.size w w3) := HB2.out.trans (hb3.mono HB2.out.size)
  clear hb3 HB2 HOW
  go_wp2_with fail
  refine Calls.mono (HS.out w3 HB3.out) ?_
  rintro e w4 ⟨rfl, hb4⟩
  have HB4 : Hid (Below w.heap.size w w4) := HB3.out.trans (hb4.mono HB3.out.size)
  clear hb4
  go_wp2_with fail
  go_ret
  exact ⟨rfl, HB4.out⟩
end Go.Proofs.YtlhimdjkkiflhaaDoor
