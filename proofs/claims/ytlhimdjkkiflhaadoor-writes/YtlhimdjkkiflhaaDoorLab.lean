/- The program's labels: which nodes have one; is there a loop? -/
import Derived.Test.YtlhimdjkkiflhaaDoorOwn6
import Derived.Test.YtlhimdjkkiflhaaDoorRank
namespace Go.Proofs.YtlhimdjkkiflhaaDoor
open Go.RowKit Go.Loop

set_option maxHeartbeats 400000 in
theorem shared_any (k : Int) (w : World) :
    Calls Tryd.prog 25 #[.int .i64 k] w fun e w' => e = .returned (.bool (decide (1 ≤ k ∧ k ≤ 3))) ∧ w' = w := by
  go_enter Tryd.func25, Tryd.ntmps25
  go_wp2
  all_goals
    go_ret
    refine ⟨ret_bool ?_, rfl⟩
    rw [Bool.eq_iff_iff]; simp; omega

/-- the labels of the first k nodes -/
def hasTo (G : List Nd) (mode : Int) : Nat → List Bool
  | 0 => List.replicate G.length false
  | k + 1 => (hasTo G mode k).set k (labB G mode k)
theorem hasTo_len (G : List Nd) (mode : Int) : ∀ k, (hasTo G mode k).length = G.length
  | 0 => by simp [hasTo]
  | k + 1 => by simp [hasTo, hasTo_len G mode k]
theorem hasTo_get (G : List Nd) (mode : Int) : ∀ k, k ≤ G.length → ∀ i, (hasTo G mode k).getD i false = if i < k then labB G mode i else false
  | 0, _, i => by simp only [hasTo]; rw [getD_rep, if_neg (by omega)]
  | k + 1, hk, i => by
    simp only [hasTo]
    rw [getD_set _ _ _ _ _ (by rw [hasTo_len]; omega), hasTo_get G mode k (by omega) i]
    by_cases e : i = k
    · subst e; rw [if_pos rfl, if_pos (by omega)]
    · rw [if_neg e]
      by_cases h : i < k
      · rw [if_pos h, if_pos (by omega)]
      · rw [if_neg h, if_neg (by omega)]
theorem hasTo_same (G : List Nd) (mode : Int) (k : Nat) (hk : k < G.length) (h : labB G mode k = false) : hasTo G mode (k + 1) = hasTo G mode k := by
  show (hasTo G mode k).set k (labB G mode k) = _
  rw [h]
  have := set_self (hasTo G mode k) k
  rw [hasTo_get G mode k (by omega) k, if_neg (by omega)] at this
  exact this

set_option maxHeartbeats 1000000 in
theorem index_any (l : List Bool) (bw n : Nat) (hl : l.length = n) (hn : n ≤ 150) (w : World) (hr : RowB w bw l) :
    Calls Tryd.prog 37 #[.slice (some ⟨bw, 0, none⟩) n n, .bool true] w fun e w' => (∃ z : Int, e = .returned (.int .i64 z) ∧ (0 ≤ z ↔ l.any id = true)) ∧ w' = w := by
  have HR : Hid _ := hr
  clear hr
  go_enter Tryd.func37, Tryd.ntmps37
  go_wp2_with fail
  go_loopw [8] (fun i wr => ∃ k : Nat, k ≤ n ∧ i = .int .i64 k ∧ wr = w ∧ Hid (∀ j, j < k → l.getD j false = false)) (fun i _ => n - (intOf i).toNat)
  case atStart => exact ⟨0, Nat.zero_le _, rfl, rfl, fun j hj => by omega⟩
  case round =>
    obtain ⟨k, hk, rfl, rfl, hz⟩ := hrel
    by_cases hlt : k < n
    · obtain ⟨c, _⟩ := HR.out k (by omega)
      cases hv : l.getD k false
      · rw [hv] at c
        have HV : Hid _ := hv
        clear hv
        go_wp2_with fail
        go_roundw
        case rel => exact ⟨k + 1, by omega, by go_num, trivial, fun j hj => by
          rcases Nat.lt_or_ge j k with h | h
          · exact hz.out j h
          · obtain rfl : j = k := by omega
            exact HV.out⟩
        case measure => simp [intOf]; omega
      · rw [hv] at c
        have HV : Hid (l.any id = true) := by
          rw [List.any_eq_true]
          have hkl : k < l.length := by omega
          refine ⟨l[k], List.getElem_mem hkl, ?_⟩
          simp only [List.getD, List.getElem?_eq_getElem hkl, Option.getD_some] at hv
          exact hv
        clear hv
        go_wp2_with fail
        go_ret
        exact ⟨⟨_, rfl, ⟨fun _ => HV.out, fun _ => by omega⟩⟩, rfl⟩
    · have HV : Hid (l.any id = false) := by
        rw [List.any_eq_false]
        intro x hx
        obtain ⟨j, hj, rfl⟩ := List.mem_iff_getElem.1 hx
        have := hz.out j (by omega)
        simp only [List.getD, List.getElem?_eq_getElem hj, Option.getD_some] at this
        simp [this]
      go_wp2_with fail
      go_ret
      exact ⟨⟨_, rfl, ⟨fun h => by omega, fun h => by rw [HV.out] at h; exact absurd h (by simp)⟩⟩, rfl⟩

set_option maxHeartbeats 1000000 in
theorem loops_any (l : List Bool) (bw n : Nat) (hl : l.length = n) (hn : n ≤ 150) (vm : Value) (hvm : ∃ a c d, vm = .slice a c d) (w : World) (hr : RowB w bw l) :
    Calls Tryd.prog 11 #[.agg #[vm, .slice (some ⟨bw, 0, none⟩) n n]] w fun e w' => e = .returned (.bool (l.any id)) ∧ Below w.heap.size w w' := by
  obtain ⟨a, c, d, rfl⟩ := hvm
  have HR : Hid (RowB (w.alloc (.cells #[.slice a c d, .slice (some ⟨bw, 0, none⟩) n n] 37)) bw l) := fun i hi => by
    obtain ⟨h1, h2⟩ := hr i hi
    have hb : bw < w.heap.size := cell_lt h1
    rw [below_box.cell (p := ⟨bw, i, none⟩) hb, below_box.frozen (p := ⟨bw, i, none⟩) hb]; exact ⟨h1, h2⟩
  clear hr
  have hcon : Calls Tryd.prog 22 #[.slice (some ⟨bw, 0, none⟩) n n, .bool true] (w.alloc (.cells #[.slice a c d, .slice (some ⟨bw, 0, none⟩) n n] 37)) fun e w' => e = .returned (.bool (l.any id)) ∧ w' = (w.alloc (.cells #[.slice a c d, .slice (some ⟨bw, 0, none⟩) n n] 37)) := by
    generalize w.alloc (.cells #[.slice a c d, .slice (some ⟨bw, 0, none⟩) n n] 37) = w1 at *
    go_enter Tryd.func22, Tryd.ntmps22
    go_wp2_with fail
    refine (index_any l bw n hl hn _ HR.out).mono ?_
    rintro e w2 ⟨⟨z, rfl, hz⟩, rfl⟩
    have HZ : Hid _ := hz
    clear hz
    go_wp2_with fail
    go_ret
    refine ⟨ret_bool ?_, rfl⟩
    rw [Bool.eq_iff_iff]; simp [← HZ.out]
  have HC : Hid _ := hcon
  clear hcon HR
  go_enter Tryd.func11, Tryd.ntmps11
  go_wp2_with fail
  refine Calls.mono HC.out ?_
  rintro e w2 ⟨rfl, rfl⟩
  go_wp2_with fail
  go_ret
  exact ⟨rfl, below_box⟩
end Go.Proofs.YtlhimdjkkiflhaaDoor
