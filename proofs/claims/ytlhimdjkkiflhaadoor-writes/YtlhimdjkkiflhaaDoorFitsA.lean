/- The document's look whether nodes are a graph. -/
import Derived.Test.YtlhimdjkkiflhaaDoorRefSym
import Derived.Test.YtlhimdjkkiflhaaDoorGraphB
import Derived.Deep.DeepCutAuto
namespace Go.Proofs.YtlhimdjkkiflhaaDoor
open Go.RowKit Go.Loop

theorem subsB_all (l : List Int) (all : Int) (h : subsB l all = true) (k : Nat) (hk : k < l.length) : 0 ≤ l.getD k 0 ∧ l.getD k 0 < all := by
  unfold subsB at h
  have := List.all_eq_true.1 h _ (List.getElem_mem hk)
  simp [List.getD, List.getElem?_eq_getElem hk] at this ⊢
  exact this

set_option maxHeartbeats 2000000 in
set_option maxRecDepth 10000 in
theorem fits_0 (x : Nd) (all : Int) (w : World) (hl : x.subs.length ≤ maxLen) (HI : Hid (IntsAt w x.sa x.subs)) (HS : Hid (∀ k, k < x.subs.length → 0 ≤ x.subs.getD k 0 ∧ x.subs.getD k 0 < all)) (hk : x.kind = 0) :
    Calls Tryd.prog 27 #[nodeV x, .int .i64 all] w fun e w' => e = .returned (.bool (kindB x)) ∧ Below w.heap.size w w' := by
  unfold nodeV
  unfold maxLen at hl
  have hb0 : (x.kind == 0) = true := by simpa using hk
  have HK : Hid (x.kind = 0) := hk
  clear hk
  have HV : Hid (kindB x = decide (x.text = [] ∧ x.n = 0 ∧ x.d = 0 ∧ x.subs.length = 0)) := by show _ = _; unfold kindB; rw [if_pos HK.out]
  go_enter Tryd.func27, Tryd.ntmps27
  go_wp2_with fail
  go_loop [5] (fun i => ∃ k : Nat, k ≤ x.subs.length ∧ i = .int .i64 k) (fun i => x.subs.length - (intOf i).toNat)
  case atStart => exact ⟨0, Nat.zero_le _, rfl⟩
  case round =>
    obtain ⟨k, hk, rfl⟩ := hrel
    by_cases hlt : k < x.subs.length
    · rcases HI.out with h | ⟨b, o, hsa, hc⟩
      · exfalso; rw [h] at hlt; simp at hlt
      · have hcell0 := cell_below (below_box (o := .cells #[.int .i64 x.kind, .string ⟨⟨x.text⟩⟩, .int .i64 x.n, .int .i64 x.d, .slice x.sa x.subs.length x.cap] 26)) (hc k hlt)
        rw [hsa] at hcell0
        have hcell := hcell0
        obtain ⟨h0, h1⟩ := HS.out k hlt
        have HC : Hid _ := hc
        clear hc hcell0
        generalize x.subs.getD k 0 = v at *
        rw [hsa]
        clear hsa
        go_wp2_with fail
        go_round
        case rel => exact ⟨k + 1, by omega, by go_num⟩
        case measure => simp [intOf]; omega
    · go_wp2_with fail
      all_goals
        go_ret
        refine ⟨ret_bool ?_, below_box⟩
        rw [HV.out]
        first | (simp_all; done) | (rw [Bool.eq_iff_iff]; simp_all; done) | (rw [Bool.eq_iff_iff]; simp_all; omega)

set_option maxHeartbeats 2000000 in
set_option maxRecDepth 10000 in
theorem fits_1 (x : Nd) (all : Int) (w : World) (hl : x.subs.length ≤ maxLen) (HI : Hid (IntsAt w x.sa x.subs)) (HS : Hid (∀ k, k < x.subs.length → 0 ≤ x.subs.getD k 0 ∧ x.subs.getD k 0 < all)) (hk : x.kind = 1) :
    Calls Tryd.prog 27 #[nodeV x, .int .i64 all] w fun e w' => e = .returned (.bool (kindB x)) ∧ Below w.heap.size w w' := by
  unfold nodeV
  unfold maxLen at hl
  have hb1 : (x.kind == 1) = true := by simpa using hk
  have hb0 : (x.kind == 0) = false := by rw [hk]; decide
  have HK : Hid (x.kind = 1) := hk
  clear hk
  have HV : Hid (kindB x = decide (x.subs.length = 2 ∧ x.text = [] ∧ x.n = 0 ∧ x.d = 0)) := by show _ = _; unfold kindB; rw [if_neg (by rw [HK.out]; decide), if_pos HK.out]
  go_enter Tryd.func27, Tryd.ntmps27
  go_wp2_with fail
  go_loop [5] (fun i => ∃ k : Nat, k ≤ x.subs.length ∧ i = .int .i64 k) (fun i => x.subs.length - (intOf i).toNat)
  case atStart => exact ⟨0, Nat.zero_le _, rfl⟩
  case round =>
    obtain ⟨k, hk, rfl⟩ := hrel
    by_cases hlt : k < x.subs.length
    · rcases HI.out with h | ⟨b, o, hsa, hc⟩
      · exfalso; rw [h] at hlt; simp at hlt
      · have hcell0 := cell_below (below_box (o := .cells #[.int .i64 x.kind, .string ⟨⟨x.text⟩⟩, .int .i64 x.n, .int .i64 x.d, .slice x.sa x.subs.length x.cap] 26)) (hc k hlt)
        rw [hsa] at hcell0
        have hcell := hcell0
        obtain ⟨h0, h1⟩ := HS.out k hlt
        have HC : Hid _ := hc
        clear hc hcell0
        generalize x.subs.getD k 0 = v at *
        rw [hsa]
        clear hsa
        go_wp2_with fail
        go_round
        case rel => exact ⟨k + 1, by omega, by go_num⟩
        case measure => simp [intOf]; omega
    · go_wp2_with fail
      all_goals
        go_ret
        refine ⟨ret_bool ?_, below_box⟩
        rw [HV.out]
        first | (simp_all; done) | (rw [Bool.eq_iff_iff]; simp_all; done) | (rw [Bool.eq_iff_iff]; simp_all; omega)

set_option maxHeartbeats 2000000 in
set_option maxRecDepth 10000 in
theorem fits_2 (x : Nd) (all : Int) (w : World) (hl : x.subs.length ≤ maxLen) (HI : Hid (IntsAt w x.sa x.subs)) (HS : Hid (∀ k, k < x.subs.length → 0 ≤ x.subs.getD k 0 ∧ x.subs.getD k 0 < all)) (hk : x.kind = 2) :
    Calls Tryd.prog 27 #[nodeV x, .int .i64 all] w fun e w' => e = .returned (.bool (kindB x)) ∧ Below w.heap.size w w' := by
  unfold nodeV
  unfold maxLen at hl
  have hb2 : (x.kind == 2) = true := by simpa using hk
  have hb0 : (x.kind == 0) = false := by rw [hk]; decide
  have hb1 : (x.kind == 1) = false := by rw [hk]; decide
  have HK : Hid (x.kind = 2) := hk
  clear hk
  have HV : Hid (kindB x = decide (x.subs.length ≤ 20 ∧ x.text = [] ∧ x.n = 0 ∧ x.d = 0)) := by show _ = _; unfold kindB; rw [if_neg (by rw [HK.out]; decide), if_neg (by rw [HK.out]; decide), if_pos HK.out]
  go_enter Tryd.func27, Tryd.ntmps27
  go_wp2_with fail
  go_loop [5] (fun i => ∃ k : Nat, k ≤ x.subs.length ∧ i = .int .i64 k) (fun i => x.subs.length - (intOf i).toNat)
  case atStart => exact ⟨0, Nat.zero_le _, rfl⟩
  case round =>
    obtain ⟨k, hk, rfl⟩ := hrel
    by_cases hlt : k < x.subs.length
    · rcases HI.out with h | ⟨b, o, hsa, hc⟩
      · exfalso; rw [h] at hlt; simp at hlt
      · have hcell0 := cell_below (below_box (o := .cells #[.int .i64 x.kind, .string ⟨⟨x.text⟩⟩, .int .i64 x.n, .int .i64 x.d, .slice x.sa x.subs.length x.cap] 26)) (hc k hlt)
        rw [hsa] at hcell0
        have hcell := hcell0
        obtain ⟨h0, h1⟩ := HS.out k hlt
        have HC : Hid _ := hc
        clear hc hcell0
        generalize x.subs.getD k 0 = v at *
        rw [hsa]
        clear hsa
        go_wp2_with fail
        go_round
        case rel => exact ⟨k + 1, by omega, by go_num⟩
        case measure => simp [intOf]; omega
    · go_wp2_with fail
      all_goals
        go_ret
        refine ⟨ret_bool ?_, below_box⟩
        rw [HV.out]
        first | (simp_all; done) | (rw [Bool.eq_iff_iff]; simp_all; done) | (rw [Bool.eq_iff_iff]; simp_all; omega)

set_option maxHeartbeats 2000000 in
set_option maxRecDepth 10000 in
theorem fits_3 (x : Nd) (all : Int) (w : World) (hl : x.subs.length ≤ maxLen) (HI : Hid (IntsAt w x.sa x.subs)) (HS : Hid (∀ k, k < x.subs.length → 0 ≤ x.subs.getD k 0 ∧ x.subs.getD k 0 < all)) (hk : x.kind = 3) :
    Calls Tryd.prog 27 #[nodeV x, .int .i64 all] w fun e w' => e = .returned (.bool (kindB x)) ∧ Below w.heap.size w w' := by
  unfold nodeV
  unfold maxLen at hl
  have hb3 : (x.kind == 3) = true := by simpa using hk
  have hb0 : (x.kind == 0) = false := by rw [hk]; decide
  have hb1 : (x.kind == 1) = false := by rw [hk]; decide
  have hb2 : (x.kind == 2) = false := by rw [hk]; decide
  have HK : Hid (x.kind = 3) := hk
  clear hk
  have HV : Hid (kindB x = decide (x.text.length ≤ 400 ∧ x.n = 0 ∧ x.d = 0 ∧ x.subs.length = 0)) := by show _ = _; unfold kindB; rw [if_neg (by rw [HK.out]; decide), if_neg (by rw [HK.out]; decide), if_neg (by rw [HK.out]; decide), if_pos HK.out]
  go_enter Tryd.func27, Tryd.ntmps27
  go_wp2_with fail
  go_loop [5] (fun i => ∃ k : Nat, k ≤ x.subs.length ∧ i = .int .i64 k) (fun i => x.subs.length - (intOf i).toNat)
  case atStart => exact ⟨0, Nat.zero_le _, rfl⟩
  case round =>
    obtain ⟨k, hk, rfl⟩ := hrel
    by_cases hlt : k < x.subs.length
    · rcases HI.out with h | ⟨b, o, hsa, hc⟩
      · exfalso; rw [h] at hlt; simp at hlt
      · have hcell0 := cell_below (below_box (o := .cells #[.int .i64 x.kind, .string ⟨⟨x.text⟩⟩, .int .i64 x.n, .int .i64 x.d, .slice x.sa x.subs.length x.cap] 26)) (hc k hlt)
        rw [hsa] at hcell0
        have hcell := hcell0
        obtain ⟨h0, h1⟩ := HS.out k hlt
        have HC : Hid _ := hc
        clear hc hcell0
        generalize x.subs.getD k 0 = v at *
        rw [hsa]
        clear hsa
        go_wp2_with fail
        go_round
        case rel => exact ⟨k + 1, by omega, by go_num⟩
        case measure => simp [intOf]; omega
    · go_wp2_with fail
      all_goals
        go_ret
        refine ⟨ret_bool ?_, below_box⟩
        rw [HV.out]
        first | (simp_all; done) | (rw [Bool.eq_iff_iff]; simp_all; done) | (rw [Bool.eq_iff_iff]; simp_all; omega)

set_option maxHeartbeats 2000000 in
set_option maxRecDepth 10000 in
theorem fits_6 (x : Nd) (all : Int) (w : World) (hl : x.subs.length ≤ maxLen) (HI : Hid (IntsAt w x.sa x.subs)) (HS : Hid (∀ k, k < x.subs.length → 0 ≤ x.subs.getD k 0 ∧ x.subs.getD k 0 < all)) (hk : x.kind = 6) :
    Calls Tryd.prog 27 #[nodeV x, .int .i64 all] w fun e w' => e = .returned (.bool (kindB x)) ∧ Below w.heap.size w w' := by
  unfold nodeV
  unfold maxLen at hl
  have hb6 : (x.kind == 6) = true := by simpa using hk
  have hb0 : (x.kind == 0) = false := by rw [hk]; decide
  have hb1 : (x.kind == 1) = false := by rw [hk]; decide
  have hb2 : (x.kind == 2) = false := by rw [hk]; decide
  have hb3 : (x.kind == 3) = false := by rw [hk]; decide
  have hb4 : (x.kind == 4) = false := by rw [hk]; decide
  have hb5 : (x.kind == 5) = false := by rw [hk]; decide
  have HK : Hid (x.kind = 6) := hk
  clear hk
  have HV : Hid (kindB x = decide ((x.n = 0 ∨ x.n = 1) ∧ x.text = [] ∧ x.d = 0 ∧ x.subs.length = 0)) := by show _ = _; unfold kindB; rw [if_neg (by rw [HK.out]; decide), if_neg (by rw [HK.out]; decide), if_neg (by rw [HK.out]; decide), if_neg (by rw [HK.out]; decide), if_neg (by rw [HK.out]; decide), if_neg (by rw [HK.out]; decide), if_pos HK.out]
  go_enter Tryd.func27, Tryd.ntmps27
  go_wp2_with fail
  go_loop [5] (fun i => ∃ k : Nat, k ≤ x.subs.length ∧ i = .int .i64 k) (fun i => x.subs.length - (intOf i).toNat)
  case atStart => exact ⟨0, Nat.zero_le _, rfl⟩
  case round =>
    obtain ⟨k, hk, rfl⟩ := hrel
    by_cases hlt : k < x.subs.length
    · rcases HI.out with h | ⟨b, o, hsa, hc⟩
      · exfalso; rw [h] at hlt; simp at hlt
      · have hcell0 := cell_below (below_box (o := .cells #[.int .i64 x.kind, .string ⟨⟨x.text⟩⟩, .int .i64 x.n, .int .i64 x.d, .slice x.sa x.subs.length x.cap] 26)) (hc k hlt)
        rw [hsa] at hcell0
        have hcell := hcell0
        obtain ⟨h0, h1⟩ := HS.out k hlt
        have HC : Hid _ := hc
        clear hc hcell0
        generalize x.subs.getD k 0 = v at *
        rw [hsa]
        clear hsa
        go_wp2_with fail
        go_round
        case rel => exact ⟨k + 1, by omega, by go_num⟩
        case measure => simp [intOf]; omega
    · go_wp2_with fail
      all_goals
        go_ret
        refine ⟨ret_bool ?_, below_box⟩
        rw [HV.out]
        first | (simp_all; done) | (rw [Bool.eq_iff_iff]; simp_all; done) | (rw [Bool.eq_iff_iff]; simp_all; omega)

set_option maxHeartbeats 2000000 in
set_option maxRecDepth 10000 in
theorem fits_else (x : Nd) (all : Int) (w : World) (hl : x.subs.length ≤ maxLen) (HI : Hid (IntsAt w x.sa x.subs)) (HS : Hid (∀ k, k < x.subs.length → 0 ≤ x.subs.getD k 0 ∧ x.subs.getD k 0 < all)) (hk : x.kind < 0 ∨ 7 < x.kind) :
    Calls Tryd.prog 27 #[nodeV x, .int .i64 all] w fun e w' => e = .returned (.bool (kindB x)) ∧ Below w.heap.size w w' := by
  unfold nodeV
  unfold maxLen at hl
  have hb0 : (x.kind == 0) = false := by rw [beq_eq_false_iff_ne]; omega
  have hb1 : (x.kind == 1) = false := by rw [beq_eq_false_iff_ne]; omega
  have hb2 : (x.kind == 2) = false := by rw [beq_eq_false_iff_ne]; omega
  have hb3 : (x.kind == 3) = false := by rw [beq_eq_false_iff_ne]; omega
  have hb4 : (x.kind == 4) = false := by rw [beq_eq_false_iff_ne]; omega
  have hb5 : (x.kind == 5) = false := by rw [beq_eq_false_iff_ne]; omega
  have hb6 : (x.kind == 6) = false := by rw [beq_eq_false_iff_ne]; omega
  have hb7 : (x.kind == 7) = false := by rw [beq_eq_false_iff_ne]; omega
  have HV : Hid (kindB x = false) := by show _ = _; unfold kindB; rw [if_neg (by omega), if_neg (by omega), if_neg (by omega), if_neg (by omega), if_neg (by omega), if_neg (by omega), if_neg (by omega), if_neg (by omega)]
  clear hk
  go_enter Tryd.func27, Tryd.ntmps27
  go_wp2_with fail
  go_loop [5] (fun i => ∃ k : Nat, k ≤ x.subs.length ∧ i = .int .i64 k) (fun i => x.subs.length - (intOf i).toNat)
  case atStart => exact ⟨0, Nat.zero_le _, rfl⟩
  case round =>
    obtain ⟨k, hk, rfl⟩ := hrel
    by_cases hlt : k < x.subs.length
    · rcases HI.out with h | ⟨b, o, hsa, hc⟩
      · exfalso; rw [h] at hlt; simp at hlt
      · have hcell0 := cell_below (below_box (o := .cells #[.int .i64 x.kind, .string ⟨⟨x.text⟩⟩, .int .i64 x.n, .int .i64 x.d, .slice x.sa x.subs.length x.cap] 26)) (hc k hlt)
        rw [hsa] at hcell0
        have hcell := hcell0
        obtain ⟨h0, h1⟩ := HS.out k hlt
        have HC : Hid _ := hc
        clear hc hcell0
        generalize x.subs.getD k 0 = v at *
        rw [hsa]
        clear hsa
        go_wp2_with fail
        go_round
        case rel => exact ⟨k + 1, by omega, by go_num⟩
        case measure => simp [intOf]; omega
    · go_wp2_with fail
      all_goals
        go_ret
        exact ⟨ret_bool HV.out.symm, below_box⟩

set_option maxHeartbeats 2000000 in
set_option maxRecDepth 10000 in
theorem fits_no (x : Nd) (all : Int) (w : World) (hl : x.subs.length ≤ maxLen) (HI : Hid (IntsAt w x.sa x.subs)) (hno : Hid (subsB x.subs all = false)) :
    Calls Tryd.prog 27 #[nodeV x, .int .i64 all] w fun e w' => e = .returned (.bool false) ∧ Below w.heap.size w w' := by
  unfold nodeV
  unfold maxLen at hl
  go_enter Tryd.func27, Tryd.ntmps27
  go_wp2_with fail
  go_loop [5] (fun i => ∃ k : Nat, k ≤ x.subs.length ∧ i = .int .i64 k ∧ Hid (subsB (x.subs.take k) all = true)) (fun i => x.subs.length - (intOf i).toNat)
  case atStart => exact ⟨0, Nat.zero_le _, rfl, rfl⟩
  case round =>
    obtain ⟨k, hk, rfl, hr⟩ := hrel
    by_cases hlt : k < x.subs.length
    · rcases HI.out with h | ⟨b, o, hsa, hc⟩
      · exfalso; rw [h] at hlt; simp at hlt
      · have hcell := cell_below (below_box (o := .cells #[.int .i64 x.kind, .string ⟨⟨x.text⟩⟩, .int .i64 x.n, .int .i64 x.d, .slice x.sa x.subs.length x.cap] 26)) (hc k hlt)
        rw [hsa] at hcell
        have HC : Hid _ := hc
        clear hc
        by_cases hb : 0 ≤ x.subs.getD k 0 ∧ x.subs.getD k 0 < all
        · have H : Hid (subsB (x.subs.take (k + 1)) all = true) := by show _ = _; rw [subsB_snoc _ k hlt, hr.out, decide_eq_true hb]; rfl
          obtain ⟨h0, h1⟩ := hb
          generalize x.subs.getD k 0 = v at *
          rw [hsa]
          clear hsa
          go_wp2_with fail
          go_round
          case rel => exact ⟨k + 1, by omega, by go_num, H⟩
          case measure => simp [intOf]; omega
        · generalize x.subs.getD k 0 = v at *
          rw [hsa]
          clear hsa
          by_cases h0 : 0 ≤ v
          · have h1 : all ≤ v := by omega
            clear hb
            go_wp2_with fail
            go_ret
            exact ⟨rfl, below_box⟩
          · clear hb
            go_wp2_with fail
            go_ret
            exact ⟨rfl, below_box⟩
    · exfalso
      have h1 := hr.out
      rw [List.take_of_length_le (by omega), hno.out] at h1
      exact absurd h1 (by simp)
end Go.Proofs.YtlhimdjkkiflhaaDoor
