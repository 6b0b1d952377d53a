/- The greatest common divisor; numbers in lowest terms. -/
import Derived.Test.YtlhimdjkkiflhaaDoorLeafA
namespace Go.Proofs.YtlhimdjkkiflhaaDoor
open Go.RowKit Go.Loop

theorem gcd_tmod (a b : Int) : Int.gcd b (a.tmod b) = Int.gcd a b := by
  have h : (a.tmod b) = a - b * (a.tdiv b) := by have := Int.mul_tdiv_add_tmod a b; omega
  rw [h, Int.gcd_sub_mul_left_right, Int.gcd_comm]

theorem tmod_lt (a b : Int) (hb : b ≠ 0) : (a.tmod b).natAbs < b.natAbs := by
  rw [Int.natAbs_tmod]; exact Nat.mod_lt _ (by omega)

theorem abs_bd (t : Int) (b : Int) (h : t.natAbs < b.natAbs) (hb1 : -4611686018427387904 ≤ b) (hb2 : b ≤ 4611686018427387904) : -4611686018427387904 ≤ t ∧ t ≤ 4611686018427387904 := by omega

theorem gcd_zero_max (a : Int) : ((Int.gcd a 0 : Nat) : Int) = max a (-a) := by
  rw [Int.gcd_zero_right]; omega

set_option maxHeartbeats 400000 in
theorem divisor_any (n d : Int) (w : World) (h1 : -4611686018427387904 ≤ n) (h2 : n ≤ 4611686018427387904) (h3 : -4611686018427387904 ≤ d) (h4 : d ≤ 4611686018427387904) :
    Calls Tryd.prog 83 #[.int .i64 n, .int .i64 d] w fun e w' => e = .returned (.int .i64 (Int.gcd n d)) ∧ ∃ m, w' = w.drewN m := by
  go_enter Tryd.func83, Tryd.ntmps83
  go_wp2
  go_loopw [0, 1] (fun x y wr => ∃ a b : Int, x = .int .i64 a ∧ y = .int .i64 b ∧ -4611686018427387904 ≤ a ∧ a ≤ 4611686018427387904 ∧ -4611686018427387904 ≤ b ∧ b ≤ 4611686018427387904 ∧ Hid (Int.gcd a b = Int.gcd n d) ∧ ∃ m, wr = w.drewN m) (fun _ y _ => (intOf y).natAbs)
  case atStart => exact ⟨n, d, rfl, rfl, h1, h2, h3, h4, rfl, 0, rfl⟩
  case round =>
    obtain ⟨a, b, rfl, rfl, ha1, ha2, hb1, hb2, hg, m, rfl⟩ := hrel
    by_cases hb : b = 0
    · subst hb
      go_wp2
      go_ret
      exact ⟨ret_int (by rw [← hg.out, gcd_zero_max]), _, rfl⟩
    · have hbb : (b != 0) = true := by simpa using hb
      have HT : Hid ((a.tmod b).natAbs < b.natAbs) := tmod_lt a b hb
      obtain ⟨t1, t2⟩ := abs_bd _ _ HT.out hb1 hb2
      go_wp2
      go_quiet (fail)
      go_wp2
      go_roundw
      case rel => exact ⟨b, a.tmod b, rfl, rfl, hb1, hb2, t1, t2, (gcd_tmod a b).trans hg.out, _, World.drewN_drewN _ _ _⟩
      case measure => exact HT.out

set_option maxHeartbeats 400000 in
theorem lowest_any (n d : Int) (w : World) (h1 : -4611686018427387904 ≤ n) (h2 : n ≤ 4611686018427387904) (h3 : 1 ≤ d) (h4 : d ≤ 4611686018427387904) :
    Calls Tryd.prog 71 #[.int .i64 n, .int .i64 d] w fun e w' => e = .returned (.tuple #[.int .i64 (n.tdiv (Int.gcd n d)), .int .i64 (d / (Int.gcd n d))]) ∧ ∃ m, w' = w.drewN m := by
  have hg : 1 ≤ ((Int.gcd n d : Nat) : Int) := by
    have : 0 < Int.gcd n d := Int.gcd_pos_of_ne_zero_right _ (by omega)
    omega
  go_enter Tryd.func71, Tryd.ntmps71
  go_wp2_with (go_at_call 83; refine (divisor_any _ _ _ (by omega) (by omega) (by omega) (by omega)).mono ?_; rintro e w' ⟨rfl, m, rfl⟩)
  go_quiet (fail)
  go_wp2
  go_ret2
  exact ⟨rfl, _, World.drewN_drewN _ _ _⟩

theorem tdiv_bd (n g : Int) (h1 : -4611686018427387904 ≤ n) (h2 : n ≤ 4611686018427387904) (_hg : 1 ≤ g) : -4611686018427387904 ≤ n.tdiv g ∧ n.tdiv g ≤ 4611686018427387904 := by
  have : (n.tdiv g).natAbs ≤ n.natAbs := by rw [Int.natAbs_tdiv]; exact Nat.div_le_self _ _
  omega
theorem div_bd (n g : Int) (h1 : 1 ≤ n) (h2 : n ≤ 4611686018427387904) (hg : 1 ≤ g) : 0 ≤ n / g ∧ n / g ≤ 4611686018427387904 := by
  have h3 := Int.ediv_le_self (a := n) g (by omega)
  have h4 := Int.ediv_nonneg (a := n) (b := g) (by omega) (by omega)
  omega

set_option maxHeartbeats 400000 in
theorem ratioLowest_any (n d : Int) (w : World) (h1 : -4611686018427387904 ≤ n) (h2 : n ≤ 4611686018427387904) (h3 : 1 ≤ d) (h4 : d ≤ 4611686018427387904) :
    Calls Tryd.prog 51 #[.int .i64 n, .int .i64 d] w fun e w' => e = .returned (.tuple #[.int .i64 (n.tdiv (Int.gcd n d)), .int .i64 (d / (Int.gcd n d))]) ∧ ∃ m, w' = w.drewN m := by
  have hg : 1 ≤ ((Int.gcd n d : Nat) : Int) := by
    have : 0 < Int.gcd n d := Int.gcd_pos_of_ne_zero_right _ (by omega)
    omega
  obtain ⟨t1, t2⟩ := tdiv_bd n _ h1 h2 hg
  obtain ⟨t3, t4⟩ := div_bd d _ h3 h4 hg
  go_enter Tryd.func51, Tryd.ntmps51
  go_wp2_with (go_at_call 71; refine (lowest_any _ _ _ (by omega) (by omega) (by omega) (by omega)).mono ?_; rintro e w' ⟨rfl, m, rfl⟩)
  generalize n.tdiv (Int.gcd n d) = u at *
  generalize d / (Int.gcd n d) = v at *
  go_wp2
  go_ret2
  exact ⟨rfl, _, rfl⟩

set_option maxHeartbeats 400000 in
theorem refLowest_any (n d : Int) (w : World) (h1 : -4611686018427387904 ≤ n) (h2 : n ≤ 4611686018427387904) (h3 : 1 ≤ d) (h4 : d ≤ 4611686018427387904) :
    Calls Tryd.prog 46 #[.int .i64 n, .int .i64 d] w fun e w' => e = .returned (.tuple #[.int .i64 (n.tdiv (Int.gcd n d)), .int .i64 (d / (Int.gcd n d))]) ∧ ∃ m, w' = w.drewN m := by
  have hg : 1 ≤ ((Int.gcd n d : Nat) : Int) := by
    have : 0 < Int.gcd n d := Int.gcd_pos_of_ne_zero_right _ (by omega)
    omega
  go_enter Tryd.func46, Tryd.ntmps46
  go_wp2
  go_loop [6, 7] (fun x y => ∃ a b : Int, x = .int .i64 a ∧ y = .int .i64 b ∧ -4611686018427387904 ≤ a ∧ a ≤ 4611686018427387904 ∧ -4611686018427387904 ≤ b ∧ b ≤ 4611686018427387904 ∧ Hid (Int.gcd a b = Int.gcd n d)) (fun _ y => (intOf y).natAbs)
  case atStart => exact ⟨n, d, rfl, rfl, h1, h2, by omega, h4, rfl⟩
  case round =>
    obtain ⟨a, b, rfl, rfl, ha1, ha2, hb1, hb2, hg'⟩ := hrel
    by_cases hb : b = 0
    · subst hb
      have HM : Hid (((Int.gcd n d : Nat) : Int) = max a (-a)) := by show _ = _; rw [← hg'.out, gcd_zero_max]
      by_cases ha : a < 0
      · obtain ⟨g, rfl⟩ : ∃ g, a = -g := ⟨-a, by omega⟩
        have HA : Hid (((Int.gcd n d : Nat) : Int) = g) := by show _ = _; rw [HM.out]; omega
        have hg1 : 1 ≤ g := by rw [← HA.out]; exact hg
        go_wp2
        go_quiet (fail)
        go_wp2
        go_ret2
        refine ⟨?_, _, rfl⟩
        rw [HA.out]; rfl
      · have HA : Hid (((Int.gcd n d : Nat) : Int) = a) := by show _ = _; rw [HM.out]; omega
        have ha1 : 1 ≤ a := by rw [← HA.out]; exact hg
        go_wp2
        go_quiet (fail)
        go_wp2
        go_ret2
        refine ⟨?_, _, rfl⟩
        rw [HA.out]; rfl
    · have hbb : (b != 0) = true := by simpa using hb
      have HT : Hid ((a.tmod b).natAbs < b.natAbs) := tmod_lt a b hb
      obtain ⟨t1, t2⟩ := abs_bd _ _ HT.out hb1 hb2
      go_wp2
      go_round
      case rel => exact ⟨b, a.tmod b, rfl, rfl, hb1, hb2, t1, t2, (gcd_tmod a b).trans hg'.out⟩
      case measure => exact HT.out

set_option maxHeartbeats 400000 in
theorem rightNumber_any (n d : Int) (w : World) :
    Calls Tryd.prog 35 #[.int .i64 n, .int .i64 d] w fun e w' => e = .returned (.bool (numB n d)) ∧ ∃ m, w' = w.drewN m := by
  by_cases hb : 1 ≤ d ∧ d ≤ 1000000 ∧ -1000000 ≤ n ∧ n ≤ 1000000
  · obtain ⟨b1, b2, b3, b4⟩ := hb
    have H : Hid ((d / ((Int.gcd n d : Nat) : Int) == d) = numB n d) := by
      show _ = _; rw [lowest_same n d b1]; simp [numB, b1, b2, b3, b4]
    go_enter Tryd.func35, Tryd.ntmps35
    go_wp2_with (go_at_call 51; refine (ratioLowest_any _ _ _ (by omega) (by omega) (by omega) (by omega)).mono ?_; rintro e w' ⟨rfl, m, rfl⟩)
    go_ret
    exact ⟨ret_bool H.out, _, rfl⟩
  · have H : Hid (numB n d = false) := by show _ = _; simp [numB]; omega
    go_enter Tryd.func35, Tryd.ntmps35
    go_wp2_with fail
    all_goals first
      | (exfalso; omega)
      | (go_ret; exact ⟨ret_bool H.out.symm, 0, rfl⟩)
end Go.Proofs.YtlhimdjkkiflhaaDoor
