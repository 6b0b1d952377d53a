/- The document's digits. -/
import Derived.Test.YtlhimdjkkiflhaaDoorRefTokT
import Derived.Lib.ItoaMem
namespace Go.Proofs.YtlhimdjkkiflhaaDoor
open Go.RowKit Go.Loop

theorem dec_len : ∀ (f u : Nat), u < 10 ^ f → (Lib.decDigits u).length ≤ f + 1
  | 0, u, h => by
    have : u = 0 := by simpa using h
    subst this; rw [Lib.decDigits_one (by omega)]; simp
  | f + 1, u, h => by
    by_cases h10 : u < 10
    · rw [Lib.decDigits_one h10]; simp
    · rw [Lib.decDigits, dif_neg h10]
      have := dec_len f (u / 10) (by rw [Nat.pow_succ] at h; omega)
      simp; omega
theorem dec_len9 (u : Nat) (h : u ≤ 1000000000) : (Lib.decDigits u).length ≤ 11 := dec_len 10 u (by omega)
theorem dig_ext : ∀ d : Nat, d < 10 → (ByteArray.mk #[48, 49, 50, 51, 52, 53, 54, 55, 56, 57]).extract d (d + 1) = ⟨⟨[UInt8.ofNat (48 + d)]⟩⟩ := by decide +kernel

set_option maxHeartbeats 400000 in
theorem digitsOf_nat : ∀ (f u : Nat) (w : World), u < 10 ^ f → u ≤ 1000000000 → Calls Tryd.prog 30 #[.int .i64 u] w fun e w' => e = .returned (.string ⟨⟨Lib.decDigits u⟩⟩) ∧ w' = w := by
  intro f
  induction f with
  | zero =>
    intro u w h hb
    have hu : u = 0 := by simpa using h
    subst hu
    have H : Hid (Lib.decDigits 0 = [UInt8.ofNat (48 + 0)]) := Lib.decDigits_one (by omega)
    have hx := dig_ext 0 (by omega)
    go_enter Tryd.func30, Tryd.ntmps30
    go_wp2_with fail
    go_ret
    exact ⟨ret_strl H.out.symm, rfl⟩
  | succ f ih =>
    intro u w h hb
    have IH : Hid _ := ih
    clear ih
    have hx := dig_ext (u % 10) (by omega)
    have HX : Hid _ := hx
    clear hx
    by_cases h10 : u < 10
    · have H : Hid (Lib.decDigits u = [UInt8.ofNat (48 + u % 10)]) := by show _ = _; rw [Nat.mod_eq_of_lt h10]; exact Lib.decDigits_one h10
      go_enter Tryd.func30, Tryd.ntmps30
      go_wp2_with fail
      go_ret
      refine ⟨ret_str ?_, rfl⟩
      rw [HX.out, H.out]
    · have H : Hid (Lib.decDigits u = Lib.decDigits (u / 10) ++ [UInt8.ofNat (48 + u % 10)]) := by show _ = _; rw [Lib.decDigits, dif_neg h10]
      have hlen := dec_len9 (u / 10) (by omega)
      have HP : Hid (u / 10 < 10 ^ f) := by show _ < _; rw [Nat.pow_succ] at h; omega
      go_enter Tryd.func30, Tryd.ntmps30
      go_wp2_with fail
      rw [show ((u : Int) / 10) = ((u / 10 : Nat) : Int) from by omega]
      refine (IH.out (u / 10) _ HP.out (by omega)).mono ?_
      rintro e w' ⟨rfl, rfl⟩
      go_wp2_with fail
      go_ret
      refine ⟨ret_str ?_, rfl⟩
      rw [HX.out, str_app, H.out]

set_option maxHeartbeats 400000 in
theorem digitsOf_any (n : Int) (w : World) (h1 : -1000000000 ≤ n) (h2 : n ≤ 1000000000) : Calls Tryd.prog 30 #[.int .i64 n] w fun e w' => e = .returned (.string ⟨⟨Lib.itoa n⟩⟩) ∧ w' = w := by
  by_cases h0 : 0 ≤ n
  · obtain ⟨u, rfl⟩ := Int.eq_ofNat_of_zero_le h0
    have := digitsOf_nat 10 u w (by omega) (by omega)
    rwa [← Lib.itoa_nonneg] at this
  · obtain ⟨u, rfl⟩ : ∃ u : Nat, n = -(u : Int) := ⟨n.natAbs, by omega⟩
    have hlen := dec_len9 u (by omega)
    have H : Hid (Lib.itoa (-(u : Int)) = 45 :: Lib.decDigits u) := Lib.itoa_neg u (by omega)
    go_enter Tryd.func30, Tryd.ntmps30
    go_wp2_with fail
    refine (digitsOf_nat 10 u _ (by omega) (by omega)).mono ?_
    rintro e w' ⟨rfl, rfl⟩
    go_wp2_with fail
    go_ret
    refine ⟨ret_str ?_, rfl⟩
    rw [H.out]
    exact str_app [45] _
end Go.Proofs.YtlhimdjkkiflhaaDoor
