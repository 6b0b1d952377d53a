/- No nodes at all (nil): the program, the document, the law. -/
import Derived.Test.YtlhimdjkkiflhaaDoorOwnTop
import Derived.Test.YtlhimdjkkiflhaaDoorLaw3
namespace Go.Proofs.YtlhimdjkkiflhaaDoor
open Go.RowKit Go.Loop

/-- what Write gives of nil -/
def nilZ (mode : Int) : Int := if mode < 0 ∨ 2 < mode then 1 else 8

set_option maxHeartbeats 1000000 in
theorem right_nil (w : World) : Calls Tryd.prog 9 #[.slice none 0 0] w fun e w' => e = .returned (.bool false) ∧ w' = w := by
  go_enter Tryd.func9, Tryd.ntmps9
  go_wp2_with fail
  go_ret
  exact ⟨rfl, rfl⟩
set_option maxHeartbeats 1000000 in
theorem refGraph_nil (w : World) : Calls Tryd.prog 15 #[.slice none 0 0] w fun e w' => e = .returned (.bool false) ∧ w' = w := by
  go_enter Tryd.func15, Tryd.ntmps15
  go_wp2_with fail
  go_ret
  exact ⟨rfl, rfl⟩

set_option maxHeartbeats 1000000 in
theorem ownWrite_nil (mode : Int) (w : World) : Calls Tryd.prog 5 #[.slice none 0 0, .int .i64 mode] w fun e w' => e = .returned (.tuple #[.string ⟨#[]⟩, .int .i64 (nilZ mode)]) ∧ w' = w := by
  by_cases hm : mode < 0 ∨ 2 < mode
  · have HV : Hid (nilZ mode = 1) := by show _ = _; unfold nilZ; rw [if_pos hm]
    have m0 : (mode != 0) = true := by simp; omega
    have m1 : (mode != 1) = true := by simp; omega
    have m2 : (mode != 2) = true := by simp; omega
    go_enter Tryd.func5, Tryd.ntmps5
    go_wp2_with fail
    go_ret2
    exact ⟨ret_two (a := []) (a' := []) rfl (by rw [HV.out]), rfl⟩
  · have HV : Hid (nilZ mode = 8) := by show _ = _; unfold nilZ; rw [if_neg hm]
    have hmode : mode = 0 ∨ mode = 1 ∨ mode = 2 := by omega
    rcases hmode with rfl | rfl | rfl
    all_goals
      go_enter Tryd.func5, Tryd.ntmps5
      go_wp2_with (go_at_call 9; refine (right_nil _).mono ?_; rintro e w' ⟨rfl, rfl⟩)
      go_ret2
      exact ⟨ret_two (a := []) (a' := []) rfl (by rw [HV.out]), rfl⟩

set_option maxHeartbeats 1000000 in
theorem refWrite_nil (mode : Int) (w : World) : Calls Tryd.prog 8 #[.slice none 0 0, .int .i64 mode] w fun e w' => e = .returned (.tuple #[.string ⟨#[]⟩, .int .i64 (nilZ mode)]) ∧ w' = w := by
  by_cases hm : mode < 0 ∨ 2 < mode
  · have HV : Hid (nilZ mode = 1) := by show _ = _; unfold nilZ; rw [if_pos hm]
    go_enter Tryd.func8, Tryd.ntmps8
    go_wp2_with fail
    all_goals first
      | (exfalso; omega)
      | (go_ret2; exact ⟨ret_two (a := []) (a' := []) rfl (by rw [HV.out]), rfl⟩)
  · have HV : Hid (nilZ mode = 8) := by show _ = _; unfold nilZ; rw [if_neg hm]
    have m1 : 0 ≤ mode := by omega
    have m2 : mode ≤ 2 := by omega
    clear hm
    go_enter Tryd.func8, Tryd.ntmps8
    go_wp2_with (go_at_call 15; refine (refGraph_nil _).mono ?_; rintro e w' ⟨rfl, rfl⟩)
    go_ret2
    exact ⟨ret_two (a := []) (a' := []) rfl (by rw [HV.out]), rfl⟩

set_option maxHeartbeats 1000000 in
theorem handed_nil (w : World) : Calls Tryd.prog 6 #[.slice none 0 0] w fun e w' => e = .returned (.tuple #[.slice none 0 0, .slice none 0 0]) ∧ w' = w := by
  have eqn := fun w : World => Lib.run_eql_slice_nil (P := Tryd.prog) w 22 26 none 0 0 0 0 Tryd.underlying22
  go_enter Tryd.func6, Tryd.ntmps6
  go_wp2_with fail
  go_ret2
  exact ⟨rfl, rfl⟩
set_option maxHeartbeats 1000000 in
theorem still_nil (w : World) : Calls Tryd.prog 7 #[.slice none 0 0, .slice none 0 0, .slice none 0 0] w fun e w' => e = .returned (.bool true) ∧ w' = w := by
  go_enter Tryd.func7, Tryd.ntmps7
  go_wp2_with fail
  go_loopw [7] (fun i wr => i = .int .i64 0 ∧ wr = w) (fun _ _ => 0)
  case atStart => exact ⟨rfl, rfl⟩
  case round =>
    obtain ⟨rfl, rfl⟩ := hrel
    go_wp2_with fail
    go_loopw [10] (fun i wx => i = .int .i64 0 ∧ wx = wr) (fun _ _ => 0)
    case atStart => exact ⟨rfl, rfl⟩
    case round =>
      obtain ⟨rfl, rfl⟩ := hrel
      go_wp2_with fail
      go_ret
      exact ⟨rfl, rfl⟩
set_option maxHeartbeats 1000000 in
theorem write_nil (mode : Int) (w : World) : Calls Tryd.prog 4 #[.slice none 0 0, .int .i64 mode] w fun e w' => e = .returned (.bool true) ∧ w' = w := by
  go_enter Tryd.func4, Tryd.ntmps4
  go_wp2_with fail
  refine (handed_nil _).mono ?_
  rintro e w' ⟨rfl, rfl⟩
  go_wp2_with fail
  refine (ownWrite_nil mode _).mono ?_
  rintro e w' ⟨rfl, rfl⟩
  go_wp2_with fail
  refine (still_nil _).mono ?_
  rintro e w' ⟨rfl, rfl⟩
  go_wp2_with fail
  refine (refWrite_nil mode _).mono ?_
  rintro e w' ⟨rfl, rfl⟩
  generalize nilZ mode = z at *
  go_wp2_with fail
  go_ret
  exact ⟨rfl, rfl⟩
end Go.Proofs.YtlhimdjkkiflhaaDoor
