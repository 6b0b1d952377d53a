/- The document's tokens: characters, what begins with a number sign, texts. -/
import Derived.Test.YtlhimdjkkiflhaaDoorRefTokB
namespace Go.Proofs.YtlhimdjkkiflhaaDoor
open Go.RowKit Go.Loop

theorem bcell {W w1 : World} (hb : Below W.heap.size W w1) : (∀ b o, b < W.heap.size → w1.cell? ⟨b, o, none⟩ = W.cell? ⟨b, o, none⟩) ∧ (∀ b o, b < W.heap.size → w1.frozen? ⟨b, o, none⟩ = W.frozen? ⟨b, o, none⟩) :=
  ⟨fun b o h => hb.cell (p := ⟨b, o, none⟩) h, fun b o h => hb.frozen (p := ⟨b, o, none⟩) h⟩

theorem refCode_s (s : ByteArray) (w : World) :
    Calls Tryd.prog 67 #[.string s] w fun e w' => e = .returned (.int .i64 (codeOf s.data.toList)) ∧ w' = w := refCode_any s.data.toList w
theorem codeOf_bd (l : List UInt8) : -1 ≤ codeOf l ∧ codeOf l ≤ 127 := by
  unfold codeOf; repeat' split
  all_goals omega

set_option maxHeartbeats 1000000 in
theorem refChar_any (s : ByteArray) (a : Nat) (w : World) (hs : s.size ≤ 1000000) (ha : a + 2 ≤ s.size) :
    Calls Tryd.prog 77 #[.string s, .int .i64 a] w fun e w' => TokOk w e w' := by
  go_enter Tryd.func77, Tryd.ntmps77
  go_wp2_with fail
  go_loop [5] (fun i => ∃ k : Nat, a + 2 ≤ k ∧ k ≤ s.size ∧ i = .int .i64 k) (fun i => s.size - (intOf i).toNat)
  case atStart => exact ⟨a + 2, Nat.le_refl _, ha, by go_num⟩
  case round =>
    obtain ⟨k, hk0, hk, rfl⟩ := hrel
    by_cases hlt : k < s.size
    · cases hd : letB (s[k].toNat : Int)
      · go_wp2_with fail
        refine (refLetter_any _ _).mono ?_
        rw [hd]; rintro e w' ⟨rfl, rfl⟩
        clear hd
        go_wp2_with (go_at_call 67; refine (refCode_s _ _).mono ?_; rintro e w' ⟨rfl, rfl⟩)
        all_goals
          refine bodyPost_ret (by simp [results, Tryd.results77, go_sem]; rfl) rfl ?_
          exact ⟨_, _, _, _, _, _, rfl, by omega, (Below.refl _ _).alloc (Nat.le_refl _) _⟩
      · go_wp2_with fail
        refine (refLetter_any _ _).mono ?_
        rw [hd]; rintro e w' ⟨rfl, rfl⟩
        go_wp2_with fail
        go_round
        case rel => exact ⟨k + 1, by omega, by omega, by go_num⟩
        case measure => simp [intOf]; omega
    · go_wp2_with (go_at_call 67; refine (refCode_s _ _).mono ?_; rintro e w' ⟨rfl, rfl⟩)
      all_goals
        refine bodyPost_ret (by simp [results, Tryd.results77, go_sem]; rfl) rfl ?_
        exact ⟨_, _, _, _, _, _, rfl, by omega, (Below.refl _ _).alloc (Nat.le_refl _) _⟩
end Go.Proofs.YtlhimdjkkiflhaaDoor
