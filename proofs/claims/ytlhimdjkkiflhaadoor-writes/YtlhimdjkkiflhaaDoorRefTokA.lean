/- The document's tokens, as far as a written graph asks for them: each function returns; how far its places go. -/
import Derived.Test.YtlhimdjkkiflhaaDoorLeafD
namespace Go.Proofs.YtlhimdjkkiflhaaDoor
open Go.RowKit Go.Loop

set_option maxHeartbeats 400000 in
theorem refBegins_any (s p : ByteArray) (a : Nat) (w : World) (hs : s.size ≤ 1000000) (hp : p.size ≤ 1000000) (ha : a ≤ 1000002) :
    Calls Tryd.prog 75 #[.string s, .int .i64 a, .string p] w fun e w' => (∃ b : Bool, e = .returned (.bool b) ∧ (b = true → a + p.size ≤ s.size ∧ (s.extract a (a + p.size)).toList = p.toList)) ∧ w' = w := by
  by_cases h : a + p.size ≤ s.size
  · go_enter Tryd.func75, Tryd.ntmps75
    go_wp2_with fail
    go_ret
    exact ⟨⟨_, rfl, fun hb => ⟨h, by simpa using hb⟩⟩, rfl⟩
  · go_enter Tryd.func75, Tryd.ntmps75
    go_wp2_with fail
    go_ret
    exact ⟨rfl, rfl⟩

set_option maxHeartbeats 400000 in
theorem refComment_any (s : ByteArray) (a : Nat) (w : World) (hs : s.size ≤ 1000000) (ha : a + 2 ≤ s.size) :
    Calls Tryd.prog 76 #[.string s, .int .i64 a] w fun e w' => (∃ r : Int, e = .returned (.int .i64 r) ∧ (r = -1 ∨ (a : Int) + 2 ≤ r ∧ r ≤ s.size)) ∧ w' = w := by
  go_enter Tryd.func76, Tryd.ntmps76
  go_wp2_with fail
  go_loop [1, 5] (fun i d => ∃ k x : Nat, a + 2 ≤ k ∧ k ≤ s.size ∧ x ≤ k ∧ i = .int .i64 k ∧ d = .int .i64 x) (fun i _ => s.size - (intOf i).toNat)
  case atStart => exact ⟨a + 2, 1, Nat.le_refl _, by omega, by omega, by go_num, rfl⟩
  case round =>
    obtain ⟨k, x, hk0, hk, hx, rfl, rfl⟩ := hrel
    by_cases hx0 : 0 < x
    · go_wp2_with fail
      refine (refBegins_any _ _ _ _ hs (by decide) (by omega)).mono ?_
      rintro e w' ⟨⟨b1, rfl, hb1⟩, rfl⟩
      go_wp2_with fail
      refine (refBegins_any _ _ _ _ hs (by decide) (by omega)).mono ?_
      rintro e w' ⟨⟨b2, rfl, hb2⟩, rfl⟩
      have g1 : b1 = true → k + 2 ≤ s.size := fun h => (hb1 h).1
      have g2 : b2 = true → k + 2 ≤ s.size := fun h => (hb2 h).1
      clear hb1 hb2
      by_cases hlt : k < s.size
      · cases b1
        · cases b2
          · clear g1 g2
            go_wp2_with fail
            go_round
            case rel => exact ⟨k + 1, x, by omega, by omega, by omega, by go_num, rfl⟩
            case measure => simp [intOf]; omega
          · have g := g2 rfl
            clear g1 g2
            go_wp2_with fail
            go_round
            case rel => exact ⟨k + 2, x - 1, by omega, by omega, by omega, by go_num, by go_num⟩
            case measure => simp [intOf]; omega
        · have g := g1 rfl
          clear g1 g2
          go_wp2_with fail
          go_round
          case rel => exact ⟨k + 2, x + 1, by omega, by omega, by omega, by go_num, by go_num⟩
          case measure => simp [intOf]; omega
      · clear g1 g2
        go_wp2_with fail
        go_ret
        exact ⟨⟨_, rfl, Or.inl rfl⟩, rfl⟩
    · go_wp2_with fail
      go_ret
      exact ⟨⟨_, rfl, Or.inr ⟨by omega, by omega⟩⟩, rfl⟩

set_option maxHeartbeats 400000 in
theorem refDigits_any (s : ByteArray) (a : Nat) (w : World) (hs : s.size ≤ 1000000) (ha : a ≤ s.size) :
    Calls Tryd.prog 78 #[.string s, .int .i64 a] w fun e w' => (∃ n k : Nat, e = .returned (.tuple #[.int .i64 n, .int .i64 k]) ∧ n ≤ 1000001 ∧ a ≤ k ∧ k ≤ s.size) ∧ w' = w := by
  go_enter Tryd.func78, Tryd.ntmps78
  go_wp2_with fail
  go_loop [1, 6] (fun i d => ∃ k n : Nat, a ≤ k ∧ k ≤ s.size ∧ n ≤ 1000001 ∧ i = .int .i64 k ∧ d = .int .i64 n) (fun i _ => s.size - (intOf i).toNat)
  case atStart => exact ⟨a, 0, Nat.le_refl _, ha, by omega, rfl, rfl⟩
  case round =>
    obtain ⟨k, n, hk0, hk, hn, rfl, rfl⟩ := hrel
    by_cases hlt : k < s.size
    · cases hd : digB (s[k].toNat : Int)
      · go_wp2_with fail
        refine (refDigit_any _ _).mono ?_
        rw [hd]; rintro e w' ⟨rfl, rfl⟩
        go_wp2_with fail
        go_ret2
        exact ⟨⟨n, k, rfl, hn, hk0, hk⟩, rfl⟩
      · have hb : 48 ≤ (s[k].toNat : Int) ∧ (s[k].toNat : Int) ≤ 57 := by simpa [digB] using hd
        obtain ⟨hb1, hb2⟩ := hb
        go_wp2_with fail
        refine (refDigit_any _ _).mono ?_
        rw [hd]; rintro e w' ⟨rfl, rfl⟩
        go_wp2_with fail
        · go_round
          case rel => exact ⟨k + 1, 1000001, by omega, by omega, by omega, by go_num, by go_num⟩
          case measure => simp [intOf]; omega
        · go_round
          case rel => exact ⟨k + 1, (10 * n + (s[k].toNat - 48)), by omega, by omega, by omega, by go_num, by go_num⟩
          case measure => simp [intOf]; omega
    · go_wp2_with fail
      go_ret2
      exact ⟨⟨n, k, rfl, hn, hk0, hk⟩, rfl⟩

/-- what 'blanks' hands back: a place from a on -/
def BlOk (n a : Nat) (e : Ending) : Prop := ∃ (r : Nat) (ok : Bool), e = .returned (.tuple #[.int .i64 r, .bool ok]) ∧ a ≤ r ∧ r ≤ n
set_option maxHeartbeats 400000 in
theorem refBlanks_any (s : ByteArray) (a : Nat) (w : World) (hs : s.size ≤ 1000000) (ha : a ≤ s.size) :
    Calls Tryd.prog 61 #[.string s, .int .i64 a] w fun e w' => BlOk s.size a e ∧ w' = w := by
  go_enter Tryd.func61, Tryd.ntmps61
  go_wp2_with fail
  go_loop [1] (fun i => ∃ k : Nat, a ≤ k ∧ k ≤ s.size ∧ i = .int .i64 k) (fun i => s.size - (intOf i).toNat)
  case atStart => exact ⟨a, Nat.le_refl _, ha, rfl⟩
  case round =>
    obtain ⟨k, hk0, hk, rfl⟩ := hrel
    by_cases hlt : k < s.size
    · go_wp2_with fail
      refine (refBegins_any _ _ _ _ hs (by decide) (by omega)).mono ?_
      rintro e w' ⟨⟨b, rfl, hb⟩, rfl⟩
      have g : b = true → k + 2 ≤ s.size := fun h => (hb h).1
      clear hb
      cases h32 : ((s[k].toNat : Int) == 32)
      · cases h9 : ((s[k].toNat : Int) == 9)
        · cases h10 : ((s[k].toNat : Int) == 10)
          · cases h59 : ((s[k].toNat : Int) == 59)
            · cases b
              · clear g
                go_wp2_with fail
                go_ret2
                exact ⟨⟨k, true, rfl, hk0, hk⟩, rfl⟩
              · have g' := g rfl
                clear g
                go_wp2_with fail
                refine (refComment_any _ _ _ hs g').mono ?_
                rintro e w1 ⟨⟨r, rfl, hr⟩, rfl⟩
                by_cases hneg : r < 0
                · clear hr
                  go_wp2_with fail
                  go_ret2
                  exact ⟨⟨s.size, false, rfl, ha, Nat.le_refl _⟩, rfl⟩
                · obtain ⟨r', rfl⟩ := Int.eq_ofNat_of_zero_le (by omega : 0 ≤ r)
                  have hr1 : k + 2 ≤ r' ∧ r' ≤ s.size := by omega
                  obtain ⟨hr1, hr2⟩ := hr1
                  clear hr
                  go_wp2_with fail
                  go_round
                  case rel => exact ⟨r', by omega, hr2, rfl⟩
                  case measure => simp [intOf]; omega
            · clear g
              go_wp2_with fail
              go_loop [1] (fun i => ∃ m : Nat, k ≤ m ∧ m ≤ s.size ∧ i = .int .i64 m) (fun i => s.size - (intOf i).toNat)
              case atStart => exact ⟨k, Nat.le_refl _, hk, rfl⟩
              case round =>
                obtain ⟨m, hm0, hm, rfl⟩ := hrel
                by_cases hml : m < s.size
                · cases hne : ((s[m].toNat : Int) != 10)
                  · have hmk : k < m := by
                      rcases Nat.lt_or_eq_of_le hm0 with h | rfl
                      · exact h
                      · exfalso; simp at hne h59; omega
                    go_wp2_with fail
                    go_round
                    case rel => exact ⟨m, by omega, by omega, rfl⟩
                    case measure => simp [intOf]; omega
                  · go_wp2_with fail
                    go_round
                    case rel => exact ⟨m + 1, by omega, by omega, by go_num⟩
                    case measure => simp [intOf]; omega
                · have hmk : k < m := by omega
                  go_wp2_with fail
                  go_round
                  case rel => exact ⟨m, by omega, by omega, rfl⟩
                  case measure => simp [intOf]; omega
          · clear g
            go_wp2_with fail
            go_round
            case rel => exact ⟨k + 1, by omega, by omega, by go_num⟩
            case measure => simp [intOf]; omega
        · clear g
          go_wp2_with fail
          go_round
          case rel => exact ⟨k + 1, by omega, by omega, by go_num⟩
          case measure => simp [intOf]; omega
      · clear g
        go_wp2_with fail
        go_round
        case rel => exact ⟨k + 1, by omega, by omega, by go_num⟩
        case measure => simp [intOf]; omega
    · go_wp2_with fail
      go_ret2
      exact ⟨⟨k, true, rfl, hk0, hk⟩, rfl⟩
end Go.Proofs.YtlhimdjkkiflhaaDoor
