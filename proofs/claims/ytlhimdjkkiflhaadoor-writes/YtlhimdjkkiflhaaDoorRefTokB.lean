/- The document's tokens: those that are handed back. -/
import Derived.Test.YtlhimdjkkiflhaaDoorRefTokA
namespace Go.Proofs.YtlhimdjkkiflhaaDoor
open Go.RowKit Go.Loop

/-- a token as a value -/
def tokV (k f t : Int) (l : List UInt8) (n d : Int) : Value := .agg #[.int .u8 k, .int .i64 f, .int .i64 t, .string ⟨⟨l⟩⟩, .int .i64 n, .int .i64 d]
/-- some token; a symbol's text is a symbol -/
def TokOk (w : World) (e : Ending) (w' : World) : Prop :=
  ∃ (k f t : Int) (l : List UInt8) (n d : Int), e = .returned (tokV k f t l n d) ∧ (k = 119 → isSym l = true) ∧ Below w.heap.size w w'

section
attribute [local go_sem] ba_get0 ba_get ba_ext1 ba_ext2 ba_toList

set_option maxHeartbeats 400000 in
theorem refWordTok_sym (l : List UInt8) (a : Nat) (w : World) (hs : l.length ≤ 1000000) (ha : a ≤ 1000000) (hm : mustNum l = false) (hne : l.isEmpty = false) (hd : (l == [46]) = false) :
    Calls Tryd.prog 65 #[.string ⟨⟨l⟩⟩, .int .i64 a] w fun e w' => e = .returned (tokV 119 a (a + l.length) l 0 0) ∧ Below w.heap.size w w' := by
  go_enter Tryd.func65, Tryd.ntmps65
  go_wp2_with fail
  refine (refNumeric_any _ _ (by unfold maxLen; omega)).mono ?_
  rw [hm]; rintro e w' ⟨rfl, rfl⟩
  go_wp2_with fail
  exact bodyPost_ret (v := tokV 119 a (a + l.length) l 0 0) (by simp [results, Tryd.results65, tokV, go_sem]) rfl ⟨rfl, (Below.refl _ _).alloc (Nat.le_refl _) _⟩

def DgOk (n : Nat) (a : Int) (e : Ending) : Prop := ∃ v k : Nat, e = .returned (.tuple #[.int .i64 v, .int .i64 k]) ∧ v ≤ 1000001 ∧ a ≤ k ∧ k ≤ n
theorem refDigits_i (s : ByteArray) (a : Int) (w : World) (hs : s.size ≤ 1000000) (h0 : 0 ≤ a) (ha : a ≤ s.size) :
    Calls Tryd.prog 78 #[.string s, .int .i64 a] w fun e w' => DgOk s.size a e ∧ w' = w := by
  obtain ⟨k, rfl⟩ := Int.eq_ofNat_of_zero_le h0
  refine (refDigits_any s k w hs (by omega)).mono ?_
  rintro e w' ⟨⟨n, m, rfl, h1, h2, h3⟩, rfl⟩
  exact ⟨⟨n, m, rfl, h1, by omega, h3⟩, rfl⟩

set_option maxHeartbeats 1000000 in
theorem refWordTok_any (l : List UInt8) (a : Nat) (w : World) (hs : l.length ≤ 1000000) (ha : a ≤ 1000000) (hw : Hid (l.all wordU = true)) :
    Calls Tryd.prog 65 #[.string ⟨⟨l⟩⟩, .int .i64 a] w fun e w' => TokOk w e w' := by
  cases hne : l.isEmpty
  · cases hd : (l == [46])
    · cases hm : mustNum l
      · refine (refWordTok_sym l a w hs ha hm hne hd).mono ?_
        rintro e w' ⟨rfl, hb⟩
        exact ⟨_, _, _, _, _, _, rfl, fun _ => by simp [isSym, hne, hd, hm, hw.out], hb⟩
      · obtain ⟨c, r, rfl⟩ : ∃ c r, l = c :: r := by cases l with | nil => simp at hne | cons c r => exact ⟨c, r, rfl⟩
        have hsz : (ByteArray.mk (Array.mk (c :: r))).size = r.length + 1 := rfl
        simp at hs
        go_enter Tryd.func65, Tryd.ntmps65
        go_wp2_with fail
        refine (refNumeric_any _ _ (by unfold maxLen; simp; omega)).mono ?_
        rw [hm]; rintro e w' ⟨rfl, rfl⟩
        have h3 : ((c.toNat : Int) == 43) = true ∨ (((c.toNat : Int) == 43) = false ∧ ((c.toNat : Int) == 45) = true) ∨ (((c.toNat : Int) == 43) = false ∧ ((c.toNat : Int) == 45) = false) := by
          cases ((c.toNat : Int) == 43) <;> cases ((c.toNat : Int) == 45) <;> simp
        rcases h3 with h43 | ⟨h43, h45⟩ | ⟨h43, h45⟩
        all_goals
          go_wp2_with fail
          refine (refDigits_i _ _ _ (by omega) (by omega) (by omega)).mono ?_
          rintro e w1 ⟨⟨n, k, rfl, hn, hk0, hk⟩, rfl⟩
          rw [hsz] at hk
          by_cases he : (k : Int) = r.length + 1
          · have hkb : ((k : Int) == (r.length : Int) + 1) = true := by simpa using he
            clear he
            go_wp2_with fail
            all_goals
              refine bodyPost_ret (by simp [results, Tryd.results65, go_sem]; rfl) rfl ?_
              exact ⟨_, _, _, _, _, _, rfl, by omega, ((Below.refl _ _).alloc (Nat.le_refl _) _).alloc (by simp) _⟩
          · have hkb : ((k : Int) == (r.length : Int) + 1) = false := by simpa using he
            have hkl : k < r.length + 1 := by omega
            clear he
            go_wp2_with fail
            refine (refDigits_i _ _ _ (by omega) (by omega) (by omega)).mono ?_
            rintro e w1 ⟨⟨n2, k2, rfl, hn2, hk02, hk2⟩, rfl⟩
            rw [hsz] at hk2
            go_wp2_with fail
            all_goals
              refine bodyPost_ret (by simp [results, Tryd.results65, go_sem]; rfl) rfl ?_
              exact ⟨_, _, _, _, _, _, rfl, by omega, ((Below.refl _ _).alloc (Nat.le_refl _) _).alloc (by simp) _⟩
    · have hl : l = [46] := by simpa using hd
      subst hl
      go_enter Tryd.func65, Tryd.ntmps65
      go_wp2_with fail
      refine (refNumeric_any _ _ (by decide)).mono ?_
      rintro e w' ⟨rfl, rfl⟩
      go_wp2_with fail
      exact bodyPost_ret (v := tokV 46 a (a + 1) [] 0 0) (by simp [results, Tryd.results65, tokV, go_sem]) rfl ⟨_, _, _, _, _, _, rfl, by omega, (Below.refl _ _).alloc (Nat.le_refl _) _⟩
  · have hl : l = [] := by simpa using hne
    subst hl
    go_enter Tryd.func65, Tryd.ntmps65
    go_wp2_with fail
    refine (refNumeric_any _ _ (by decide)).mono ?_
    rintro e w' ⟨rfl, rfl⟩
    go_wp2_with fail
    exact bodyPost_ret (v := tokV 120 a 0 [] 0 0) (by simp [results, Tryd.results65, tokV, go_sem]) rfl ⟨_, _, _, _, _, _, rfl, by omega, (Below.refl _ _).alloc (Nat.le_refl _) _⟩
end
end Go.Proofs.YtlhimdjkkiflhaaDoor
