/- Symbols and characters. -/
import Derived.Test.YtlhimdjkkiflhaaDoorLeafB
import Derived.Test.YtlhimdjkkiflhaaDoorLeafC
namespace Go.Proofs.YtlhimdjkkiflhaaDoor
open Go.RowKit Go.Loop
theorem ba_get (l : List UInt8) (k : Nat) (h : k < (ByteArray.mk (Array.mk l)).size) : (ByteArray.mk (Array.mk l))[k]'h = l[k]'h := rfl
theorem take_all_snoc (l : List UInt8) (k : Nat) (h : k < l.length) (p : UInt8 → Bool) : (l.take (k + 1)).all p = ((l.take k).all p && p l[k]) := by
  rw [List.take_succ_eq_append_getElem h, List.all_append, List.all_cons, List.all_nil, Bool.and_true]
section
attribute [local go_sem] ba_get0 ba_get ba_ext1 ba_ext2 ba_toList

theorem isSym_eq (l : List UInt8) (h1 : l.isEmpty = false) (h2 : (l == [46]) = false) (h3 : mustNum l = false) : ((runL wordB l : Nat) == l.length) = isSym l := by
  unfold isSym; rw [h1, h2, h3]; simp only [Bool.not_false, Bool.true_and]
  rw [show (l.all wordU) = l.all (fun c => wordB (c.toNat : Int)) from rfl, ← runL_all, Bool.eq_iff_iff]; simp

set_option maxHeartbeats 400000 in
theorem isSymbol_any (l : List UInt8) (w : World) (hs : l.length ≤ maxLen) :
    Calls Tryd.prog 34 #[.string ⟨⟨l⟩⟩] w fun e w' => e = .returned (.bool (isSym l)) ∧ w' = w := by
  cases l with
  | nil =>
    go_enter Tryd.func34, Tryd.ntmps34
    go_wp2_with fail
    go_ret
    exact ⟨rfl, rfl⟩
  | cons c r =>
  cases h2 : ((c :: r) == [46])
  · have H2 : Hid (((c :: r) == [46]) = false) := h2
    have h2' : ¬ (c :: r) = [46] := by simpa using h2
    have hsz : (ByteArray.mk (Array.mk (c :: r))).size ≤ maxLen := hs
    cases h3 : mustNum (c :: r)
    · have H3 := isSym_eq (c :: r) rfl h2 h3
      have H : Hid ((((runL wordB (c :: r) : Nat) : Int) == (r.length : Int) + 1) = isSym (c :: r)) := by
        show _ = _; rw [← H3, Bool.eq_iff_iff]; simp; omega
      clear H3
      go_enter Tryd.func34, Tryd.ntmps34
      go_wp2_with fail
      refine (mustBeNumber_any _ _ _ hs).mono ?_
      rw [h3]; rintro e w' ⟨rfl, rfl⟩
      go_wp2_with fail
      refine (runEnd_word _ _ _ hsz (by omega) (by omega)).mono ?_
      rintro e w' ⟨rfl, rfl⟩
      simp only [Int.toNat_zero, List.drop_zero, Int.zero_add]
      go_wp2_with fail
      go_ret
      exact ⟨ret_bool H.out, rfl⟩
    · have H : Hid (isSym (c :: r) = false) := by show _ = _; simp [isSym, h3]
      go_enter Tryd.func34, Tryd.ntmps34
      go_wp2_with fail
      refine (mustBeNumber_any _ _ _ hs).mono ?_
      rw [h3]; rintro e w' ⟨rfl, rfl⟩
      go_wp2_with fail
      go_ret
      exact ⟨ret_bool H.out.symm, rfl⟩
  · have h2' : (c :: r) = [46] := by simpa using h2
    rw [h2']
    go_enter Tryd.func34, Tryd.ntmps34
    go_wp2_with fail
    go_ret
    exact ⟨rfl, rfl⟩

set_option maxHeartbeats 400000 in
theorem refSymbol_any (l : List UInt8) (w : World) (hs : l.length ≤ maxLen) :
    Calls Tryd.prog 45 #[.string ⟨⟨l⟩⟩] w fun e w' => e = .returned (.bool (isSym l)) ∧ w' = w := by
  have hz : (ByteArray.mk (Array.mk l)).size = l.length := rfl
  have hs' := hs
  unfold maxLen at hs
  go_enter Tryd.func45, Tryd.ntmps45
  go_wp2_with fail
  go_loop [3] (fun i => ∃ k : Nat, k ≤ l.length ∧ i = .int .i64 k ∧ Hid ((l.take k).all wordU = true)) (fun i => l.length - (intOf i).toNat)
  case atStart => exact ⟨0, Nat.zero_le _, rfl, rfl⟩
  case round =>
    obtain ⟨k, hk, rfl, hr⟩ := hrel
    by_cases hlt : k < l.length
    · have H : Hid ((l.take (k + 1)).all wordU = ((l.take k).all wordU && wordU l[k])) := by
        exact take_all_snoc l k hlt wordU
      cases hw : wordB (l[k].toNat : Int)
      · have HF : Hid (isSym l = false) := by
          show _ = _
          have : l.all wordU = false := by rw [List.all_eq_false]; exact ⟨l[k], List.getElem_mem hlt, by simp [wordU, hw]⟩
          simp [isSym, this]
        go_wp2_with fail
        refine (refWord_any _ _).mono ?_
        rw [hw]; rintro e w' ⟨rfl, rfl⟩
        go_wp2_with fail
        go_ret
        exact ⟨ret_bool HF.out.symm, rfl⟩
      · go_wp2_with fail
        refine (refWord_any _ _).mono ?_
        rw [hw]; rintro e w' ⟨rfl, rfl⟩
        go_wp2_with fail
        go_round
        case rel => exact ⟨k + 1, by omega, by go_num, by show _ = _; rw [H.out, hr.out]; simpa [wordU] using hw⟩
        case measure => simp [intOf]; omega
    · have ha : l.all wordU = true := by have := hr.out; rwa [List.take_of_length_le (by omega)] at this
      have HA : Hid (l.all wordU = true) := ha
      clear ha hr
      go_wp2_with fail
      refine (refNumeric_any _ _ hs').mono ?_
      rintro e w' ⟨rfl, rfl⟩
      cases l with
      | nil =>
        go_wp2_with fail
        go_ret
        exact ⟨rfl, rfl⟩
      | cons c r =>
        cases h2 : ((c :: r) == [46])
        · have h2' : ¬ (c :: r) = [46] := by simpa using h2
          have H : Hid (isSym (c :: r) = !mustNum (c :: r)) := by show _ = _; unfold isSym; rw [h2, HA.out]; simp
          go_wp2_with fail
          go_ret
          refine ⟨ret_bool ?_, rfl⟩
          rw [H.out]
        · have h2' : (c :: r) = [46] := by simpa using h2
          simp at h2'
          obtain ⟨rfl, rfl⟩ := h2'
          go_wp2_with fail
          go_ret
          exact ⟨rfl, rfl⟩

set_option maxHeartbeats 400000 in
theorem nameOf_any (n : Int) (w : World) :
    Calls Tryd.prog 52 #[.int .i64 n] w fun e w' => e = .returned (.tuple #[.string ⟨⟨nameOf n⟩⟩, .bool (hasName n)]) ∧ w' = w := by
  go_enter Tryd.func52, Tryd.ntmps52
  go_wp2_with fail
  all_goals
    go_ret2
    refine ⟨?_, rfl⟩
    simp_all [nameOf, hasName]

set_option maxHeartbeats 400000 in
theorem isOwnChar_any (n : Int) (w : World) :
    Calls Tryd.prog 53 #[.int .i64 n] w fun e w' => e = .returned (.bool (decide (33 ≤ n ∧ n ≤ 126))) ∧ w' = w := by
  go_enter Tryd.func53, Tryd.ntmps53
  go_wp2_with fail
  all_goals
    go_ret
    exact ⟨ret_bool (by simp; try omega), rfl⟩

set_option maxHeartbeats 400000 in
theorem isChar_any (n : Int) (w : World) :
    Calls Tryd.prog 36 #[.int .i64 n] w fun e w' => e = .returned (.bool (charB n)) ∧ w' = w := by
  cases h : hasName n
  · go_enter Tryd.func36, Tryd.ntmps36
    go_wp2_with fail
    refine (nameOf_any _ _).mono ?_
    rw [h]; rintro e w' ⟨rfl, rfl⟩
    go_wp2_with fail
    refine (isOwnChar_any _ _).mono ?_
    rintro e w' ⟨rfl, rfl⟩
    go_wp2_with fail
    go_ret
    exact ⟨ret_bool (by simp [charB, h]), rfl⟩
  · go_enter Tryd.func36, Tryd.ntmps36
    go_wp2_with fail
    refine (nameOf_any _ _).mono ?_
    rw [h]; rintro e w' ⟨rfl, rfl⟩
    go_wp2_with fail
    go_ret
    exact ⟨ret_bool (by simp [charB, h]), rfl⟩

set_option maxHeartbeats 400000 in
theorem refCode_any (l : List UInt8) (w : World) :
    Calls Tryd.prog 67 #[.string ⟨⟨l⟩⟩] w fun e w' => e = .returned (.int .i64 (codeOf l)) ∧ w' = w := by
  go_enter Tryd.func67, Tryd.ntmps67
  go_wp2_with fail
  all_goals
    go_ret
    refine ⟨ret_int ?_, rfl⟩
    simp_all [codeOf]

set_option maxHeartbeats 400000 in
theorem bare_any (l : List UInt8) (n d : Int) (a : Option Addr) (len cap : Nat) (w : World) :
    Calls Tryd.prog 33 #[.string ⟨⟨l⟩⟩, .int .i64 n, .int .i64 d, .slice a len cap] w fun e w' => e = .returned (.bool (decide (l = [] ∧ n = 0 ∧ d = 0 ∧ len = 0))) ∧ w' = w := by
  go_enter Tryd.func33, Tryd.ntmps33
  go_wp2_with fail
  all_goals
    go_ret
    refine ⟨ret_bool ?_, rfl⟩
    first | (simp_all; done) | (simp_all; rw [Bool.eq_iff_iff]; simp)

theorem ret_strl {a b : List UInt8} (h : a = b) : Ending.returned (.string ⟨⟨a⟩⟩) = .returned (.string ⟨⟨b⟩⟩) := by rw [h]
/-- the six names, in the order of the document's own list -/
def nameAt (k : Nat) : List UInt8 := [[115, 112, 97, 99, 101], [110, 101, 119, 108, 105, 110, 101], [116, 97, 98], [110, 117, 108], [100, 101, 108, 101, 116, 101], [101, 115, 99, 97, 112, 101]].getD k []
theorem nameAt_code : ∀ k, k < 6 → nameOf (codeOf (nameAt k)) = nameAt k := by decide +kernel
theorem nameAt_none (n : Int) (h : ∀ j, j < 6 → codeOf (nameAt j) ≠ n) : nameOf n = [] := by
  have h0 := h 0 (by omega); have h1 := h 1 (by omega); have h2 := h 2 (by omega); have h3 := h 3 (by omega); have h4 := h 4 (by omega); have h5 := h 5 (by omega)
  rw [show codeOf (nameAt 0) = 32 from by decide +kernel] at h0
  rw [show codeOf (nameAt 1) = 10 from by decide +kernel] at h1
  rw [show codeOf (nameAt 2) = 9 from by decide +kernel] at h2
  rw [show codeOf (nameAt 3) = 0 from by decide +kernel] at h3
  rw [show codeOf (nameAt 4) = 127 from by decide +kernel] at h4
  rw [show codeOf (nameAt 5) = 27 from by decide +kernel] at h5
  unfold nameOf
  rw [if_neg (fun e => h0 e.symm), if_neg (fun e => h1 e.symm), if_neg (fun e => h2 e.symm), if_neg (fun e => h3 e.symm), if_neg (fun e => h4 e.symm), if_neg (fun e => h5 e.symm)]

theorem names_cell (w : World) (k : Nat) (h : k < 6) : (w.alloc (Obj.cells #[.string ⟨#[115, 112, 97, 99, 101]⟩, .string ⟨#[110, 101, 119, 108, 105, 110, 101]⟩, .string ⟨#[116, 97, 98]⟩, .string ⟨#[110, 117, 108]⟩, .string ⟨#[100, 101, 108, 101, 116, 101]⟩, .string ⟨#[101, 115, 99, 97, 112, 101]⟩] 9)).cell? ⟨w.heap.size, k, none⟩ = some (.string ⟨⟨nameAt k⟩⟩) := by
  have : k = 0 ∨ k = 1 ∨ k = 2 ∨ k = 3 ∨ k = 4 ∨ k = 5 := by omega
  rcases this with rfl | rfl | rfl | rfl | rfl | rfl <;> simp [World.cell?_alloc_at] <;> rfl

set_option maxHeartbeats 400000 in
theorem refName_any (n : Int) (w : World) :
    Calls Tryd.prog 47 #[.int .i64 n] w fun e w' => e = .returned (.string ⟨⟨nameOf n⟩⟩) ∧ Below w.heap.size w w' := by
  have HC := names_cell w
  have hbel : Below w.heap.size w (w.alloc (Obj.cells #[.string ⟨#[115, 112, 97, 99, 101]⟩, .string ⟨#[110, 101, 119, 108, 105, 110, 101]⟩, .string ⟨#[116, 97, 98]⟩, .string ⟨#[110, 117, 108]⟩, .string ⟨#[100, 101, 108, 101, 116, 101]⟩, .string ⟨#[101, 115, 99, 97, 112, 101]⟩] 9)) := (Below.refl _ _).alloc (Nat.le_refl _) _
  have HCh : Hid _ := HC
  clear HC
  go_enter Tryd.func47, Tryd.ntmps47
  go_wp2_with fail
  generalize (w.alloc (Obj.cells #[.string ⟨#[115, 112, 97, 99, 101]⟩, .string ⟨#[110, 101, 119, 108, 105, 110, 101]⟩, .string ⟨#[116, 97, 98]⟩, .string ⟨#[110, 117, 108]⟩, .string ⟨#[100, 101, 108, 101, 116, 101]⟩, .string ⟨#[101, 115, 99, 97, 112, 101]⟩] 9)) = W at *
  go_loop [4] (fun i => ∃ k : Nat, k ≤ 6 ∧ i = .int .i64 k ∧ Hid (∀ j, j < k → codeOf (nameAt j) ≠ n)) (fun i => 6 - (intOf i).toNat)
  case atStart => exact ⟨0, Nat.zero_le _, rfl, fun j hj => by omega⟩
  case round =>
    obtain ⟨k, hk, rfl, hr⟩ := hrel
    by_cases hlt : k < 6
    · have hcell := HCh.out k hlt
      cases hc : (codeOf (nameAt k) == n)
      · have H : Hid (∀ j, j < k + 1 → codeOf (nameAt j) ≠ n) := by
          intro j hj
          by_cases e : j = k
          · subst e; simpa using hc
          · exact hr.out j (by omega)
        go_wp2_with fail
        refine (refCode_any _ _).mono ?_
        rintro e w' ⟨rfl, rfl⟩
        go_wp2_with fail
        go_round
        case rel => exact ⟨k + 1, by omega, by go_num, H.out⟩
        case measure => simp [intOf]; omega
      · have H : Hid (nameOf n = nameAt k) := by show _ = _; rw [← nameAt_code k hlt, show codeOf (nameAt k) = n by simpa using hc]
        go_wp2_with fail
        refine (refCode_any _ _).mono ?_
        rintro e w' ⟨rfl, rfl⟩
        go_wp2_with fail
        go_ret
        exact ⟨ret_strl H.out.symm, hbel⟩
    · have H : Hid (nameOf n = []) := nameAt_none n (fun j hj => hr.out j (by omega))
      go_wp2_with fail
      go_ret
      exact ⟨ret_strl H.out.symm, hbel⟩
end
end Go.Proofs.YtlhimdjkkiflhaaDoor
