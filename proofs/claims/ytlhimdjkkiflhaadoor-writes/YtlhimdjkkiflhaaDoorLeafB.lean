/- Functions over texts that only read. -/
import Derived.Test.YtlhimdjkkiflhaaDoorLeafA
namespace Go.Proofs.YtlhimdjkkiflhaaDoor
open Go.RowKit Go.Loop

theorem take_snoc (s : ByteArray) (k : Nat) (h : k < s.size) : s.data.toList.take (k + 1) = s.data.toList.take k ++ [s[k]] := by
  rw [List.take_succ_eq_append_getElem (by simpa using h)]; rfl
theorem take_all (s : ByteArray) (k : Nat) (h : s.size ≤ k) : s.data.toList.take k = s.data.toList := List.take_of_length_le (by simpa using h)

set_option maxHeartbeats 400000 in
theorem refHas_any (s : ByteArray) (c : Int) (w : World) (hs : s.size ≤ maxLen) :
    Calls Tryd.prog 81 #[.string s, .int .u8 c] w fun e w' => e = .returned (.bool (hasB s.data.toList c)) ∧ w' = w := by
  unfold maxLen at hs
  go_enter Tryd.func81, Tryd.ntmps81
  go_wp2
  go_loop [5] (fun i => ∃ k : Nat, k ≤ s.size ∧ i = .int .i64 k ∧ Hid (hasB (s.data.toList.take k) c = false)) (fun i => s.size - (intOf i).toNat)
  case atStart => exact ⟨0, Nat.zero_le _, rfl, rfl⟩
  case round =>
    obtain ⟨k, hk, rfl, hr⟩ := hrel
    by_cases hlt : k < s.size
    · have H : Hid (hasB (s.data.toList.take (k+1)) c = (hasB (s.data.toList.take k) c || decide ((s[k].toNat : Int) = c))) := by
        have := hasB_snoc (s.data.toList.take k) s[k] c
        rw [← take_snoc s k hlt] at this; exact this
      have H2 : Hid (hasB (s.data.toList.take (k+1)) c = true → hasB s.data.toList c = true) := by
        intro h; unfold hasB at *; rw [List.any_eq_true] at *; obtain ⟨x, hx, hy⟩ := h; exact ⟨x, List.mem_of_mem_take hx, hy⟩
      by_cases hc : (s[k].toNat : Int) = c
      · have hcb : ((s[k].toNat : Int) == c) = true := by simpa using hc
        have HC : Hid ((s[k].toNat : Int) = c) := hc
        clear hc
        go_wp2
        go_ret
        refine ⟨ret_bool ?_, rfl⟩
        symm; apply H2.out; rw [H.out, HC.out]; simp
      · have hcb : ((s[k].toNat : Int) == c) = false := by simpa using hc
        go_wp2
        go_round
        case rel => exact ⟨k + 1, by omega, by go_num, by show _ = false; rw [H.out, hr.out]; simpa using hc⟩
        case measure => simp [intOf]; omega
    · go_wp2
      go_ret
      refine ⟨ret_bool ?_, rfl⟩
      rw [← hr.out, take_all s k (by omega)]

theorem signs_has (c : Int) : hasB [43, 45, 42, 47, 60, 62, 61, 63, 33, 46, 95] c = signB c := by
  unfold hasB signB; rw [Bool.eq_iff_iff]
  simp only [List.any_cons, List.any_nil, Bool.or_eq_true, decide_eq_true_eq, Bool.or_false]
  simp only [UInt8.reduceToNat]
  omega

set_option maxHeartbeats 400000 in
theorem refWord_any (c : Int) (w : World) :
    Calls Tryd.prog 64 #[.int .u8 c] w fun e w' => e = .returned (.bool (wordB c)) ∧ w' = w := by
  cases hd : digB c
  · cases hl : letB c
    · go_enter Tryd.func64, Tryd.ntmps64
      go_wp2_with (first | (go_at_call 79; refine (refDigit_any _ _).mono ?_; rw [hd]; rintro e w' ⟨rfl, rfl⟩) | (go_at_call 80; refine (refLetter_any _ _).mono ?_; rw [hl]; rintro e w' ⟨rfl, rfl⟩) | (go_at_call 81; refine (refHas_any _ _ _ (by decide +kernel)).mono ?_; rintro e w' ⟨rfl, rfl⟩))
      go_ret
      refine ⟨ret_bool ?_, rfl⟩
      simp only [wordB, hl, hd, Bool.false_or]; exact signs_has c
    · go_enter Tryd.func64, Tryd.ntmps64
      go_wp2_with (first | (go_at_call 79; refine (refDigit_any _ _).mono ?_; rw [hd]; rintro e w' ⟨rfl, rfl⟩) | (go_at_call 80; refine (refLetter_any _ _).mono ?_; rw [hl]; rintro e w' ⟨rfl, rfl⟩))
      go_ret
      refine ⟨ret_bool ?_, rfl⟩
      simp [wordB, hl]
  · go_enter Tryd.func64, Tryd.ntmps64
    go_wp2_with (first | (go_at_call 79; refine (refDigit_any _ _).mono ?_; rw [hd]; rintro e w' ⟨rfl, rfl⟩) | (go_at_call 80; refine (refLetter_any _ _).mono ?_; rintro e w' ⟨rfl, rfl⟩))
    go_ret
    refine ⟨ret_bool ?_, rfl⟩
    simp [wordB, hd]

theorem ba_get0 (c : UInt8) (r : List UInt8) (h : 0 < (ByteArray.mk (Array.mk (c :: r))).size) : (ByteArray.mk (Array.mk (c :: r)))[0]'h = c := rfl
theorem ba_ext1 (c : UInt8) (r : List UInt8) : (ByteArray.mk (Array.mk (c :: r))).extract 1 (r.length + 1) = ⟨⟨r⟩⟩ := by
  apply ByteArray.ext; simp
theorem ba_ext2 (c d : UInt8) (r : List UInt8) : (ByteArray.mk (Array.mk (c :: d :: r))).extract 1 (r.length + 1 + 1) = ⟨⟨d :: r⟩⟩ := ba_ext1 c (d :: r)
theorem ba_toList (r : List UInt8) : (ByteArray.mk (Array.mk r)).toList = r := by simp
section
attribute [local go_sem] ba_get0 ba_ext1 ba_ext2 ba_toList

set_option maxHeartbeats 400000 in
theorem mustBeNumber_any (c : UInt8) (r : List UInt8) (w : World) (hs : (c :: r).length ≤ maxLen) :
    Calls Tryd.prog 48 #[.string ⟨⟨c :: r⟩⟩] w fun e w' => e = .returned (.bool (mustNum (c :: r))) ∧ w' = w := by
  unfold maxLen at hs
  simp at hs
  cases hp : ((c.toNat : Int) == 43)
  · cases hm : ((c.toNat : Int) == 45)
    · have H : Hid (mustNum (c :: r) = digB (c.toNat : Int)) := by
        simp at hp hm; exact mustNum_plain c r hp hm
      go_enter Tryd.func48, Tryd.ntmps48
      go_wp2_with (go_at_call 68; refine (isDigit_any _ _).mono ?_; rintro e w' ⟨rfl, rfl⟩)
      go_ret
      exact ⟨ret_bool H.out.symm, rfl⟩
    · cases r with
      | nil =>
        have H : Hid (mustNum [c] = false) := by simp at hm; exact mustNum_sign0 c (Or.inr hm)
        go_enter Tryd.func48, Tryd.ntmps48
        go_wp2_with (go_at_call 68; refine (isDigit_any _ _).mono ?_; rintro e w' ⟨rfl, rfl⟩)
        go_ret
        exact ⟨ret_bool H.out.symm, rfl⟩
      | cons d r =>
        have H : Hid (mustNum (c :: d :: r) = digB (d.toNat : Int)) := by
          simp at hm; exact mustNum_sign1 c d r (Or.inr hm)
        simp at hs
        go_enter Tryd.func48, Tryd.ntmps48
        go_wp2_with (go_at_call 68; refine (isDigit_any _ _).mono ?_; rintro e w' ⟨rfl, rfl⟩)
        go_ret
        exact ⟨ret_bool H.out.symm, rfl⟩
  · cases r with
      | nil =>
        have H : Hid (mustNum [c] = false) := by simp at hp; exact mustNum_sign0 c (Or.inl hp)
        go_enter Tryd.func48, Tryd.ntmps48
        go_wp2_with (go_at_call 68; refine (isDigit_any _ _).mono ?_; rintro e w' ⟨rfl, rfl⟩)
        go_ret
        exact ⟨ret_bool H.out.symm, rfl⟩
      | cons d r =>
        have H : Hid (mustNum (c :: d :: r) = digB (d.toNat : Int)) := by
          simp at hp; exact mustNum_sign1 c d r (Or.inl hp)
        simp at hs
        go_enter Tryd.func48, Tryd.ntmps48
        go_wp2_with (go_at_call 68; refine (isDigit_any _ _).mono ?_; rintro e w' ⟨rfl, rfl⟩)
        go_ret
        exact ⟨ret_bool H.out.symm, rfl⟩

set_option maxHeartbeats 400000 in
theorem refNumeric_any (l : List UInt8) (w : World) (hs : l.length ≤ maxLen) :
    Calls Tryd.prog 66 #[.string ⟨⟨l⟩⟩] w fun e w' => e = .returned (.bool (mustNum l)) ∧ w' = w := by
  unfold maxLen at hs
  cases l with
  | nil =>
    go_enter Tryd.func66, Tryd.ntmps66
    go_wp2_with (go_at_call 79; refine (refDigit_any _ _).mono ?_; rintro e w' ⟨rfl, rfl⟩)
    go_ret
    exact ⟨rfl, rfl⟩
  | cons c r =>
  simp at hs
  cases hp : ((c.toNat : Int) == 43)
  · cases hm : ((c.toNat : Int) == 45)
    · have H : Hid (mustNum (c :: r) = digB (c.toNat : Int)) := by
        simp at hp hm; exact mustNum_plain c r hp hm
      go_enter Tryd.func66, Tryd.ntmps66
      go_wp2_with (go_at_call 79; refine (refDigit_any _ _).mono ?_; rintro e w' ⟨rfl, rfl⟩)
      go_ret
      exact ⟨ret_bool H.out.symm, rfl⟩
    · cases r with
      | nil =>
        have H : Hid (mustNum [c] = false) := by simp at hm; exact mustNum_sign0 c (Or.inr hm)
        go_enter Tryd.func66, Tryd.ntmps66
        go_wp2_with (go_at_call 79; refine (refDigit_any _ _).mono ?_; rintro e w' ⟨rfl, rfl⟩)
        go_ret
        exact ⟨ret_bool H.out.symm, rfl⟩
      | cons d r =>
        have H : Hid (mustNum (c :: d :: r) = digB (d.toNat : Int)) := by
          simp at hm; exact mustNum_sign1 c d r (Or.inr hm)
        simp at hs
        go_enter Tryd.func66, Tryd.ntmps66
        go_wp2_with (go_at_call 79; refine (refDigit_any _ _).mono ?_; rintro e w' ⟨rfl, rfl⟩)
        go_ret
        exact ⟨ret_bool H.out.symm, rfl⟩
  · cases r with
      | nil =>
        have H : Hid (mustNum [c] = false) := by simp at hp; exact mustNum_sign0 c (Or.inl hp)
        go_enter Tryd.func66, Tryd.ntmps66
        go_wp2_with (go_at_call 79; refine (refDigit_any _ _).mono ?_; rintro e w' ⟨rfl, rfl⟩)
        go_ret
        exact ⟨ret_bool H.out.symm, rfl⟩
      | cons d r =>
        have H : Hid (mustNum (c :: d :: r) = digB (d.toNat : Int)) := by
          simp at hp; exact mustNum_sign1 c d r (Or.inl hp)
        simp at hs
        go_enter Tryd.func66, Tryd.ntmps66
        go_wp2_with (go_at_call 79; refine (refDigit_any _ _).mono ?_; rintro e w' ⟨rfl, rfl⟩)
        go_ret
        exact ⟨ret_bool H.out.symm, rfl⟩
end

/-- how a text's bytes that are all of a sort end: from a place on -/
theorem runL_snoc (p : Int → Bool) (a b : List UInt8) (h : a.all (fun c => p (c.toNat : Int)) = true) : runL p (a ++ b) = a.length + runL p b := by
  induction a with
  | nil => simp
  | cons c r ih =>
    simp at h
    simp only [List.cons_append, runL, h.1, if_true, ih (by simpa using h.2), List.length_cons]; omega

set_option maxHeartbeats 400000 in
theorem runEnd_word (s : ByteArray) (at0 : Int) (w : World) (hs : s.size ≤ maxLen) (h0 : 0 ≤ at0) (h1 : at0 ≤ s.size) :
    Calls Tryd.prog 49 #[.string s, .int .i64 at0, .func (.func 50) #[] #[]] w fun e w' => e = .returned (.int .i64 (at0 + runL wordB (s.data.toList.drop at0.toNat))) ∧ w' = w := by
  unfold maxLen at hs
  obtain ⟨a, rfl⟩ := Int.eq_ofNat_of_zero_le h0
  rw [Int.toNat_natCast]
  go_enter Tryd.func49, Tryd.ntmps49
  go_wp2_with fail
  go_loop [1] (fun i => ∃ k : Nat, a ≤ k ∧ k ≤ s.size ∧ i = .int .i64 k ∧ Hid ((a : Int) + runL wordB (s.data.toList.drop a) = (k : Int) + runL wordB (s.data.toList.drop k))) (fun i => s.size - (intOf i).toNat)
  case atStart => exact ⟨a, Nat.le_refl _, by omega, rfl, rfl⟩
  case round =>
    obtain ⟨k, hk0, hk, rfl, hr⟩ := hrel
    by_cases hlt : k < s.size
    · have hd : Hid (s.data.toList.drop k = s[k] :: s.data.toList.drop (k + 1)) := by show _ = _; rw [List.drop_eq_getElem_cons (by simpa using hlt)]; rfl
      cases hp : wordB (s[k].toNat : Int)
      · have H : Hid (runL wordB (s.data.toList.drop k) = 0) := by show _ = _; rw [hd.out]; simp [runL, hp]
        go_wp2_with fail
        refine (isWordByte_any _ _ (by omega) (by have := s[k].toNat_lt; omega)).mono ?_
        rw [hp]; rintro e w' ⟨rfl, rfl⟩
        go_wp2_with fail
        go_ret
        refine ⟨ret_int ?_, rfl⟩
        rw [hr.out, H.out]; simp
      · have H : Hid (runL wordB (s.data.toList.drop k) = runL wordB (s.data.toList.drop (k + 1)) + 1) := by show _ = _; rw [hd.out]; simp [runL, hp]
        go_wp2_with fail
        refine (isWordByte_any _ _ (by omega) (by have := s[k].toNat_lt; omega)).mono ?_
        rw [hp]; rintro e w' ⟨rfl, rfl⟩
        go_wp2_with fail
        go_round
        case rel => exact ⟨k + 1, by omega, by omega, by go_num, by show _ = _; rw [hr.out, H.out]; omega⟩
        case measure => simp [intOf]; omega
    · have H : Hid (runL wordB (s.data.toList.drop k) = 0) := by show _ = _; rw [List.drop_of_length_le (by simp; omega)]; rfl
      go_wp2_with fail
      go_ret
      refine ⟨ret_int ?_, rfl⟩
      rw [hr.out, H.out]; simp
end Go.Proofs.YtlhimdjkkiflhaaDoor
