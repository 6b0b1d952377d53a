/- The document's tokens: a symbol that stands alone is read as itself. -/
import Derived.Test.YtlhimdjkkiflhaaDoorRefLook
namespace Go.Proofs.YtlhimdjkkiflhaaDoor
open Go.RowKit Go.Loop

theorem isSym_parts (T : List UInt8) (h : isSym T = true) : T.isEmpty = false ∧ (T == [46]) = false ∧ mustNum T = false ∧ T.all wordU = true := by
  unfold isSym at h
  simp only [Bool.and_eq_true, Bool.not_eq_true'] at h
  exact ⟨h.1.1.1, h.1.1.2, h.1.2, h.2⟩
theorem sym_get (T : List UInt8) (k : Nat) (hk : k < T.length) (h : k < (ByteArray.mk (Array.mk (T ++ [32]))).size) (hT : T.all wordU = true) : wordB (((ByteArray.mk (Array.mk (T ++ [32])))[k]'h).toNat : Int) = true := by
  have : (ByteArray.mk (Array.mk (T ++ [32])))[k]'h = T[k] := by
    show (T ++ [32])[k]'_ = T[k]
    rw [List.getElem_append_left hk]
  rw [this]
  exact List.all_eq_true.1 hT _ (List.getElem_mem hk)
theorem sym_last (T : List UInt8) (h : T.length < (ByteArray.mk (Array.mk (T ++ [32]))).size) : wordB (((ByteArray.mk (Array.mk (T ++ [32])))[T.length]'h).toNat : Int) = false := by
  have : (ByteArray.mk (Array.mk (T ++ [32])))[T.length]'h = 32 := by
    show (T ++ [32])[T.length]'_ = 32
    rw [List.getElem_append_right (Nat.le_refl _)]; simp
  rw [this]; decide
theorem sym_ext (T : List UInt8) : (ByteArray.mk (Array.mk (T ++ [32]))).extract 0 T.length = ⟨⟨T⟩⟩ := by
  apply ByteArray.ext
  apply Array.toList_inj.1
  rw [ext_list]; simp
theorem word_not (c : Int) (h : wordB c = true) : (c == 40) = false ∧ (c == 41) = false ∧ (c == 39) = false ∧ (c == 34) = false ∧ (c == 35) = false := by
  have hu := h
  unfold wordB letB digB signB at hu
  simp at hu
  refine ⟨?_, ?_, ?_, ?_, ?_⟩ <;> (rw [beq_eq_false_iff_ne]; omega)

set_option maxHeartbeats 2000000 in
set_option maxRecDepth 10000 in
theorem refLook_core (s : ByteArray) (T : List UInt8) (w : World) (hs : T.length ≤ 400) (hpos : 0 < T.length) (hsz : s.size = T.length + 1) (he : T.isEmpty = false) (hd : (T == [46]) = false) (hm : mustNum T = false)
    (HW0 : Hid (∀ h : 0 < s.size, wordB (s[0].toNat : Int) = true)) (hget : Hid (∀ k, k < T.length → ∀ (h : k < s.size), wordB ((s[k]'h).toNat : Int) = true))
    (hlast : Hid (∀ (h : T.length < s.size), wordB ((s[T.length]'h).toNat : Int) = false)) (hext : Hid (s.extract 0 T.length = ⟨⟨T⟩⟩)) :
    Calls Tryd.prog 44 #[.string s, .int .i64 0] w fun e w' => e = .returned (tokV 119 0 T.length T 0 0) ∧ Below w.heap.size w w' := by
  have h0 : 0 < s.size := by omega
  have HS : Hid (s.size = T.length + 1) := hsz
  have hs1 : s.size ≤ 401 := by omega
  have hs2 : T.length < s.size := by omega
  clear hsz
  obtain ⟨n40, n41, n39, n34, n35⟩ := word_not _ (HW0.out h0)
  have hne : ¬ s = ByteArray.empty := by intro h; rw [h] at h0; exact absurd h0 (by decide)
  have hdec : decide (s = ByteArray.empty) = false := decide_eq_false hne
  go_enter Tryd.func44, Tryd.ntmps44
  go_wp2_with fail
  refine (refBlanks_word _ _ (by omega) h0 (HW0.out h0)).mono ?_
  rintro e w1 ⟨rfl, rfl⟩
  go_wp2_with fail
  go_loop [7] (fun i => ∃ k : Nat, k ≤ T.length ∧ i = .int .i64 k) (fun i => T.length - (intOf i).toNat)
  case atStart => exact ⟨0, by omega, rfl⟩
  case round =>
    obtain ⟨m, hm0, rfl⟩ := hrel
    by_cases hml : m < T.length
    · have hw := hget.out m hml (by omega)
      go_wp2_with fail
      refine (refWord_any _ _).mono ?_
      rw [hw]; rintro e w' ⟨rfl, rfl⟩
      go_wp2_with fail
      go_round
      case rel => exact ⟨m + 1, by omega, by go_num⟩
      case measure => simp [intOf]; omega
    · obtain rfl : m = T.length := by omega
      have hw := hlast.out (by omega)
      go_wp2_with fail
      refine (refWord_any _ _).mono ?_
      rw [hw]; rintro e w' ⟨rfl, rfl⟩
      clear hw
      go_wp2_with fail
      rw [hext.out]
      refine (refWordTok_sym T 0 _ (by omega) (by omega) hm he hd).mono ?_
      rintro e w1 ⟨rfl, hb⟩
      obtain ⟨hcell, hfz, hb2⟩ := res_cells hb
      have HB : Hid _ := hb2
      clear hb hb2
      simp only [tokV]
      go_wp2_with fail
      refine bodyPost_ret (by simp [results, Tryd.results44, go_sem, hcell]; rfl) rfl ?_
      exact ⟨by simp [tokV], below_tok HB.out _ _ _ _ _ _⟩

theorem refLook_sym (T : List UInt8) (w : World) (hs : T.length ≤ 400) (hT : isSym T = true) :
    Calls Tryd.prog 44 #[.string ⟨⟨T ++ [32]⟩⟩, .int .i64 0] w fun e w' => e = .returned (tokV 119 0 T.length T 0 0) ∧ Below w.heap.size w w' := by
  obtain ⟨he, hd, hm, hall⟩ := isSym_parts T hT
  have hpos : 0 < T.length := by cases T with | nil => simp at he | cons c r => simp
  exact refLook_core _ T w hs hpos (by show (T ++ [32]).length = _; simp) he hd hm (fun h => sym_get T 0 hpos h hall) (fun k hk h => sym_get T k hk h hall) (sym_last T) (sym_ext T)
end Go.Proofs.YtlhimdjkkiflhaaDoor

