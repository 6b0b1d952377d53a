/- The document's tokens: the token at a place. -/
import Derived.Test.YtlhimdjkkiflhaaDoorRefTokH
namespace Go.Proofs.YtlhimdjkkiflhaaDoor
open Go.RowKit Go.Loop

theorem refWordTok_s (t : ByteArray) (a : Int) (w : World) (hs : t.size ≤ 1000000) (h0 : 0 ≤ a) (ha : a ≤ 1000000) (hw : Hid (t.data.toList.all wordU = true)) :
    Calls Tryd.prog 65 #[.string t, .int .i64 a] w fun e w' => TokOk w e w' := by
  obtain ⟨k, rfl⟩ := Int.eq_ofNat_of_zero_le h0
  exact refWordTok_any t.data.toList k w (by simpa using hs) (by omega) hw

theorem ext_list (s : ByteArray) (a b : Nat) : (s.extract a b).data.toList = (s.data.toList.drop a).take (b - a) := by
  simp

theorem ext_all_snoc (s : ByteArray) (a k : Nat) (h : k < s.size) (hak : a ≤ k) (p : UInt8 → Bool) :
    (s.extract a (k + 1)).data.toList.all p = ((s.extract a k).data.toList.all p && p s[k]) := by
  rw [ext_list, ext_list, show k + 1 - a = (k - a) + 1 by omega, List.take_succ_eq_append_getElem (by simp; omega), List.all_append]
  simp only [List.all_cons, List.all_nil, Bool.and_true, List.getElem_drop]
  simp only [show a + (k - a) = k from by omega]
  rfl

theorem ext_nil (s : ByteArray) (a : Nat) (p : UInt8 → Bool) : (s.extract a a).data.toList.all p = true := by rw [ext_list]; simp

theorem ba_data (x : ByteArray) : x.toList = x.data.toList := by cases x with | mk d => cases d with | mk l => exact ba_toList l
theorem sign_no_word (s : ByteArray) (h0 : 0 < s.size) (hw : wordB (s[0].toNat : Int) = true) (h : (s.extract 0 2).toList = [35, 124]) : False := by
  have h1 : (s.extract 0 2).data.toList = [35, 124] := by
    rw [← h, ba_data]
  rw [ext_list] at h1
  simp only [List.drop_zero, Nat.sub_zero] at h1
  have h2 : (s.data.toList.take 2)[0]? = some 35 := by rw [h1]; rfl
  rw [List.getElem?_take_of_lt (by omega), List.getElem?_eq_getElem (by simpa using h0)] at h2
  have h3 : s[0] = 35 := by
    simp at h2; exact h2
  rw [h3] at hw
  exact absurd hw (by decide)

set_option maxHeartbeats 1000000 in
/-- a text that begins with a word byte: 'blanks' stays there -/
theorem refBlanks_word (s : ByteArray) (w : World) (hs : s.size ≤ 1000000) (h0 : 0 < s.size) (hw : wordB (s[0].toNat : Int) = true) :
    Calls Tryd.prog 61 #[.string s, .int .i64 0] w fun e w' => e = .returned (.tuple #[.int .i64 0, .bool true]) ∧ w' = w := by
  have hn : ((s[0].toNat : Int) == 32) = false ∧ ((s[0].toNat : Int) == 9) = false ∧ ((s[0].toNat : Int) == 10) = false ∧ ((s[0].toNat : Int) == 59) = false := by
    have hu := hw
    unfold wordB letB digB signB at hu
    simp at hu
    refine ⟨?_, ?_, ?_, ?_⟩ <;> (rw [beq_eq_false_iff_ne]; omega)
  obtain ⟨h32, h9, h10, h59⟩ := hn
  have HW : Hid _ := sign_no_word s h0 hw
  clear hw
  go_enter Tryd.func61, Tryd.ntmps61
  go_wp2_with fail
  go_loop [1] (fun i => i = .int .i64 0) (fun i => (intOf i).toNat)
  case atStart => rfl
  case round =>
    subst hrel
    go_wp2_with fail
    refine (refBegins_any _ _ 0 _ hs (by decide) (by omega)).mono ?_
    rintro e w' ⟨⟨b, rfl, hb⟩, rfl⟩
    have g : b = false := by
      cases b
      · rfl
      · exact (HW.out ((hb rfl).2.trans (ba_toList [35, 124]))).elim
    subst g
    clear hb
    go_wp2_with fail
    go_ret2
    exact ⟨rfl, rfl⟩

set_option maxHeartbeats 2000000 in
set_option maxRecDepth 10000 in
theorem refLook_any (s : ByteArray) (w : World) (hs : s.size ≤ 1000000) :
    Calls Tryd.prog 44 #[.string s, .int .i64 0] w fun e w' => TokOk w e w' := by
  go_enter Tryd.func44, Tryd.ntmps44
  go_wp2_with fail
  refine (refBlanks_any _ 0 _ hs (by omega)).mono ?_
  rintro e w1 ⟨⟨r, ok, rfl, hr0, hr⟩, rfl⟩
  by_cases hlt : r < s.size
  · cases ok
    · go_wp2_with fail
      refine bodyPost_ret (by simp [results, Tryd.results44, go_sem]; rfl) rfl ?_
      exact ⟨_, _, _, _, _, _, rfl, by omega, (Below.refl _ _).alloc (Nat.le_refl _) _⟩
    · cases h40 : ((s[r].toNat : Int) == 40)
      · cases h41 : ((s[r].toNat : Int) == 41)
        · cases h39 : ((s[r].toNat : Int) == 39)
          · cases h34 : ((s[r].toNat : Int) == 34)
            · cases h35 : ((s[r].toNat : Int) == 35)
              · have hdec : decide (s.size ≤ r) = false := by simp; omega
                go_wp2_with fail
                go_loop [7] (fun i => ∃ k : Nat, r ≤ k ∧ k ≤ s.size ∧ i = .int .i64 k ∧ Hid ((s.extract r k).data.toList.all wordU = true)) (fun i => s.size - (intOf i).toNat)
                case atStart => exact ⟨r, Nat.le_refl _, hr, rfl, ext_nil _ _ _⟩
                case round =>
                  obtain ⟨m, hm0, hm, rfl, hall⟩ := hrel
                  have hsz : (s.extract r m).size ≤ 1000000 := by simp; omega
                  have HSZ : Hid _ := hsz
                  clear hsz
                  by_cases hml : m < s.size
                  · cases hw : wordB (s[m].toNat : Int)
                    · go_wp2_with fail
                      refine (refWord_any _ _).mono ?_
                      rw [hw]; rintro e w' ⟨rfl, rfl⟩
                      clear hw
                      go_wp2_with fail
                      refine (refWordTok_s _ _ _ HSZ.out (by omega) (by omega) hall).mono ?_
                      rintro e w1 ⟨kk, f, t, l, n, d, rfl, hk, hb⟩
                      have HK : Hid _ := hk
                      clear hk
                      obtain ⟨hcell, hfz, hb2⟩ := res_cells hb
                      have HB : Hid _ := hb2
                      clear hb hb2
                      simp only [tokV]
                      go_wp2_with fail
                      refine bodyPost_ret (by simp [results, Tryd.results44, go_sem, hcell]; rfl) rfl ?_
                      exact ⟨_, _, _, _, _, _, rfl, HK.out, below_tok HB.out _ _ _ _ _ _⟩
                    · have H : Hid ((s.extract r (m + 1)).data.toList.all wordU = true) := by
                        show _ = _; rw [ext_all_snoc s r m hml hm0, hall.out]; exact hw
                      go_wp2_with fail
                      refine (refWord_any _ _).mono ?_
                      rw [hw]; rintro e w' ⟨rfl, rfl⟩
                      go_wp2_with fail
                      go_round
                      case rel => exact ⟨m + 1, by omega, by omega, by go_num, H⟩
                      case measure => simp [intOf]; omega
                  · go_wp2_with fail
                    refine (refWordTok_s _ _ _ HSZ.out (by omega) (by omega) hall).mono ?_
                    rintro e w1 ⟨kk, f, t, l, n, d, rfl, hk, hb⟩
                    have HK : Hid _ := hk
                    clear hk
                    obtain ⟨hcell, hfz, hb2⟩ := res_cells hb
                    have HB : Hid _ := hb2
                    clear hb hb2
                    simp only [tokV]
                    go_wp2_with fail
                    refine bodyPost_ret (by simp [results, Tryd.results44, go_sem, hcell]; rfl) rfl ?_
                    exact ⟨_, _, _, _, _, _, rfl, HK.out, below_tok HB.out _ _ _ _ _ _⟩
              · go_wp2_with fail
                refine (refHash_any _ _ _ hs (by omega)).mono ?_
                rintro e w1 ⟨kk, f, t, l, n, d, rfl, hk, hb⟩
                have HK : Hid _ := hk
                clear hk
                obtain ⟨hcell, hfz, hb2⟩ := res_cells hb
                have HB : Hid _ := hb2
                clear hb hb2
                simp only [tokV]
                go_wp2_with fail
                refine bodyPost_ret (by simp [results, Tryd.results44, go_sem, hcell]; rfl) rfl ?_
                exact ⟨_, _, _, _, _, _, rfl, HK.out, below_tok HB.out _ _ _ _ _ _⟩
            · go_wp2_with fail
              refine (refText_any _ _ _ hs (by omega)).mono ?_
              rintro e w1 ⟨kk, f, t, l, n, d, rfl, hk, hb⟩
              have HK : Hid _ := hk
              clear hk
              obtain ⟨hcell, hfz, hb2⟩ := res_cells hb
              have HB : Hid _ := hb2
              clear hb hb2
              simp only [tokV]
              go_wp2_with fail
              refine bodyPost_ret (by simp [results, Tryd.results44, go_sem, hcell]; rfl) rfl ?_
              exact ⟨_, _, _, _, _, _, rfl, HK.out, below_tok HB.out _ _ _ _ _ _⟩
          · have he : (s[r].toNat : Int) = 39 := by simpa using h39
            go_wp2_with fail
            refine bodyPost_ret (by simp [results, Tryd.results44, go_sem]; rfl) rfl ?_
            exact ⟨_, _, _, _, _, _, rfl, by omega, (Below.refl _ _).alloc (Nat.le_refl _) _⟩
        · have he : (s[r].toNat : Int) = 41 := by simpa using h41
          go_wp2_with fail
          refine bodyPost_ret (by simp [results, Tryd.results44, go_sem]; rfl) rfl ?_
          exact ⟨_, _, _, _, _, _, rfl, by omega, (Below.refl _ _).alloc (Nat.le_refl _) _⟩
      · have he : (s[r].toNat : Int) = 40 := by simpa using h40
        go_wp2_with fail
        refine bodyPost_ret (by simp [results, Tryd.results44, go_sem]; rfl) rfl ?_
        exact ⟨_, _, _, _, _, _, rfl, by omega, (Below.refl _ _).alloc (Nat.le_refl _) _⟩
  · cases ok
    · go_wp2_with fail
      refine bodyPost_ret (by simp [results, Tryd.results44, go_sem]; rfl) rfl ?_
      exact ⟨_, _, _, _, _, _, rfl, by omega, (Below.refl _ _).alloc (Nat.le_refl _) _⟩
    · go_wp2_with fail
      refine bodyPost_ret (by simp [results, Tryd.results44, go_sem]; rfl) rfl ?_
      exact ⟨_, _, _, _, _, _, rfl, by omega, (Below.refl _ _).alloc (Nat.le_refl _) _⟩
end Go.Proofs.YtlhimdjkkiflhaaDoor
