/- The document's look whether nodes are a graph. -/
import Derived.Test.YtlhimdjkkiflhaaDoorFitsA
import Derived.Deep.DeepCutAuto
namespace Go.Proofs.YtlhimdjkkiflhaaDoor
open Go.RowKit Go.Loop

theorem below_t1 {w wr : World} (h : Below w.heap.size w wr) (a b c d e f : Value) :
    Below w.heap.size w ((((((wr.setCell ⟨w.heap.size + 1, 0, none⟩ a).setCell ⟨w.heap.size + 1, 1, none⟩ b).setCell ⟨w.heap.size + 1, 2, none⟩ c).setCell ⟨w.heap.size + 1, 3, none⟩ d).setCell ⟨w.heap.size + 1, 4, none⟩ e).setCell ⟨w.heap.size + 1, 5, none⟩ f) :=
  (((((h.setCell (Nat.le_succ _) _).setCell (Nat.le_succ _) _).setCell (Nat.le_succ _) _).setCell (Nat.le_succ _) _).setCell (Nat.le_succ _) _).setCell (Nat.le_succ _) _

set_option maxHeartbeats 2000000 in
set_option maxRecDepth 10000 in
theorem fits_4 (x : Nd) (all : Int) (w : World) (ht : x.text.length ≤ maxLen) (hl : x.subs.length ≤ maxLen) (HI : Hid (IntsAt w x.sa x.subs)) (HS : Hid (∀ k, k < x.subs.length → 0 ≤ x.subs.getD k 0 ∧ x.subs.getD k 0 < all)) (hk : x.kind = 4) :
    Calls Tryd.prog 27 #[nodeV x, .int .i64 all] w fun e w' => e = .returned (.bool (kindB x)) ∧ Below w.heap.size w w' := by
  unfold nodeV
  unfold maxLen at hl
  have hb4 : (x.kind == 4) = true := by simpa using hk
  have hb0 : (x.kind == 0) = false := by rw [hk]; decide
  have hb1 : (x.kind == 1) = false := by rw [hk]; decide
  have hb2 : (x.kind == 2) = false := by rw [hk]; decide
  have hb3 : (x.kind == 3) = false := by rw [hk]; decide
  have HK : Hid (x.kind = 4) := hk
  clear hk
  have HV : Hid (kindB x = (decide (x.n = 0 ∧ x.d = 0 ∧ x.subs.length = 0) && isSym x.text)) := by show _ = _; unfold kindB; rw [if_neg (by rw [HK.out]; decide), if_neg (by rw [HK.out]; decide), if_neg (by rw [HK.out]; decide), if_neg (by rw [HK.out]; decide), if_pos HK.out]
  go_enter Tryd.func27, Tryd.ntmps27
  go_wp2_with fail
  go_loop [5] (fun i => ∃ k : Nat, k ≤ x.subs.length ∧ i = .int .i64 k) (fun i => x.subs.length - (intOf i).toNat)
  case atStart => exact ⟨0, Nat.zero_le _, rfl⟩
  case round =>
    obtain ⟨k, hk, rfl⟩ := hrel
    by_cases hlt : k < x.subs.length
    · rcases HI.out with h | ⟨b, o, hsa, hc⟩
      · exfalso; rw [h] at hlt; simp at hlt
      · have hcell0 := cell_below (below_box (o := .cells #[.int .i64 x.kind, .string ⟨⟨x.text⟩⟩, .int .i64 x.n, .int .i64 x.d, .slice x.sa x.subs.length x.cap] 26)) (hc k hlt)
        rw [hsa] at hcell0
        have hcell := hcell0
        obtain ⟨h0, h1⟩ := HS.out k hlt
        have HC : Hid _ := hc
        clear hc hcell0
        generalize x.subs.getD k 0 = v at *
        rw [hsa]
        clear hsa
        go_wp2_with fail
        go_round
        case rel => exact ⟨k + 1, by omega, by go_num⟩
        case measure => simp [intOf]; omega
    · go_upto_region 6 with fail
      go_cut [6] (fun y wc => (∃ b : Bool, y = .bool b) ∧ wc = w.alloc (.cells #[.int .i64 x.kind, .string ⟨⟨x.text⟩⟩, .int .i64 x.n, .int .i64 x.d, .slice x.sa x.subs.length x.cap] 26))
      case first =>
        cases hte : x.text.isEmpty <;> cases hn0 : (x.n == 0) <;> cases hd0 : (x.d == 0)
        all_goals
          go_wp2_with fail
          go_meet
          case rel => exact ⟨⟨_, rfl⟩, rfl⟩
      case rest =>
        obtain ⟨⟨bb, rfl⟩, rfl⟩ := hcut
        have ks := str_app
        by_cases hlen : x.text.length ≤ 400
        · cases hsy : isSym x.text
          · go_wp2_with fail
            refine (refLook_any _ _ (by show (x.text ++ [32]).length ≤ _; simp; omega)).mono ?_
            rintro e w2 ⟨kk, f, t, l, n, d, rfl, hkk, hb2⟩
            obtain ⟨hc, hf⟩ := bcell hb2
            have HB : Hid (Below w.heap.size w w2) := below_box.trans (((Below.refl _ _).alloc (Nat.le_refl _) _).mono (by simp) |>.trans (hb2.mono (by simp; omega)))
            have hz2 : w.heap.size + 1 < w2.heap.size := by have := hb2.size; simp at this; omega
            clear hb2
            have hno : (kk == 119) = true → (l == x.text) = false := by
              intro h
              rw [beq_eq_false_iff_ne]
              rintro rfl
              have := hkk (by simpa using h)
              rw [hsy] at this
              exact absurd this (by simp)
            clear hkk
            simp only [tokV]
            cases hk119 : (kk == 119)
            · clear hno
              go_wp2_with fail
              all_goals
                go_ret
                refine ⟨ret_bool ?_, below_t1 HB.out _ _ _ _ _ _⟩
                rw [HV.out, hsy]
                first | (simp_all; done) | (rw [Bool.eq_iff_iff]; simp_all; done) | (rw [Bool.eq_iff_iff]; simp_all; omega)
            · have hlx := hno hk119
              clear hno
              go_wp2_with fail
              all_goals
                go_ret
                refine ⟨ret_bool ?_, below_t1 HB.out _ _ _ _ _ _⟩
                rw [HV.out, hsy]
                first | (simp_all; done) | (rw [Bool.eq_iff_iff]; simp_all; done) | (rw [Bool.eq_iff_iff]; simp_all; omega)
          · go_wp2_with fail
            refine (refLook_sym x.text _ hlen hsy).mono ?_
            rintro e w2 ⟨rfl, hb2⟩
            obtain ⟨hc, hf⟩ := bcell hb2
            have HB : Hid (Below w.heap.size w w2) := below_box.trans (((Below.refl _ _).alloc (Nat.le_refl _) _).mono (by simp) |>.trans (hb2.mono (by simp; omega)))
            have hz2 : w.heap.size + 1 < w2.heap.size := by have := hb2.size; simp at this; omega
            clear hb2
            simp only [tokV]
            go_wp2_with fail
            all_goals
              go_ret
              refine ⟨ret_bool ?_, below_t1 HB.out _ _ _ _ _ _⟩
              rw [HV.out, hsy]
              first | (simp_all; done) | (rw [Bool.eq_iff_iff]; simp_all; done) | (rw [Bool.eq_iff_iff]; simp_all; omega)
        · have hgt : (400 : Int) < (x.text.length : Int) := by omega
          go_wp2_with fail
          refine (refSymbol_any x.text _ ht).mono ?_
          rintro e w2 ⟨rfl, rfl⟩
          go_wp2_with fail
          all_goals
            go_ret
            refine ⟨ret_bool ?_, below_box.trans ((Below.refl _ _).alloc (by simp) _)⟩
            rw [HV.out]
            first | (simp_all; done) | (rw [Bool.eq_iff_iff]; simp_all; done) | (rw [Bool.eq_iff_iff]; simp_all; omega)

set_option maxHeartbeats 2000000 in
set_option maxRecDepth 10000 in
theorem fits_5 (x : Nd) (all : Int) (w : World) (hl : x.subs.length ≤ maxLen) (HI : Hid (IntsAt w x.sa x.subs)) (HS : Hid (∀ k, k < x.subs.length → 0 ≤ x.subs.getD k 0 ∧ x.subs.getD k 0 < all)) (hk : x.kind = 5) :
    Calls Tryd.prog 27 #[nodeV x, .int .i64 all] w fun e w' => e = .returned (.bool (kindB x)) ∧ Below w.heap.size w w' := by
  unfold nodeV
  unfold maxLen at hl
  have hb5 : (x.kind == 5) = true := by simpa using hk
  have hb0 : (x.kind == 0) = false := by rw [hk]; decide
  have hb1 : (x.kind == 1) = false := by rw [hk]; decide
  have hb2 : (x.kind == 2) = false := by rw [hk]; decide
  have hb3 : (x.kind == 3) = false := by rw [hk]; decide
  have hb4 : (x.kind == 4) = false := by rw [hk]; decide
  have HK : Hid (x.kind = 5) := hk
  clear hk
  have HV : Hid (kindB x = (numB x.n x.d && decide (x.text = [] ∧ x.subs.length = 0))) := by show _ = _; unfold kindB; rw [if_neg (by rw [HK.out]; decide), if_neg (by rw [HK.out]; decide), if_neg (by rw [HK.out]; decide), if_neg (by rw [HK.out]; decide), if_neg (by rw [HK.out]; decide), if_pos HK.out]
  go_enter Tryd.func27, Tryd.ntmps27
  go_wp2_with fail
  go_loop [5] (fun i => ∃ k : Nat, k ≤ x.subs.length ∧ i = .int .i64 k) (fun i => x.subs.length - (intOf i).toNat)
  case atStart => exact ⟨0, Nat.zero_le _, rfl⟩
  case round =>
    obtain ⟨k, hk, rfl⟩ := hrel
    by_cases hlt : k < x.subs.length
    · rcases HI.out with h | ⟨b, o, hsa, hc⟩
      · exfalso; rw [h] at hlt; simp at hlt
      · have hcell0 := cell_below (below_box (o := .cells #[.int .i64 x.kind, .string ⟨⟨x.text⟩⟩, .int .i64 x.n, .int .i64 x.d, .slice x.sa x.subs.length x.cap] 26)) (hc k hlt)
        rw [hsa] at hcell0
        have hcell := hcell0
        obtain ⟨h0, h1⟩ := HS.out k hlt
        have HC : Hid _ := hc
        clear hc hcell0
        generalize x.subs.getD k 0 = v at *
        rw [hsa]
        clear hsa
        go_wp2_with fail
        go_round
        case rel => exact ⟨k + 1, by omega, by go_num⟩
        case measure => simp [intOf]; omega
    · go_upto_region 6 with fail
      go_cut [6] (fun y wc => (∃ b : Bool, y = .bool b) ∧ wc = w.alloc (.cells #[.int .i64 x.kind, .string ⟨⟨x.text⟩⟩, .int .i64 x.n, .int .i64 x.d, .slice x.sa x.subs.length x.cap] 26))
      case first =>
        cases hte : x.text.isEmpty <;> cases hn0 : (x.n == 0) <;> cases hd0 : (x.d == 0)
        all_goals
          go_wp2_with fail
          go_meet
          case rel => exact ⟨⟨_, rfl⟩, rfl⟩
      case rest =>
        obtain ⟨⟨bb, rfl⟩, rfl⟩ := hcut
        by_cases hbd : 1 ≤ x.d ∧ x.d ≤ 1000000 ∧ -1000000 ≤ x.n ∧ x.n ≤ 1000000
        · obtain ⟨b1, b2, b3, b4⟩ := hbd
          have HL : Hid ((x.d / ((Int.gcd x.n x.d : Nat) : Int) == x.d) = decide (Int.gcd x.n x.d = 1)) := lowest_same x.n x.d b1
          have HN : Hid (numB x.n x.d = decide (Int.gcd x.n x.d = 1)) := by show _ = _; simp [numB, b1, b2, b3, b4]
          by_cases hg : Int.gcd x.n x.d = 1
          · have hd1 : (x.d / ((Int.gcd x.n x.d : Nat) : Int) == x.d) = true := by rw [HL.out]; exact decide_eq_true hg
            have hn1 : (x.n.tdiv ((Int.gcd x.n x.d : Nat) : Int) == x.n) = true := by rw [beq_iff_eq]; exact lowest_same2 _ _ hg
            have HN1 : Hid (numB x.n x.d = true) := by show _ = _; rw [HN.out]; exact decide_eq_true hg
            clear hg
            go_wp2_with fail
            refine (refLowest_any _ _ _ (by omega) (by omega) (by omega) (by omega)).mono ?_
            rintro e w2 ⟨rfl, m, rfl⟩
            go_wp2_with fail
            all_goals
              go_ret
              refine ⟨ret_bool ?_, below_drewN below_box _⟩
              rw [HV.out, HN1.out]
              first | (simp_all; done) | (rw [Bool.eq_iff_iff]; simp_all; done) | (rw [Bool.eq_iff_iff]; simp_all; omega)
          · have hd1 : (x.d / ((Int.gcd x.n x.d : Nat) : Int) == x.d) = false := by rw [HL.out]; exact decide_eq_false hg
            have HN1 : Hid (numB x.n x.d = false) := by show _ = _; rw [HN.out]; exact decide_eq_false hg
            clear hg
            go_wp2_with fail
            refine (refLowest_any _ _ _ (by omega) (by omega) (by omega) (by omega)).mono ?_
            rintro e w2 ⟨rfl, m, rfl⟩
            go_wp2_with fail
            all_goals
              go_ret
              refine ⟨ret_bool ?_, below_drewN below_box _⟩
              rw [HV.out, HN1.out]
              first | (simp_all; done) | (rw [Bool.eq_iff_iff]; simp_all; done) | (rw [Bool.eq_iff_iff]; simp_all; omega)
        · have HN1 : Hid (numB x.n x.d = false) := by show _ = _; simp [numB]; omega
          go_wp2_with fail
          all_goals first
            | (exfalso; omega)
            | (go_ret
               refine ⟨ret_bool ?_, below_box⟩
               rw [HV.out, HN1.out]; rfl)

set_option maxHeartbeats 2000000 in
set_option maxRecDepth 10000 in
theorem fits_7 (x : Nd) (all : Int) (w : World) (hl : x.subs.length ≤ maxLen) (HI : Hid (IntsAt w x.sa x.subs)) (HS : Hid (∀ k, k < x.subs.length → 0 ≤ x.subs.getD k 0 ∧ x.subs.getD k 0 < all)) (hk : x.kind = 7) :
    Calls Tryd.prog 27 #[nodeV x, .int .i64 all] w fun e w' => e = .returned (.bool (kindB x)) ∧ Below w.heap.size w w' := by
  unfold nodeV
  unfold maxLen at hl
  have hb7 : (x.kind == 7) = true := by simpa using hk
  have hb0 : (x.kind == 0) = false := by rw [hk]; decide
  have hb1 : (x.kind == 1) = false := by rw [hk]; decide
  have hb2 : (x.kind == 2) = false := by rw [hk]; decide
  have hb3 : (x.kind == 3) = false := by rw [hk]; decide
  have hb4 : (x.kind == 4) = false := by rw [hk]; decide
  have hb5 : (x.kind == 5) = false := by rw [hk]; decide
  have hb6 : (x.kind == 6) = false := by rw [hk]; decide
  have HK : Hid (x.kind = 7) := hk
  clear hk
  have HV : Hid (kindB x = (charB x.n && decide (x.text = [] ∧ x.d = 0 ∧ x.subs.length = 0))) := by show _ = _; unfold kindB; rw [if_neg (by rw [HK.out]; decide), if_neg (by rw [HK.out]; decide), if_neg (by rw [HK.out]; decide), if_neg (by rw [HK.out]; decide), if_neg (by rw [HK.out]; decide), if_neg (by rw [HK.out]; decide), if_neg (by rw [HK.out]; decide), if_pos HK.out]
  go_enter Tryd.func27, Tryd.ntmps27
  go_wp2_with fail
  go_loop [5] (fun i => ∃ k : Nat, k ≤ x.subs.length ∧ i = .int .i64 k) (fun i => x.subs.length - (intOf i).toNat)
  case atStart => exact ⟨0, Nat.zero_le _, rfl⟩
  case round =>
    obtain ⟨k, hk, rfl⟩ := hrel
    by_cases hlt : k < x.subs.length
    · rcases HI.out with h | ⟨b, o, hsa, hc⟩
      · exfalso; rw [h] at hlt; simp at hlt
      · have hcell0 := cell_below (below_box (o := .cells #[.int .i64 x.kind, .string ⟨⟨x.text⟩⟩, .int .i64 x.n, .int .i64 x.d, .slice x.sa x.subs.length x.cap] 26)) (hc k hlt)
        rw [hsa] at hcell0
        have hcell := hcell0
        obtain ⟨h0, h1⟩ := HS.out k hlt
        have HC : Hid _ := hc
        clear hc hcell0
        generalize x.subs.getD k 0 = v at *
        rw [hsa]
        clear hsa
        go_wp2_with fail
        go_round
        case rel => exact ⟨k + 1, by omega, by go_num⟩
        case measure => simp [intOf]; omega
    · go_upto_region 6 with fail
      go_cut [6] (fun y wc => (∃ b : Bool, y = .bool b) ∧ wc = w.alloc (.cells #[.int .i64 x.kind, .string ⟨⟨x.text⟩⟩, .int .i64 x.n, .int .i64 x.d, .slice x.sa x.subs.length x.cap] 26))
      case first =>
        cases hte : x.text.isEmpty <;> cases hn0 : (x.n == 0) <;> cases hd0 : (x.d == 0)
        all_goals
          go_wp2_with fail
          go_meet
          case rel => exact ⟨⟨_, rfl⟩, rfl⟩
      case rest =>
        obtain ⟨⟨bb, rfl⟩, rfl⟩ := hcut
        cases hnm : hasName x.n
        all_goals
          have hne : (nameOf x.n).isEmpty = !hasName x.n := nameOf_isEmpty x.n
          have hne2 : (nameOf x.n).isEmpty = !(false : Bool) ∨ (nameOf x.n).isEmpty = !(true : Bool) := by cases (nameOf x.n).isEmpty <;> simp
          rw [hnm] at hne
          clear hne2
          go_wp2_with fail
          refine (refName_any _ _).mono ?_
          rintro e w2 ⟨rfl, hb2⟩
          obtain ⟨hcell, hfz⟩ := blk_cells hb2
          have HB : Hid (Below w.heap.size w w2) := below_box.trans (hb2.mono (by simp))
          clear hb2 hfz
          go_wp2_with fail
          all_goals
            go_ret
            refine ⟨ret_bool ?_, HB.out⟩
            rw [HV.out]
            unfold charB
            rw [hnm]
            first | (simp_all; done) | (rw [Bool.eq_iff_iff]; simp_all; done) | (rw [Bool.eq_iff_iff]; simp_all; omega)


/-- the document's look at one node -/
theorem refFits_any (x : Nd) (all : Int) (w : World) (ht : x.text.length ≤ maxLen) (hl : x.subs.length ≤ maxLen) (hi : IntsAt w x.sa x.subs) :
    Calls Tryd.prog 27 #[nodeV x, .int .i64 all] w fun e w' => e = .returned (.bool (kindB x && subsB x.subs all)) ∧ Below w.heap.size w w' := by
  cases hs : subsB x.subs all
  · rw [Bool.and_false]; exact fits_no x all w hl hi hs
  · rw [Bool.and_true]
    have HS := subsB_all x.subs all hs
    by_cases h : x.kind < 0 ∨ 7 < x.kind
    · exact fits_else x all w hl hi HS h
    · have : x.kind = 0 ∨ x.kind = 1 ∨ x.kind = 2 ∨ x.kind = 3 ∨ x.kind = 4 ∨ x.kind = 5 ∨ x.kind = 6 ∨ x.kind = 7 := by omega
      rcases this with h | h | h | h | h | h | h | h
      · exact fits_0 x all w hl hi HS h
      · exact fits_1 x all w hl hi HS h
      · exact fits_2 x all w hl hi HS h
      · exact fits_3 x all w hl hi HS h
      · exact fits_4 x all w ht hl hi HS h
      · exact fits_5 x all w hl hi HS h
      · exact fits_6 x all w hl hi HS h
      · exact fits_7 x all w hl hi HS h
end Go.Proofs.YtlhimdjkkiflhaaDoor
