/- The document's atoms, as texts. -/
import Derived.Test.YtlhimdjkkiflhaaDoorDigits
import Derived.Test.YtlhimdjkkiflhaaDoorGraphB
import Derived.Test.YtlhimdjkkiflhaaDoorRefTokC
namespace Go.Proofs.YtlhimdjkkiflhaaDoor
open Go.RowKit Go.Loop

/-- a byte within a text, as it is written -/
def escL (c : UInt8) : List UInt8 :=
  if c.toNat = 92 then [92, 92] else if c.toNat = 34 then [92, 34] else if c.toNat = 10 then [92, 110] else if c.toNat = 9 then [92, 116] else [c]
def quoteL (l : List UInt8) : List UInt8 := 34 :: (l.flatMap escL ++ [34])
def numL (n d : Int) : List UInt8 := if d = 1 then Lib.itoa n else Lib.itoa n ++ 47 :: Lib.itoa d
def charL (n : Int) : List UInt8 := 35 :: 92 :: (if hasName n then nameOf n else [UInt8.ofNat n.toNat])
/-- an atom's text -/
def atomL (x : Nd) : List UInt8 :=
  if x.kind = 0 then [40, 41] else if x.kind = 3 then quoteL x.text else if x.kind = 4 then x.text else if x.kind = 5 then numL x.n x.d
  else if x.kind = 6 then (if x.n = 1 then [35, 116] else [35, 102]) else charL x.n

theorem escL_len (c : UInt8) : (escL c).length ≤ 2 := by
  unfold escL; repeat' split
  all_goals simp
theorem esc_len (l : List UInt8) : (l.flatMap escL).length ≤ 2 * l.length := by
  induction l with
  | nil => simp
  | cons c r ih => have := escL_len c; simp only [List.flatMap_cons, List.length_append, List.length_cons]; omega
theorem esc_snoc (l : List UInt8) (k : Nat) (h : k < l.length) : (l.take (k + 1)).flatMap escL = (l.take k).flatMap escL ++ escL l[k] := by
  rw [List.take_succ_eq_append_getElem h, List.flatMap_append]; simp
theorem itoa_len (n : Int) (h1 : -1000000000 ≤ n) (h2 : n ≤ 1000000000) : (Lib.itoa n).length ≤ 12 := by
  unfold Lib.itoa
  split
  · have := dec_len9 n.natAbs (by omega); simp; omega
  · have := dec_len9 n.toNat (by omega); omega

section
attribute [local go_sem] ba_get
theorem ext_one (l : List UInt8) (k : Nat) (h : k < l.length) : (ByteArray.mk (Array.mk l)).extract k (k + 1) = ⟨⟨[l[k]]⟩⟩ := by
  apply ByteArray.ext
  apply Array.toList_inj.1
  show ((ByteArray.mk (Array.mk l)).extract k (k + 1)).data.toList = [l[k]]
  simp only [ByteArray.data_extract, Array.toList_extract, List.extract_eq_take_drop, Nat.add_sub_cancel_left]
  rw [List.drop_eq_getElem_cons h]; rfl

set_option maxHeartbeats 1000000 in
theorem refAtom_3 (x : Nd) (w : World) (ht : x.text.length ≤ 400) (hk : x.kind = 3) :
    Calls Tryd.prog 32 #[nodeV x] w fun e w' => e = .returned (.string ⟨⟨atomL x⟩⟩) ∧ Below w.heap.size w w' := by
  have HV : Hid (atomL x = quoteL x.text) := by show _ = _; unfold atomL; rw [if_neg (by omega), if_pos hk]
  have hb0 : (x.kind == 0) = false := by rw [hk]; decide
  have hb3 : (x.kind == 3) = true := by rw [hk]; decide
  clear hk
  unfold nodeV
  go_enter Tryd.func32, Tryd.ntmps32
  go_wp2_with fail
  go_loop [3, 4] (fun s i => ∃ (k : Nat) (l : List UInt8), k ≤ x.text.length ∧ i = .int .i64 k ∧ s = .string ⟨⟨l⟩⟩ ∧ l.length ≤ 1 + 2 * k ∧ Hid (l = 34 :: (x.text.take k).flatMap escL)) (fun _ i => x.text.length - (intOf i).toNat)
  case atStart => exact ⟨0, [34], Nat.zero_le _, rfl, rfl, by simp, rfl⟩
  case round =>
    obtain ⟨k, l, hk, rfl, rfl, hl1, hle⟩ := hrel
    have ks := str_app
    by_cases hlt : k < x.text.length
    · have HS : Hid _ := esc_snoc x.text k hlt
      have hx := ext_one x.text k hlt
      cases e92 : ((x.text[k].toNat : Int) == 92)
      · cases e34 : ((x.text[k].toNat : Int) == 34)
        · cases e10 : ((x.text[k].toNat : Int) == 10)
          · cases e9 : ((x.text[k].toNat : Int) == 9)
            · have HE : Hid (escL x.text[k] = [x.text[k]]) := by
                show _ = _; rw [beq_eq_false_iff_ne] at e92 e34 e10 e9; unfold escL; rw [if_neg (by omega), if_neg (by omega), if_neg (by omega), if_neg (by omega)]
              go_wp2_with fail
              go_round
              case rel => exact ⟨k + 1, _, by omega, by go_num, rfl, by simp; omega, by show _ = _; rw [HS.out, HE.out, hle.out]; simp⟩
              case measure => simp [intOf]; omega
            · have HE : Hid (escL x.text[k] = [92, 116]) := by
                show _ = _; rw [beq_eq_false_iff_ne] at e92 e34 e10; rw [beq_iff_eq] at e9; unfold escL; rw [if_neg (by omega), if_neg (by omega), if_neg (by omega), if_pos (by omega)]
              go_wp2_with fail
              go_round
              case rel => exact ⟨k + 1, _, by omega, by go_num, rfl, by simp; omega, by show _ = _; rw [HS.out, HE.out, hle.out]; simp⟩
              case measure => simp [intOf]; omega
          · have HE : Hid (escL x.text[k] = [92, 110]) := by
              show _ = _; rw [beq_eq_false_iff_ne] at e92 e34; rw [beq_iff_eq] at e10; unfold escL; rw [if_neg (by omega), if_neg (by omega), if_pos (by omega)]
            go_wp2_with fail
            go_round
            case rel => exact ⟨k + 1, _, by omega, by go_num, rfl, by simp; omega, by show _ = _; rw [HS.out, HE.out, hle.out]; simp⟩
            case measure => simp [intOf]; omega
        · have HE : Hid (escL x.text[k] = [92, 34]) := by
            show _ = _; rw [beq_eq_false_iff_ne] at e92; rw [beq_iff_eq] at e34; unfold escL; rw [if_neg (by omega), if_pos (by omega)]
          go_wp2_with fail
          go_round
          case rel => exact ⟨k + 1, _, by omega, by go_num, rfl, by simp; omega, by show _ = _; rw [HS.out, HE.out, hle.out]; simp⟩
          case measure => simp [intOf]; omega
      · have HE : Hid (escL x.text[k] = [92, 92]) := by
          show _ = _; rw [beq_iff_eq] at e92; unfold escL; rw [if_pos (by omega)]
        go_wp2_with fail
        go_round
        case rel => exact ⟨k + 1, _, by omega, by go_num, rfl, by simp; omega, by show _ = _; rw [HS.out, HE.out, hle.out]; simp⟩
        case measure => simp [intOf]; omega
    · go_wp2_with fail
      go_ret
      refine ⟨ret_strl ?_, below_box⟩
      rw [HV.out, hle.out, List.take_of_length_le (by omega)]; simp [quoteL]

set_option maxHeartbeats 1000000 in
theorem refAtom_0 (x : Nd) (w : World) (hk : x.kind = 0) :
    Calls Tryd.prog 32 #[nodeV x] w fun e w' => e = .returned (.string ⟨⟨atomL x⟩⟩) ∧ Below w.heap.size w w' := by
  have HV : Hid (atomL x = [40, 41]) := by show _ = _; unfold atomL; rw [if_pos hk]
  have hb0 : (x.kind == 0) = true := by rw [hk]; decide
  clear hk
  unfold nodeV
  go_enter Tryd.func32, Tryd.ntmps32
  go_wp2_with fail
  go_ret
  exact ⟨ret_strl HV.out.symm, below_box⟩

set_option maxHeartbeats 1000000 in
theorem refAtom_4 (x : Nd) (w : World) (hk : x.kind = 4) :
    Calls Tryd.prog 32 #[nodeV x] w fun e w' => e = .returned (.string ⟨⟨atomL x⟩⟩) ∧ Below w.heap.size w w' := by
  have HV : Hid (atomL x = x.text) := by show _ = _; unfold atomL; rw [if_neg (by omega), if_neg (by omega), if_pos hk]
  have hb0 : (x.kind == 0) = false := by rw [hk]; decide
  have hb3 : (x.kind == 3) = false := by rw [hk]; decide
  have hb4 : (x.kind == 4) = true := by rw [hk]; decide
  clear hk
  unfold nodeV
  go_enter Tryd.func32, Tryd.ntmps32
  go_wp2_with fail
  go_ret
  exact ⟨ret_strl HV.out.symm, below_box⟩

set_option maxHeartbeats 1000000 in
theorem refAtom_5 (x : Nd) (w : World) (n1 : -1000000 ≤ x.n) (n2 : x.n ≤ 1000000) (d1 : 1 ≤ x.d) (d2 : x.d ≤ 1000000) (hk : x.kind = 5) :
    Calls Tryd.prog 32 #[nodeV x] w fun e w' => e = .returned (.string ⟨⟨atomL x⟩⟩) ∧ Below w.heap.size w w' := by
  have HV : Hid (atomL x = numL x.n x.d) := by show _ = _; unfold atomL; rw [if_neg (by omega), if_neg (by omega), if_neg (by omega), if_pos hk]
  have hb0 : (x.kind == 0) = false := by rw [hk]; decide
  have hb3 : (x.kind == 3) = false := by rw [hk]; decide
  have hb4 : (x.kind == 4) = false := by rw [hk]; decide
  have hb5 : (x.kind == 5) = true := by rw [hk]; decide
  clear hk
  unfold nodeV
  have hl1 := itoa_len x.n (by omega) (by omega)
  have hl2 := itoa_len x.d (by omega) (by omega)
  have ks := str_app
  cases hd : (x.d == 1)
  · have HN : Hid (numL x.n x.d = Lib.itoa x.n ++ 47 :: Lib.itoa x.d) := by show _ = _; rw [beq_eq_false_iff_ne] at hd; unfold numL; rw [if_neg hd]
    go_enter Tryd.func32, Tryd.ntmps32
    go_wp2_with fail
    refine (digitsOf_any _ _ (by omega) (by omega)).mono ?_
    rintro e w' ⟨rfl, rfl⟩
    go_wp2_with fail
    refine (digitsOf_any _ _ (by omega) (by omega)).mono ?_
    rintro e w' ⟨rfl, rfl⟩
    go_wp2_with fail
    go_ret
    refine ⟨ret_strl ?_, below_box⟩
    rw [HV.out, HN.out]
  · have HN : Hid (numL x.n x.d = Lib.itoa x.n) := by show _ = _; rw [beq_iff_eq] at hd; unfold numL; rw [if_pos hd]
    go_enter Tryd.func32, Tryd.ntmps32
    go_wp2_with fail
    refine (digitsOf_any _ _ (by omega) (by omega)).mono ?_
    rintro e w' ⟨rfl, rfl⟩
    go_wp2_with fail
    go_ret
    refine ⟨ret_strl ?_, below_box⟩
    rw [HV.out, HN.out]

set_option maxHeartbeats 1000000 in
theorem refAtom_6 (x : Nd) (w : World) (hk : x.kind = 6) :
    Calls Tryd.prog 32 #[nodeV x] w fun e w' => e = .returned (.string ⟨⟨atomL x⟩⟩) ∧ Below w.heap.size w w' := by
  have HV : Hid (atomL x = (if x.n = 1 then [35, 116] else [35, 102])) := by show _ = _; unfold atomL; rw [if_neg (by omega), if_neg (by omega), if_neg (by omega), if_neg (by omega), if_pos hk]
  have hb0 : (x.kind == 0) = false := by rw [hk]; decide
  have hb3 : (x.kind == 3) = false := by rw [hk]; decide
  have hb4 : (x.kind == 4) = false := by rw [hk]; decide
  have hb5 : (x.kind == 5) = false := by rw [hk]; decide
  have hb6 : (x.kind == 6) = true := by rw [hk]; decide
  clear hk
  unfold nodeV
  cases hd : (x.n == 1)
  · have HN : Hid ((if x.n = 1 then [35, 116] else [35, 102] : List UInt8) = [35, 102]) := by show _ = _; rw [beq_eq_false_iff_ne] at hd; rw [if_neg hd]
    go_enter Tryd.func32, Tryd.ntmps32
    go_wp2_with fail
    go_ret
    exact ⟨ret_strl (by rw [HV.out, HN.out]), below_box⟩
  · have HN : Hid ((if x.n = 1 then [35, 116] else [35, 102] : List UInt8) = [35, 116]) := by show _ = _; rw [beq_iff_eq] at hd; rw [if_pos hd]
    go_enter Tryd.func32, Tryd.ntmps32
    go_wp2_with fail
    go_ret
    exact ⟨ret_strl (by rw [HV.out, HN.out]), below_box⟩

set_option maxHeartbeats 1000000 in
theorem refAtom_7 (x : Nd) (w : World) (hch : charB x.n = true) (hk : x.kind = 7) :
    Calls Tryd.prog 32 #[nodeV x] w fun e w' => e = .returned (.string ⟨⟨atomL x⟩⟩) ∧ Below w.heap.size w w' := by
  have HV : Hid (atomL x = charL x.n) := by show _ = _; unfold atomL; rw [if_neg (by omega), if_neg (by omega), if_neg (by omega), if_neg (by omega), if_neg (by omega)]
  have hb0 : (x.kind == 0) = false := by rw [hk]; decide
  have hb3 : (x.kind == 3) = false := by rw [hk]; decide
  have hb4 : (x.kind == 4) = false := by rw [hk]; decide
  have hb5 : (x.kind == 5) = false := by rw [hk]; decide
  have hb6 : (x.kind == 6) = false := by rw [hk]; decide
  clear hk
  unfold nodeV
  have ks := str_app
  cases hnm : hasName x.n
  · have hrange : 33 ≤ x.n ∧ x.n ≤ 126 := by unfold charB at hch; rw [hnm] at hch; simpa using hch
    obtain ⟨r1, r2⟩ := hrange
    have HN : Hid (charL x.n = [35, 92, UInt8.ofNat x.n.toNat]) := by show _ = _; unfold charL; rw [hnm]; simp
    have hne : nameOf x.n = [] := by
      have := nameOf_isEmpty x.n
      rw [hnm] at this; simpa using this
    clear hch
    obtain ⟨c, hc⟩ : ∃ c : UInt8, Hid (c = UInt8.ofNat x.n.toNat) := ⟨_, rfl⟩
    have hcn : (c.toNat : Int) = x.n := by rw [hc.out, UInt8.toNat_ofNat_of_lt' (show x.n.toNat < 256 by omega)]; omega
    have HCN : Hid _ := hcn
    go_enter Tryd.func32, Tryd.ntmps32
    go_wp2_with fail
    refine (refName_any _ _).mono ?_
    rw [hne]; rintro e w2 ⟨rfl, hb2⟩
    obtain ⟨hcell, hfz⟩ := blk_cells hb2
    have HB : Hid (Below w.heap.size w w2) := below_box.trans (hb2.mono (by simp))
    have hz : w.heap.size ≤ w2.heap.size := HB.out.size
    clear hb2 hfz hne hcn
    have kc : (convert 56 9 (.slice (some ⟨w2.heap.size, 0, none⟩) 1 1)).run Tryd.prog (w2.alloc (.cells #[.int .u8 x.n] 5)) = .ok (.string ⟨⟨[c]⟩⟩) (w2.alloc (.cells #[.int .u8 x.n] 5)) := by rw [← HCN.out]; exact conv1 w2 c
    go_wp2_with fail
    go_ret
    refine ⟨ret_strl ?_, HB.out.alloc hz _⟩
    rw [HV.out, HN.out, hc.out]
  · have HN : Hid (charL x.n = 35 :: 92 :: nameOf x.n) := by show _ = _; unfold charL; rw [hnm]; simp
    have hne : (nameOf x.n).isEmpty = false := by
      have := nameOf_isEmpty x.n
      rw [hnm] at this; simpa using this
    have hnl : (nameOf x.n).length ≤ 10 := by unfold nameOf; repeat' split
                                              all_goals simp
    clear hch
    go_enter Tryd.func32, Tryd.ntmps32
    go_wp2_with fail
    refine (refName_any _ _).mono ?_
    rintro e w2 ⟨rfl, hb2⟩
    have HB : Hid (Below w.heap.size w w2) := below_box.trans (hb2.mono (by simp))
    clear hb2
    go_wp2_with fail
    go_ret
    refine ⟨ret_strl ?_, HB.out⟩
    rw [HV.out, HN.out]
end
end Go.Proofs.YtlhimdjkkiflhaaDoor
