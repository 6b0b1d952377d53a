/- The program's atoms, as texts. -/
import Derived.Test.YtlhimdjkkiflhaaDoorQuoted
import Derived.Test.YtlhimdjkkiflhaaDoorShelf
import Derived.Lib.AppendIntMem
namespace Go.Proofs.YtlhimdjkkiflhaaDoor
open Go.RowKit Go.Loop

/-- the table that strconv reads -/
def Pow (w : World) : Prop := Lib.TabIs Tryd.prog w "internal/strconv.uint64pow10" .u64 Lib.pow10Tab
theorem Pow.on {w w' : World} (h : Pow w) (hb : Below w.heap.size w w') : Pow w' := Lib.tabBelow_of_tabIs h w' hb
theorem itoa_any (n : Int) (w : World) (h1 : -1000000000 ≤ n) (h2 : n ≤ 1000000000) (hp : Pow w) :
    Calls Tryd.prog 39 #[.int .i64 n] w fun e w' => e = .returned (.string ⟨⟨Lib.itoa n⟩⟩) ∧ Below w.heap.size w w' := by
  refine (Tryd.strconv_Itoa n (by omega) (by omega) w hp).mono ?_
  rintro e w' ⟨rfl, k, os, rfl⟩
  exact ⟨rfl, Lib.below_grow _ w (Nat.le_refl _) k os⟩

def truthL (n : Int) : List UInt8 := if n = 1 then [35, 116] else [35, 102]
set_option maxHeartbeats 1000000 in
theorem truth_any (n : Int) (w : World) :
    Calls Tryd.prog 59 #[.int .i64 n] w fun e w' => e = .returned (.string ⟨⟨truthL n⟩⟩) ∧ w' = w := by
  cases hn : (n == 1)
  · have HV : Hid (truthL n = [35, 102]) := by show _ = _; unfold truthL; rw [beq_eq_false_iff_ne] at hn; rw [if_neg hn]
    go_enter Tryd.func59, Tryd.ntmps59
    go_wp2_with fail
    go_ret
    exact ⟨ret_strl HV.out.symm, rfl⟩
  · have HV : Hid (truthL n = [35, 116]) := by show _ = _; unfold truthL; rw [beq_iff_eq] at hn; rw [if_pos hn]
    go_enter Tryd.func59, Tryd.ntmps59
    go_wp2_with fail
    go_ret
    exact ⟨ret_strl HV.out.symm, rfl⟩

theorem encode_ascii : ∀ k : Nat, k < 128 → Utf8.encode (k : Int) = ⟨⟨[UInt8.ofNat k]⟩⟩ := by decide +kernel

set_option maxHeartbeats 1000000 in
theorem char_any (n : Int) (w : World) (hc : charB n = true) :
    Calls Tryd.prog 60 #[.int .i64 n] w fun e w' => e = .returned (.string ⟨⟨charL n⟩⟩) ∧ w' = w := by
  have ks := str_app
  have HNm : Hid (charL n = 35 :: 92 :: (if hasName n then nameOf n else [UInt8.ofNat n.toNat])) := rfl
  have hln : (nameOf n).length ≤ 7 := by unfold nameOf; repeat' split
                                         all_goals simp
  cases hn : hasName n
  · have hr : 33 ≤ n ∧ n ≤ 126 := by unfold charB at hc; rw [hn] at hc; simpa using hc
    obtain ⟨k, rfl⟩ : ∃ k : Nat, n = k := ⟨n.toNat, by omega⟩
    have he := encode_ascii k (by omega)
    go_enter Tryd.func60, Tryd.ntmps60
    go_wp2_with (go_at_call 52; refine (nameOf_any _ _).mono ?_)
    rintro e w1 ⟨rfl, rfl⟩
    rw [hn]
    go_wp2_with fail
    go_ret
    refine ⟨ret_strl ?_, rfl⟩
    rw [HNm.out, hn]; simp
  · go_enter Tryd.func60, Tryd.ntmps60
    go_wp2_with (go_at_call 52; refine (nameOf_any _ _).mono ?_)
    rintro e w1 ⟨rfl, rfl⟩
    rw [hn]
    go_wp2_with fail
    go_ret
    refine ⟨ret_strl ?_, rfl⟩
    rw [HNm.out, hn]; simp

set_option maxHeartbeats 1000000 in
theorem number_any (n d : Int) (w : World) (n1 : -1000000 ≤ n) (n2 : n ≤ 1000000) (d1 : 1 ≤ d) (d2 : d ≤ 1000000) (hp : Pow w) :
    Calls Tryd.prog 58 #[.int .i64 n, .int .i64 d] w fun e w' => e = .returned (.string ⟨⟨numL n d⟩⟩) ∧ Below w.heap.size w w' := by
  have hl1 := itoa_len n (by omega) (by omega)
  have hl2 := itoa_len d (by omega) (by omega)
  have ks := str_app
  have HP : Hid (Pow w) := hp
  clear hp
  cases hd : (d == 1)
  · have HN : Hid (numL n d = Lib.itoa n ++ 47 :: Lib.itoa d) := by show _ = _; rw [beq_eq_false_iff_ne] at hd; unfold numL; rw [if_neg hd]
    go_enter Tryd.func58, Tryd.ntmps58
    go_wp2_with (go_at_call 39; refine (itoa_any n _ (by omega) (by omega) HP.out).mono ?_)
    rintro e w1 ⟨rfl, hb1⟩
    have HB1 : Hid (Below w.heap.size w w1) := hb1
    clear hb1
    go_wp2_with (go_at_call 39; refine (itoa_any d _ (by omega) (by omega) (HP.out.on HB1.out)).mono ?_)
    rintro e w2 ⟨rfl, hb2⟩
    have HB2 : Hid (Below w.heap.size w w2) := HB1.out.trans (hb2.mono HB1.out.size)
    clear hb2
    go_wp2_with fail
    go_ret
    refine ⟨ret_strl ?_, HB2.out⟩
    rw [HN.out]; first | done | simp
  · have HN : Hid (numL n d = Lib.itoa n) := by show _ = _; rw [beq_iff_eq] at hd; unfold numL; rw [if_pos hd]
    go_enter Tryd.func58, Tryd.ntmps58
    go_wp2_with (go_at_call 39; refine (itoa_any n _ (by omega) (by omega) HP.out).mono ?_)
    rintro e w1 ⟨rfl, hb1⟩
    have HB1 : Hid (Below w.heap.size w w1) := hb1
    clear hb1
    go_wp2_with fail
    go_ret
    exact ⟨ret_strl HN.out.symm, HB1.out⟩

set_option maxHeartbeats 1000000 in
theorem atom_0 (x : Nd) (w : World) (hk : x.kind = 0) :
    Calls Tryd.prog 43 #[nodeV x] w fun e w' => e = .returned (.string ⟨⟨atomL x⟩⟩) ∧ Below w.heap.size w w' := by
  have HV : Hid (atomL x = [40, 41]) := by show _ = _; unfold atomL; rw [if_pos hk]
  have hb3 : (x.kind == 3) = false := by rw [hk]; decide
  have hb4 : (x.kind == 4) = false := by rw [hk]; decide
  have hb5 : (x.kind == 5) = false := by rw [hk]; decide
  have hb6 : (x.kind == 6) = false := by rw [hk]; decide
  have hb7 : (x.kind == 7) = false := by rw [hk]; decide
  clear hk
  unfold nodeV
  go_enter Tryd.func43, Tryd.ntmps43
  go_wp2_with fail
  go_ret
  exact ⟨ret_strl HV.out.symm, below_box⟩

set_option maxHeartbeats 1000000 in
theorem atom_3 (x : Nd) (w : World) (ht : x.text.length ≤ 400) (hk : x.kind = 3) :
    Calls Tryd.prog 43 #[nodeV x] w fun e w' => e = .returned (.string ⟨⟨atomL x⟩⟩) ∧ Below w.heap.size w w' := by
  have HV : Hid (atomL x = quoteL x.text) := by show _ = _; unfold atomL; rw [if_neg (by omega), if_pos hk]
  have hb3 : (x.kind == 3) = true := by rw [hk]; decide
  have hb4 : (x.kind == 4) = false := by rw [hk]; decide
  have hb5 : (x.kind == 5) = false := by rw [hk]; decide
  have hb6 : (x.kind == 6) = false := by rw [hk]; decide
  have hb7 : (x.kind == 7) = false := by rw [hk]; decide
  clear hk
  unfold nodeV
  go_enter Tryd.func43, Tryd.ntmps43
  go_wp2_with (go_at_call 57; refine (quoted_any x.text _ ht).mono ?_)
  rintro e w1 ⟨rfl, hb⟩
  have HB : Hid (Below w.heap.size w w1) := below_box.trans (hb.mono (by simp))
  clear hb
  go_wp2_with fail
  go_ret
  exact ⟨ret_strl HV.out.symm, HB.out⟩

set_option maxHeartbeats 1000000 in
theorem atom_4 (x : Nd) (w : World) (hk : x.kind = 4) :
    Calls Tryd.prog 43 #[nodeV x] w fun e w' => e = .returned (.string ⟨⟨atomL x⟩⟩) ∧ Below w.heap.size w w' := by
  have HV : Hid (atomL x = x.text) := by show _ = _; unfold atomL; rw [if_neg (by omega), if_neg (by omega), if_pos hk]
  have hb3 : (x.kind == 3) = false := by rw [hk]; decide
  have hb4 : (x.kind == 4) = true := by rw [hk]; decide
  have hb5 : (x.kind == 5) = false := by rw [hk]; decide
  have hb6 : (x.kind == 6) = false := by rw [hk]; decide
  have hb7 : (x.kind == 7) = false := by rw [hk]; decide
  clear hk
  unfold nodeV
  go_enter Tryd.func43, Tryd.ntmps43
  go_wp2_with fail
  go_ret
  exact ⟨ret_strl HV.out.symm, below_box⟩

set_option maxHeartbeats 1000000 in
theorem atom_5 (x : Nd) (w : World) (n1 : -1000000 ≤ x.n) (n2 : x.n ≤ 1000000) (d1 : 1 ≤ x.d) (d2 : x.d ≤ 1000000) (hp : Pow w) (hk : x.kind = 5) :
    Calls Tryd.prog 43 #[nodeV x] w fun e w' => e = .returned (.string ⟨⟨atomL x⟩⟩) ∧ Below w.heap.size w w' := by
  have HV : Hid (atomL x = numL x.n x.d) := by show _ = _; unfold atomL; rw [if_neg (by omega), if_neg (by omega), if_neg (by omega), if_pos hk]
  have hb3 : (x.kind == 3) = false := by rw [hk]; decide
  have hb4 : (x.kind == 4) = false := by rw [hk]; decide
  have hb5 : (x.kind == 5) = true := by rw [hk]; decide
  have hb6 : (x.kind == 6) = false := by rw [hk]; decide
  have hb7 : (x.kind == 7) = false := by rw [hk]; decide
  clear hk
  have HPA : Hid (∀ o : Obj, Pow (w.alloc o)) := fun o => hp.on below_box
  clear hp
  unfold nodeV
  go_enter Tryd.func43, Tryd.ntmps43
  go_wp2_with (go_at_call 58; refine (number_any x.n x.d _ n1 n2 d1 d2 (HPA.out _)).mono ?_)
  rintro e w1 ⟨rfl, hb⟩
  have HB : Hid (Below w.heap.size w w1) := below_box.trans (hb.mono (by simp))
  clear hb
  go_wp2_with fail
  go_ret
  exact ⟨ret_strl HV.out.symm, HB.out⟩

set_option maxHeartbeats 1000000 in
theorem atom_6 (x : Nd) (w : World) (hk : x.kind = 6) :
    Calls Tryd.prog 43 #[nodeV x] w fun e w' => e = .returned (.string ⟨⟨atomL x⟩⟩) ∧ Below w.heap.size w w' := by
  have HV : Hid (atomL x = truthL x.n) := by show _ = _; unfold atomL; rw [if_neg (by omega), if_neg (by omega), if_neg (by omega), if_neg (by omega), if_pos hk]; rfl
  have hb3 : (x.kind == 3) = false := by rw [hk]; decide
  have hb4 : (x.kind == 4) = false := by rw [hk]; decide
  have hb5 : (x.kind == 5) = false := by rw [hk]; decide
  have hb6 : (x.kind == 6) = true := by rw [hk]; decide
  have hb7 : (x.kind == 7) = false := by rw [hk]; decide
  clear hk
  unfold nodeV
  go_enter Tryd.func43, Tryd.ntmps43
  go_wp2_with (go_at_call 59; refine (truth_any x.n _).mono ?_)
  rintro e w1 ⟨rfl, rfl⟩
  go_wp2_with fail
  go_ret
  exact ⟨ret_strl HV.out.symm, below_box⟩

set_option maxHeartbeats 1000000 in
theorem atom_7 (x : Nd) (w : World) (hc : charB x.n = true) (hk : x.kind = 7) :
    Calls Tryd.prog 43 #[nodeV x] w fun e w' => e = .returned (.string ⟨⟨atomL x⟩⟩) ∧ Below w.heap.size w w' := by
  have HV : Hid (atomL x = charL x.n) := by show _ = _; unfold atomL; rw [if_neg (by omega), if_neg (by omega), if_neg (by omega), if_neg (by omega), if_neg (by omega)]
  have hb3 : (x.kind == 3) = false := by rw [hk]; decide
  have hb4 : (x.kind == 4) = false := by rw [hk]; decide
  have hb5 : (x.kind == 5) = false := by rw [hk]; decide
  have hb6 : (x.kind == 6) = false := by rw [hk]; decide
  have hb7 : (x.kind == 7) = true := by rw [hk]; decide
  clear hk
  unfold nodeV
  go_enter Tryd.func43, Tryd.ntmps43
  go_wp2_with (go_at_call 60; refine (char_any x.n _ hc).mono ?_)
  rintro e w1 ⟨rfl, rfl⟩
  go_wp2_with fail
  go_ret
  exact ⟨ret_strl HV.out.symm, below_box⟩

end Go.Proofs.YtlhimdjkkiflhaaDoor
