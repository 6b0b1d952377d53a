/- The law's own comparisons: lists of numbers, nodes. -/
import Derived.Test.YtlhimdjkkiflhaaDoorGraphB
namespace Go.Proofs.YtlhimdjkkiflhaaDoor
open Go.RowKit Go.Loop

theorem IntsAt.some {w : World} {a : Option Addr} {l : List Int} (h : IntsAt w a l) {k : Nat} (hk : k < l.length) : ∃ b o, a = some ⟨b, o, none⟩ ∧ ∀ j, j < l.length → w.cell? ⟨b, o + j, none⟩ = some (.int .i64 (l.getD j 0)) := by
  rcases h with rfl | h
  · simp at hk
  · exact h
theorem take_ext (l m : List Int) (h : l.length = m.length) (k : Nat) (hk : k < l.length) (ht : l.take k = m.take k) (he : l.getD k 0 = m.getD k 0) : l.take (k + 1) = m.take (k + 1) := by
  rw [List.take_succ_eq_append_getElem hk, List.take_succ_eq_append_getElem (by omega), ht]
  simp only [List.getD, List.getElem?_eq_getElem hk, List.getElem?_eq_getElem (show k < m.length by omega), Option.getD_some] at he
  rw [he]
theorem ne_at (l m : List Int) (k : Nat) (he : l.getD k 0 ≠ m.getD k 0) : l ≠ m := fun h => he (by rw [h])

set_option maxHeartbeats 1000000 in
theorem sameInts_any (la lb : List Int) (a b : Option Addr) (ca cb : Nat) (w : World) (ha : IntsAt w a la) (hb : IntsAt w b lb) (h1 : la.length ≤ maxLen) (_h2 : lb.length ≤ maxLen) :
    Calls Tryd.prog 26 #[.slice a la.length ca, .slice b lb.length cb] w fun e w' => e = .returned (.bool (decide (la = lb))) ∧ ∃ m, w' = w.drewN m := by
  unfold maxLen at h1
  have HA : Hid _ := ha
  have HB : Hid _ := hb
  clear ha hb
  by_cases hl : la.length = lb.length
  · have HL : Hid _ := hl
    have hbl : ((la.length : Int) != (lb.length : Int)) = false := by simp; omega
    go_enter Tryd.func26, Tryd.ntmps26
    go_wp2_with fail
    go_loopw [5] (fun i wr => ∃ k m : Nat, k ≤ la.length ∧ i = .int .i64 k ∧ Hid (la.take k = lb.take k) ∧ wr = w.drewN m) (fun i _ => la.length - (intOf i).toNat)
    case atStart => exact ⟨0, 0, Nat.zero_le _, rfl, rfl, rfl⟩
    case round =>
      obtain ⟨k, m, hk, rfl, ht, rfl⟩ := hrel
      by_cases hlt : k < la.length
      · obtain ⟨b1, o1, rfl, hc1⟩ := IntsAt.some HA.out hlt
        obtain ⟨b2, o2, rfl, hc2⟩ := IntsAt.some HB.out (k := k) (by omega)
        have c1 := hc1 k hlt
        have c2 := hc2 k (by omega)
        have hlt2 : k < lb.length := by omega
        have HX : Hid (la.getD k 0 = lb.getD k 0 → la.take (k + 1) = lb.take (k + 1)) := take_ext la lb hl k hlt ht.out
        have HN : Hid (la.getD k 0 ≠ lb.getD k 0 → la ≠ lb) := ne_at la lb k
        clear hc1 hc2 HA HB ht
        generalize la.getD k 0 = x at *
        generalize lb.getD k 0 = y at *
        by_cases hxy : x = y
        · have hb1 : (x != y) = false := by simpa using hxy
          go_wp2_with fail
          go_quiet (fail)
          go_wp2_with fail
          go_roundw
          case rel => exact ⟨k + 1, _, by omega, by go_num, HX.out hxy, rfl⟩
          case measure => simp [intOf]; omega
        · have hb1 : (x != y) = true := by simpa using hxy
          go_wp2_with fail
          go_quiet (fail)
          go_wp2_with fail
          go_ret
          exact ⟨ret_bool (by rw [decide_eq_false (HN.out hxy)]), _, World.drewN_drewN _ _ _⟩
      · have HE : Hid (la = lb) := by
          have := ht.out; rw [List.take_of_length_le (by omega), List.take_of_length_le (by omega)] at this; exact this
        go_wp2_with fail
        go_ret
        exact ⟨ret_bool (by rw [decide_eq_true HE.out]), _, rfl⟩
  · have HE : Hid (la ≠ lb) := fun h => hl (by rw [h])
    have hbl : ((la.length : Int) != (lb.length : Int)) = true := by simp; omega
    go_enter Tryd.func26, Tryd.ntmps26
    go_wp2_with fail
    go_ret
    exact ⟨ret_bool (by rw [decide_eq_false HE.out]), 0, rfl⟩

theorem eq_dec (a b : Int) : (a == b) = decide (a = b) := by rw [Bool.eq_iff_iff]; simp
/-- do two nodes read alike? -/
def sameB (x y : Nd) : Bool := decide (x.subs = y.subs) && decide (x.kind = y.kind) && decide (x.text = y.text) && decide (x.n = y.n) && decide (x.d = y.d)

set_option maxHeartbeats 1000000 in
theorem sameNode_any (x y : Nd) (w : World) (hx : IntsAt w x.sa x.subs) (hy : IntsAt w y.sa y.subs) (h1 : x.subs.length ≤ maxLen) (h2 : y.subs.length ≤ maxLen) :
    Calls Tryd.prog 14 #[nodeV x, nodeV y] w fun e w' => e = .returned (.bool (sameB x y)) ∧ Below w.heap.size w w' := by
  unfold nodeV
  have HX : Hid _ := hx
  have HY : Hid _ := hy
  clear hx hy
  go_enter Tryd.func14, Tryd.ntmps14
  go_wp2_with fail
  refine (sameInts_any _ _ _ _ _ _ _ (IntsAt.below HX.out ?_) (IntsAt.below HY.out ?_) h1 h2).mono ?_
  · exact below_box.trans (below_box.mono (by simp))
  · exact below_box.trans (below_box.mono (by simp))
  rintro e w1 ⟨rfl, m, rfl⟩
  have HV : Hid (sameB x y = (decide (x.subs = y.subs) && decide (x.kind = y.kind) && decide (x.text = y.text) && decide (x.n = y.n) && decide (x.d = y.d))) := rfl
  clear HX HY
  go_wp2_with fail
  all_goals
    go_ret
    exact ⟨ret_bool (by rw [HV.out]; simp [*, eq_dec]), below_drewN (below_box.trans (below_box.mono (by simp))) _⟩
end Go.Proofs.YtlhimdjkkiflhaaDoor
