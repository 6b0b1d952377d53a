/- The program's labels: which nodes have one; is there a loop? -/
import Derived.Test.YtlhimdjkkiflhaaDoorOwn4
import Derived.Test.YtlhimdjkkiflhaaDoorRank
namespace Go.Proofs.YtlhimdjkkiflhaaDoor
open Go.RowKit Go.Loop

set_option maxHeartbeats 400000 in
theorem shared_any (k : Int) (w : World) :
    Calls Tryd.prog 25 #[.int .i64 k] w fun e w' => e = .returned (.bool (decide (1 ≤ k ∧ k ≤ 3))) ∧ w' = w := by
  go_enter Tryd.func25, Tryd.ntmps25
  go_wp2
  all_goals
    go_ret
    refine ⟨ret_bool ?_, rfl⟩
    rw [Bool.eq_iff_iff]; simp; omega

/-- the labels of the first k nodes -/
def hasTo (G : List Nd) (mode : Int) : Nat → List Bool
  | 0 => List.replicate G.length false
  | k + 1 => (hasTo G mode k).set k (labB G mode k)
theorem hasTo_len (G : List Nd) (mode : Int) : ∀ k, (hasTo G mode k).length = G.length
  | 0 => by simp [hasTo]
  | k + 1 => by simp [hasTo, hasTo_len G mode k]
theorem hasTo_get (G : List Nd) (mode : Int) : ∀ k, k ≤ G.length → ∀ i, (hasTo G mode k).getD i false = if i < k then labB G mode i else false
  | 0, _, i => by simp only [hasTo]; rw [getD_rep, if_neg (by omega)]
  | k + 1, hk, i => by
    simp only [hasTo]
    rw [getD_set _ _ _ _ _ (by rw [hasTo_len]; omega), hasTo_get G mode k (by omega) i]
    by_cases e : i = k
    · subst e; rw [if_pos rfl, if_pos (by omega)]
    · rw [if_neg e]
      by_cases h : i < k
      · rw [if_pos h, if_pos (by omega)]
      · rw [if_neg h, if_neg (by omega)]
theorem hasTo_same (G : List Nd) (mode : Int) (k : Nat) (hk : k < G.length) (h : labB G mode k = false) : hasTo G mode (k + 1) = hasTo G mode k := by
  show (hasTo G mode k).set k (labB G mode k) = _
  rw [h]
  have := set_self (hasTo G mode k) k
  rw [hasTo_get G mode k (by omega) k, if_neg (by omega)] at this
  exact this

set_option maxHeartbeats 1000000 in
theorem index_any (l : List Bool) (bw n : Nat) (hl : l.length = n) (hn : n ≤ 150) (w : World) (hr : RowB w bw l) :
    Calls Tryd.prog 37 #[.slice (some ⟨bw, 0, none⟩) n n, .bool true] w fun e w' => (∃ z : Int, e = .returned (.int .i64 z) ∧ (0 ≤ z ↔ l.any id = true)) ∧ w' = w := by
  have HR : Hid _ := hr
  clear hr
  go_enter Tryd.func37, Tryd.ntmps37
  go_wp2_with fail
  go_loopw [8] (fun i wr => ∃ k : Nat, k ≤ n ∧ i = .int .i64 k ∧ wr = w ∧ Hid (∀ j, j < k → l.getD j false = false)) (fun i _ => n - (intOf i).toNat)
  case atStart => exact ⟨0, Nat.zero_le _, rfl, rfl, fun j hj => by omega⟩
  case round =>
    obtain ⟨k, hk, rfl, rfl, hz⟩ := hrel
    by_cases hlt : k < n
    · obtain ⟨c, _⟩ := HR.out k (by omega)
      cases hv : l.getD k false
      · rw [hv] at c
        have HV : Hid _ := hv
        clear hv
        go_wp2_with fail
        go_roundw
        case rel => exact ⟨k + 1, by omega, by go_num, trivial, fun j hj => by
          rcases Nat.lt_or_ge j k with h | h
          · exact hz.out j h
          · obtain rfl : j = k := by omega
            exact HV.out⟩
        case measure => simp [intOf]; omega
      · rw [hv] at c
        have HV : Hid (l.any id = true) := by
          rw [List.any_eq_true]
          have hkl : k < l.length := by omega
          refine ⟨l[k], List.getElem_mem hkl, ?_⟩
          simp only [List.getD, List.getElem?_eq_getElem hkl, Option.getD_some] at hv
          exact hv
        clear hv
        go_wp2_with fail
        go_ret
        exact ⟨⟨_, rfl, ⟨fun _ => HV.out, fun _ => by omega⟩⟩, rfl⟩
    · have HV : Hid (l.any id = false) := by
        rw [List.any_eq_false]
        intro x hx
        obtain ⟨j, hj, rfl⟩ := List.mem_iff_getElem.1 hx
        have := hz.out j (by omega)
        simp only [List.getD, List.getElem?_eq_getElem hj, Option.getD_some] at this
        simp [this]
      go_wp2_with fail
      go_ret
      exact ⟨⟨_, rfl, ⟨fun h => by omega, fun h => by rw [HV.out] at h; exact absurd h (by simp)⟩⟩, rfl⟩

set_option maxHeartbeats 1000000 in
theorem loops_any (l : List Bool) (bw n : Nat) (hl : l.length = n) (hn : n ≤ 150) (vm : Value) (hvm : ∃ a c d, vm = .slice a c d) (w : World) (hr : RowB w bw l) :
    Calls Tryd.prog 11 #[.agg #[vm, .slice (some ⟨bw, 0, none⟩) n n]] w fun e w' => e = .returned (.bool (l.any id)) ∧ Below w.heap.size w w' := by
  obtain ⟨a, c, d, rfl⟩ := hvm
  have HR : Hid (RowB (w.alloc (.cells #[.slice a c d, .slice (some ⟨bw, 0, none⟩) n n] 37)) bw l) := fun i hi => by
    obtain ⟨h1, h2⟩ := hr i hi
    have hb : bw < w.heap.size := cell_lt h1
    rw [below_box.cell (p := ⟨bw, i, none⟩) hb, below_box.frozen (p := ⟨bw, i, none⟩) hb]; exact ⟨h1, h2⟩
  clear hr
  have hcon : Calls Tryd.prog 22 #[.slice (some ⟨bw, 0, none⟩) n n, .bool true] (w.alloc (.cells #[.slice a c d, .slice (some ⟨bw, 0, none⟩) n n] 37)) fun e w' => e = .returned (.bool (l.any id)) ∧ w' = (w.alloc (.cells #[.slice a c d, .slice (some ⟨bw, 0, none⟩) n n] 37)) := by
    generalize w.alloc (.cells #[.slice a c d, .slice (some ⟨bw, 0, none⟩) n n] 37) = w1 at *
    go_enter Tryd.func22, Tryd.ntmps22
    go_wp2_with fail
    refine (index_any l bw n hl hn _ HR.out).mono ?_
    rintro e w2 ⟨⟨z, rfl, hz⟩, rfl⟩
    have HZ : Hid _ := hz
    clear hz
    go_wp2_with fail
    go_ret
    refine ⟨ret_bool ?_, rfl⟩
    rw [Bool.eq_iff_iff]; simp [← HZ.out]
  have HC : Hid _ := hcon
  clear hcon HR
  go_enter Tryd.func11, Tryd.ntmps11
  go_wp2_with fail
  refine Calls.mono HC.out ?_
  rintro e w2 ⟨rfl, rfl⟩
  go_wp2_with fail
  go_ret
  exact ⟨rfl, below_box⟩
end Go.Proofs.YtlhimdjkkiflhaaDoor

/- The program's labels: labelled. -/
namespace Go.Proofs.YtlhimdjkkiflhaaDoor
open Go.RowKit Go.Loop

theorem RowB.below {w w' : World} {b : Nat} {l : List Bool} {B : Nat} (h : RowB w b l) (hb : Below B w w') (hB : b < B) : RowB w' b l := fun i hi => by
  rw [hb.cell (p := ⟨b, i, none⟩) hB, hb.frozen (p := ⟨b, i, none⟩) hB]; exact h i hi
theorem RowI.below {w w' : World} {b : Nat} {l : List Int} {B : Nat} (h : RowI w b l) (hb : Below B w w') (hB : b < B) : RowI w' b l := fun i hi => by
  rw [hb.cell (p := ⟨b, i, none⟩) hB, hb.frozen (p := ⟨b, i, none⟩) hB]; exact h i hi

set_option maxHeartbeats 2000000 in
theorem labelled_any (G : List Nd) (b o cap : Nat) (mode : Int) (hm : mode = 0 ∨ mode = 1 ∨ mode = 2) (bm bw : Nat) (w : World) (hG : GraphAt w b o G) (hn : G.length ≤ 150) (hok : (walkS (subsN G) G.length).Ok G.length)
    (hrm : RowI w bm (walkS (subsN G) G.length).met) (hrw : RowB w bw (walkS (subsN G) G.length).wi) :
    Calls Tryd.prog 13 #[.slice (some ⟨b, o, none⟩) G.length cap, .int .i64 mode, .agg #[.slice (some ⟨bm, 0, none⟩) G.length G.length, .slice (some ⟨bw, 0, none⟩) G.length G.length]] w
      fun e w' => ∃ bL, e = .returned (.slice (some ⟨bL, 0, none⟩) G.length G.length) ∧ RowB w' bL (hasTo G mode G.length) ∧ Below w.heap.size w w' := by
  have HG : Hid _ := hG
  have HM : Hid _ := hrm
  have HW : Hid _ := hrw
  have HO : Hid _ := hok
  have HMD : Hid _ := hm
  clear hG hrm hrw hok hm
  have mkb := run_make_row' (P := Tryd.prog) 35 4 (.bool false) 1 Tryd.underlying35 infoBool rfl .i64 .i64 G.length (by omega) (by omega)
  have HR0 : Hid (RowB ((w.alloc (.cells #[.slice (some ⟨bm, 0, none⟩) G.length G.length, .slice (some ⟨bw, 0, none⟩) G.length G.length] 37)).alloc (.cells (madeCells #[.bool false] G.length) 4)) (w.heap.size + 1) (hasTo G mode 0)) := by
    have := heap_alloc_new (w.alloc (.cells #[.slice (some ⟨bm, 0, none⟩) G.length G.length, .slice (some ⟨bw, 0, none⟩) G.length G.length] 37)) (.cells (madeCells #[.bool false] G.length) 4)
    rw [World.size_alloc] at this
    exact rowB_made this
  have HB0 : Hid (Below (w.heap.size + 1) (w.alloc (.cells #[.slice (some ⟨bm, 0, none⟩) G.length G.length, .slice (some ⟨bw, 0, none⟩) G.length G.length] 37)) ((w.alloc (.cells #[.slice (some ⟨bm, 0, none⟩) G.length G.length, .slice (some ⟨bw, 0, none⟩) G.length G.length] 37)).alloc (.cells (madeCells #[.bool false] G.length) 4))) :=
    (Below.refl _ _).alloc (by simp) _
  obtain ⟨wa, hwa⟩ : ∃ wa, Hid (wa = w.alloc (.cells #[.slice (some ⟨bm, 0, none⟩) G.length G.length, .slice (some ⟨bw, 0, none⟩) G.length G.length] 37)) := ⟨_, rfl⟩
  go_enter Tryd.func13, Tryd.ntmps13
  go_wp2_with fail
  go_loopw [14] (fun i wr => ∃ k : Nat, k ≤ G.length ∧ i = .int .i64 k ∧ Hid (RowB wr (w.heap.size + 1) (hasTo G mode k)) ∧ Hid (Below (w.heap.size + 1) wa wr)) (fun i _ => G.length - (intOf i).toNat)
  case atStart => exact ⟨0, Nat.zero_le _, rfl, HR0.out, by show Below _ _ _; rw [hwa.out]; exact HB0.out⟩
  case round =>
    obtain ⟨k, hk, rfl, hr, hb⟩ := hrel
    have hbb : Below w.heap.size w wr := below_box.trans ((hwa.out ▸ hb.out).mono (by omega))
    by_cases hlt : k < G.length
    · have q0 : wr.cell? ⟨w.heap.size, 0, none⟩ = some (.slice (some ⟨bm, 0, none⟩) G.length G.length) := by
        rw [hb.out.cell (p := ⟨w.heap.size, 0, none⟩) (show w.heap.size < w.heap.size + 1 by omega), hwa.out, World.cell?_alloc_at _ _ _ _ rfl]; rfl
      have q1 : wr.cell? ⟨w.heap.size, 1, none⟩ = some (.slice (some ⟨bw, 0, none⟩) G.length G.length) := by
        rw [hb.out.cell (p := ⟨w.heap.size, 1, none⟩) (show w.heap.size < w.heap.size + 1 by omega), hwa.out, World.cell?_alloc_at _ _ _ _ rfl]; rfl
      obtain ⟨cm, _⟩ := HM.out k (by rw [HO.out.lm]; exact hlt)
      obtain ⟨cw, _⟩ := HW.out k (by rw [HO.out.lw]; exact hlt)
      have cm' := cell_below hbb cm
      have cw' := cell_below hbb cw
      obtain ⟨ch, cf⟩ := hr.out k (by rw [hasTo_len]; exact hlt)
      have n0 := ((HG.out k hlt).below hbb).kind
      have HKD : Hid _ := kindN_at G k hlt
      have HLB : Hid (labB G mode k = if mode = 1 then (walkS (subsN G) G.length).wi.getD k false else if mode = 2 then decide (1 < (walkS (subsN G) G.length).met.getD k 0) && decide (1 ≤ kindN G k ∧ kindN G k ≤ 3) else false) := rfl
      rw [HKD.out] at HLB
      have HSET : ∀ v, Hid (RowB (wr.setCell ⟨w.heap.size + 1, k, none⟩ (.bool v)) (w.heap.size + 1) ((hasTo G mode k).set k v)) := fun v => hr.out.set k (by rw [hasTo_len]; exact hlt) v
      have HBS : ∀ v, Hid (Below (w.heap.size + 1) wa (wr.setCell ⟨w.heap.size + 1, k, none⟩ (.bool v))) := fun v => hb.out.setCell (p := ⟨w.heap.size + 1, k, none⟩) (Nat.le_refl _) _
      have HSM : Hid (labB G mode k = false → hasTo G mode (k + 1) = hasTo G mode k) := hasTo_same G mode k hlt
      have HST : Hid (hasTo G mode (k + 1) = (hasTo G mode k).set k (labB G mode k)) := rfl
      clear cm cw HKD hbb mkb HR0 HB0
      generalize (walkS (subsN G) G.length).wi.getD k false = wv at *
      generalize (walkS (subsN G) G.length).met.getD k 0 = mv at *
      generalize G[k].kind = kd at *
      generalize (hasTo G mode k).getD k false = hv at *
      rcases HMD.out with h0 | h0 | h0
      · have e1 : (mode == 1) = false := by rw [h0]; decide
        have e2 : (mode == 2) = false := by rw [h0]; decide
        have HL : Hid (labB G mode k = false) := by show _ = _; rw [HLB.out, if_neg (by omega), if_neg (by omega)]
        have HE : Hid _ := HSM.out HL.out
        clear h0 HSET HBS
        go_wp2_with fail
        go_roundw
        case rel => exact ⟨k + 1, by omega, by go_num, by show RowB _ _ _; rw [HE.out]; exact hr.out, hb⟩
        case measure => simp [intOf]; omega
      · have e1 : (mode == 1) = true := by rw [h0]; decide
        have HL : Hid (labB G mode k = wv) := by show _ = _; rw [HLB.out, if_pos h0]
        have HS1 := HSET wv
        have HB1 := HBS wv
        clear h0 HSET HBS
        go_wp2_with fail
        go_roundw
        case rel => exact ⟨k + 1, by omega, by go_num, by show RowB _ _ _; rw [HST.out, HL.out]; exact HS1.out, HB1⟩
        case measure => simp [intOf]; omega
      · have e1 : (mode == 1) = false := by rw [h0]; decide
        have e2 : (mode == 2) = true := by rw [h0]; decide
        have HL : Hid (labB G mode k = (decide (1 < mv) && decide (1 ≤ kd ∧ kd ≤ 3))) := by show _ = _; rw [HLB.out, if_neg (by omega), if_pos h0]
        have HS1 := HSET (decide (1 < mv) && decide (1 ≤ kd ∧ kd ≤ 3))
        have HB1 := HBS (decide (1 < mv) && decide (1 ≤ kd ∧ kd ≤ 3))
        clear h0 HSET HBS
        by_cases hmv : 1 < mv
        · rw [decide_eq_true hmv, Bool.true_and, Bool.decide_and] at HS1 HB1 HL
          go_wp2_with (go_at_call 25; refine (shared_any _ _).mono ?_; rintro e w' ⟨rfl, rfl⟩)
          go_roundw
          case rel => exact ⟨k + 1, by omega, by go_num, by show RowB _ _ _; rw [HST.out, HL.out]; exact HS1.out, HB1⟩
          case measure => simp [intOf]; omega
        · have hmv' : mv ≤ 1 := by omega
          rw [decide_eq_false hmv, Bool.false_and] at HS1 HB1 HL
          clear hmv
          go_wp2_with fail
          go_roundw
          case rel => exact ⟨k + 1, by omega, by go_num, by show RowB _ _ _; rw [HST.out, HL.out]; exact HS1.out, HB1⟩
          case measure => simp [intOf]; omega
    · obtain rfl : k = G.length := by omega
      have HF : Hid (Below w.heap.size w wr) := hbb
      go_wp2_with fail
      go_ret
      exact ⟨_, rfl, hr.out, HF.out⟩
end Go.Proofs.YtlhimdjkkiflhaaDoor
