/- The program's Write, whole. -/
import Derived.Test.YtlhimdjkkiflhaaDoorLab
import Derived.Test.YtlhimdjkkiflhaaDoorRefTopA
namespace Go.Proofs.YtlhimdjkkiflhaaDoor
open Go.RowKit Go.Loop

theorem any_cyc (G : List Nd) (h : (walkS (subsN G) G.length).Ok G.length) : (walkS (subsN G) G.length).wi.any id = cycB G := by
  have hl := h.lw
  unfold cycB
  rw [Bool.eq_iff_iff, List.any_eq_true, List.any_eq_true]
  constructor
  · rintro ⟨x, hx, hv⟩
    obtain ⟨j, hj, rfl⟩ := List.mem_iff_getElem.1 hx
    refine ⟨j, List.mem_range.2 (by omega), ?_⟩
    simp only [List.getD, List.getElem?_eq_getElem hj, Option.getD_some]
    exact hv
  · rintro ⟨j, hj, hv⟩
    have hj2 : j < (walkS (subsN G) G.length).wi.length := by rw [hl]; exact List.mem_range.1 hj
    refine ⟨_, List.getElem_mem hj2, ?_⟩
    simp only [List.getD, List.getElem?_eq_getElem hj2, Option.getD_some] at hv
    exact hv

theorem Pow.on' {w w' : World} (h : Pow w) (hb : Below w.heap.size w w') : Pow w' := h.on hb

/-- which nodes have a label, and what is written -/
theorem tail_any (G : List Nd) (b o cap : Nat) (mode : Int) (hm : mode = 0 ∨ mode = 1 ∨ mode = 2) (F : Nat) (hF : 403 ≤ F) (w : World) (bm bw : Nat) (hr : rightB G = true) (hG : GraphAt w b o G) (hp : Pow w)
    (hrm : RowI w bm (walkS (subsN G) G.length).met) (hrw : RowB w bw (walkS (subsN G) G.length).wi) (hc : mode = 0 → cycB G = false) :
    Calls Tryd.prog 13 #[.slice (some ⟨b, o, none⟩) G.length cap, .int .i64 mode, .agg #[.slice (some ⟨bm, 0, none⟩) G.length G.length, .slice (some ⟨bw, 0, none⟩) G.length G.length]] w
      fun e w1 => ∃ bL, e = .returned (.slice (some ⟨bL, 0, none⟩) G.length G.length) ∧ Below w.heap.size w w1 ∧
        Calls Tryd.prog 12 #[.slice (some ⟨b, o, none⟩) G.length cap, .slice (some ⟨bL, 0, none⟩) G.length G.length] w1 fun e w' => e = .returned (.tuple #[.string ⟨⟨outL (writeT G mode F)⟩⟩, .bool (okL (writeT G mode F))]) ∧ Below w1.heap.size w1 w' := by
  obtain ⟨h1, h150, hk, hs, h20⟩ := right_parts G hr
  have hok : (walkS (subsN G) G.length).Ok G.length := Ok.meet (subsN_lt G hs) _ _ _ (start_ok _) (by omega)
  refine (labelled_any G b o cap mode hm bm bw w hG h150 hok hrm hrw).mono ?_
  rintro e w1 ⟨bL, rfl, hrl, hb⟩
  obtain ⟨Rc, rk, r0, r1, r2⟩ := rank_some G hr mode hm hc
  refine ⟨bL, rfl, hb, ?_⟩
  refine writerWrite_any G b o cap w1 bL (labB G mode) Rc rk (fun p bl hp1 hp2 hp3 => ⟨hG.below hb, hk, hs, h150, hp1, hp2, hp3, fun i hi => ?_, hp.on hb, r1, r2⟩) r0 (by omega) h150 F hF (out_some G hr (labB G mode) F (by omega))
  have := (hrl i (by rw [hasTo_len]; exact hi)).1
  rw [hasTo_get G mode _ (Nat.le_refl _) i, if_pos hi] at this
  exact this

set_option maxHeartbeats 2000000 in
set_option maxRecDepth 100000 in
theorem ownWrite_any (G : List Nd) (b o cap : Nat) (mode : Int) (F : Nat) (hF : 403 ≤ F) (w : World) (hlen : G.length ≤ maxLen) (hG : GraphAt w b o G) (hp : Pow w) :
    Calls Tryd.prog 5 #[(.slice (some ⟨b, o, none⟩) G.length cap), .int .i64 mode] w fun e w' => e = .returned (.tuple #[.string ⟨⟨(writeP G mode F).1⟩⟩, .int .i64 (writeP G mode F).2]) ∧ Below w.heap.size w w' := by
  have HG : Hid (GraphAt w b o G) := hG
  have HP : Hid (Pow w) := hp
  have HLM : Hid (G.length ≤ maxLen) := hlen
  clear hG hp hlen
  by_cases hm : mode < 0 ∨ 2 < mode
  · have HV : Hid (writeP G mode F = ([], 1)) := by show _ = _; unfold writeP; rw [if_pos hm]
    have m0 : (mode != 0) = true := by simp; omega
    have m1 : (mode != 1) = true := by simp; omega
    have m2 : (mode != 2) = true := by simp; omega
    go_enter Tryd.func5, Tryd.ntmps5
    go_wp2_with fail
    go_ret2
    exact ⟨ret_two (a := []) (by rw [HV.out]) (by rw [HV.out]), Below.refl _ _⟩
  · have hmode : mode = 0 ∨ mode = 1 ∨ mode = 2 := by omega
    have HM : Hid (¬ (mode < 0 ∨ 2 < mode)) := hm
    have HMD : Hid _ := hmode
    clear hm
    cases hr : rightB G
    · have HV : Hid (writeP G mode F = ([], 8)) := by show _ = _; unfold writeP; rw [if_neg HM.out, if_pos hr]
      rcases hmode with rfl | rfl | rfl
      all_goals
        go_enter Tryd.func5, Tryd.ntmps5
        go_wp2_with fail
        refine (right_any G b o cap _ HLM.out HG.out).mono ?_
        rw [hr]; rintro e w2 ⟨rfl, hb2⟩
        go_wp2_with fail
        go_ret2
        exact ⟨ret_two (a := []) (by rw [HV.out]) (by rw [HV.out]), hb2⟩
    · obtain ⟨h1, h150, hk, hs, h20⟩ := right_parts G hr
      have HKK : Hid (∀ x (hx : x < G.length), kindB G[x] = true) := hk
      have HSS : Hid (∀ x (hx : x < G.length), subsB G[x].subs G.length = true) := hs
      have H20 : Hid (∀ x, (subsN G x).length ≤ 20) := h20
      have HOK : Hid ((walkS (subsN G) G.length).Ok G.length) := Ok.meet (subsN_lt G hs) _ _ _ (start_ok _) (by omega)
      have HR : Hid (rightB G = true) := hr
      have HRK : Hid ((mode = 0 → cycB G = false) → ∃ (Rc : Nat → Prop) (rk : Nat → Nat), Rc 0 ∧ (∀ x, Rc x → ∀ y ∈ subsN G x, Rc y) ∧ (∀ x, Rc x → ∀ y ∈ subsN G x, kindN G y = 1 → labB G mode y = false → rk y < rk x)) := rank_some G hr mode hmode
      have HOT : Hid _ := out_some G hr (labB G mode) F (by omega)
      clear hk hs h20
      by_cases h0 : mode = 0
      · subst h0
        go_enter Tryd.func5, Tryd.ntmps5
        go_wp2_with fail
        refine (right_any G b o cap _ HLM.out HG.out).mono ?_
        rw [hr]; rintro e w2 ⟨rfl, hb2⟩
        have HG2 : Hid (GraphAt w2 b o G) := GraphAt.below HG.out hb2
        have HB2 : Hid (Below w.heap.size w w2) := hb2
        clear hb2
        go_wp2_with fail
        refine (through_any G b o cap _ HG2.out h150 h1 HSS.out H20.out).mono ?_
        rintro e w3 ⟨bm, bw, rfl, hrm, hrw, hb3⟩
        have HRM : Hid _ := hrm
        have HRW : Hid _ := hrw
        have HG3 : Hid (GraphAt w3 b o G) := GraphAt.below HG2.out hb3
        have HB3 : Hid (Below w.heap.size w w3) := HB2.out.trans (hb3.mono HB2.out.size)
        have hbm : bm < w3.heap.size := cell_lt (hrm 0 (by rw [HOK.out.lm]; omega)).1
        have hbw : bw < w3.heap.size := cell_lt (hrw 0 (by rw [HOK.out.lw]; omega)).1
        clear hrm hrw hb3
        go_wp2_with fail
        obtain ⟨w4, hw4⟩ : ∃ w4, w4 = w3.alloc (.cells #[.slice (some ⟨bm, 0, none⟩) G.length G.length, .slice (some ⟨bw, 0, none⟩) G.length G.length] 37) := ⟨_, rfl⟩
        rw [← hw4]
        have hx : Below w3.heap.size w3 w4 := by rw [hw4]; exact below_box
        have hcl : ∀ j, w4.cell? ⟨w3.heap.size, j, none⟩ = (#[.slice (some ⟨bm, 0, none⟩) G.length G.length, .slice (some ⟨bw, 0, none⟩) G.length G.length] : Array Value)[j]? := fun j => by rw [hw4, World.cell?_alloc_at _ _ _ _ rfl]
        have h4 : w3.heap.size < w4.heap.size := by rw [hw4]; simp
        refine (loops_any _ bw G.length HOK.out.lw h150 _ ⟨_, _, _, rfl⟩ _ (RowB.below HRW.out hx hbw)).mono ?_
        rw [any_cyc G HOK.out]
        cases hcy : cycB G
        · rintro e w5 ⟨rfl, hb5⟩
          have d0 : w5.cell? ⟨w3.heap.size, 0, none⟩ = some (.slice (some ⟨bm, 0, none⟩) G.length G.length) := by rw [hb5.cell (p := ⟨w3.heap.size, 0, none⟩) h4, hcl]; rfl
          have d1 : w5.cell? ⟨w3.heap.size, 1, none⟩ = some (.slice (some ⟨bw, 0, none⟩) G.length G.length) := by rw [hb5.cell (p := ⟨w3.heap.size, 1, none⟩) h4, hcl]; rfl
          have hb35 : Below w3.heap.size w3 w5 := hx.trans (hb5.mono (by omega))
          have HT : Hid _ := tail_any G b o cap 0 (by omega) F hF w5 bm bw HR.out (GraphAt.below HG3.out hb35) (HP.out.on' (HB3.out.trans (hb35.mono HB3.out.size))) (RowI.below HRM.out hb35 hbm) (RowB.below HRW.out hb35 hbw) (fun _ => hcy)
          have HB5 : Hid (Below w.heap.size w w5) := HB3.out.trans (hb35.mono HB3.out.size)
          have HM : Hid (¬ ((0 : Int) < 0 ∨ (2 : Int) < 0)) := by show ¬ _; omega
          clear hcl hx h4 hb5 hb35 hw4
          go_wp2_with fail
          refine Calls.mono HT.out ?_
          rintro e w6 ⟨bL, rfl, hb6, hwr⟩
          have HWR : Hid _ := hwr
          have HB6 : Hid (Below w.heap.size w w6) := HB5.out.trans (hb6.mono HB5.out.size)
          clear hb6 hwr HT
          go_wp2_with fail
          refine Calls.mono HWR.out ?_
          rintro e w7 ⟨rfl, hb7⟩
          have HB7 : Hid (Below w.heap.size w w7) := HB6.out.trans (hb7.mono HB6.out.size)
          clear hb7 HWR
          cases hlg : (writeT G 0 F).long
          · have HV : Hid (writeP G 0 F = ((writeT G 0 F).out, 0)) := by show _ = _; unfold writeP; rw [if_neg HM.out, if_neg (by rw [HR.out]; simp), if_neg (show ¬ ((0 : Int) = 0 ∧ cycB G = true) from fun h => by rw [hcy] at h; exact absurd h.2 (by simp)), if_neg (by rw [hlg]; simp)]
            have HO : Hid (outL (writeT G 0 F) = (writeT G 0 F).out) := by show _ = _; unfold outL; rw [hlg]; rfl
            have ho : okL (writeT G 0 F) = true := by unfold okL; rw [hlg]; rfl
            rw [ho]
            clear ho
            go_wp2_with fail
            go_ret2
            exact ⟨ret_two (by rw [HV.out, HO.out]) (by rw [HV.out]), HB7.out⟩
          · have HV : Hid (writeP G 0 F = ([], 2)) := by show _ = _; unfold writeP; rw [if_neg HM.out, if_neg (by rw [HR.out]; simp), if_neg (show ¬ ((0 : Int) = 0 ∧ cycB G = true) from fun h => by rw [hcy] at h; exact absurd h.2 (by simp)), if_pos hlg]
            have ho : okL (writeT G 0 F) = false := by unfold okL; rw [hlg]; rfl
            rw [ho]
            clear ho
            go_wp2_with fail
            go_ret2
            exact ⟨ret_two (a := []) (by rw [HV.out]) (by rw [HV.out]), HB7.out⟩
        · rintro e w5 ⟨rfl, hb5⟩
          have HB5 : Hid (Below w.heap.size w w5) := HB3.out.trans ((hx.trans (hb5.mono (by omega))).mono HB3.out.size)
          have HV : Hid (writeP G 0 F = ([], 9)) := by show _ = _; unfold writeP; rw [if_neg (by omega), if_neg (by rw [HR.out]; simp), if_pos ⟨rfl, hcy⟩]
          clear hcl hx h4 hb5 hw4
          go_wp2_with fail
          go_ret2
          exact ⟨ret_two (a := []) (by rw [HV.out]) (by rw [HV.out]), HB5.out⟩
      · have hm12 : mode = 1 ∨ mode = 2 := by omega
        have HNC : Hid (¬ (mode = 0 ∧ cycB G = true)) := fun h => h0 h.1
        have HN0 : Hid (mode = 0 → cycB G = false) := fun h => absurd h h0
        have m0 : (mode == 0) = false := by simp; omega
        have HM12 : Hid _ := hm12
        clear hmode
        have mchk : (mode != 0 && (mode != 1 && mode != 2)) = false := by
          rcases hm12 with rfl | rfl <;> rfl
        have m0' : (mode != 0) = true := by simp; omega
        by_cases hm1 : mode = 1
        · subst hm1
          go_enter Tryd.func5, Tryd.ntmps5
          go_wp2_with fail
          refine (right_any G b o cap _ HLM.out HG.out).mono ?_
          rw [hr]; rintro e w2 ⟨rfl, hb2⟩
          have HG2 : Hid (GraphAt w2 b o G) := GraphAt.below HG.out hb2
          have HB2 : Hid (Below w.heap.size w w2) := hb2
          clear hb2
          go_wp2_with fail
          refine (through_any G b o cap _ HG2.out h150 h1 HSS.out H20.out).mono ?_
          rintro e w3 ⟨bm, bw, rfl, hrm, hrw, hb3⟩
          have hbm : bm < w3.heap.size := cell_lt (hrm 0 (by rw [HOK.out.lm]; omega)).1
          have hbw : bw < w3.heap.size := cell_lt (hrw 0 (by rw [HOK.out.lw]; omega)).1
          have HB3 : Hid (Below w.heap.size w w3) := HB2.out.trans (hb3.mono HB2.out.size)
          have HT : Hid _ := tail_any G b o cap 1 (by omega) F hF (w3.alloc (.cells #[.slice (some ⟨bm, 0, none⟩) G.length G.length, .slice (some ⟨bw, 0, none⟩) G.length G.length] 37)) bm bw HR.out (GraphAt.below (GraphAt.below HG2.out hb3) below_box) (HP.out.on (HB3.out.trans (below_box.mono HB3.out.size))) (RowI.below hrm below_box hbm) (RowB.below hrw below_box hbw) (fun h => by omega)
          have HB5 : Hid (Below w.heap.size w (w3.alloc (.cells #[.slice (some ⟨bm, 0, none⟩) G.length G.length, .slice (some ⟨bw, 0, none⟩) G.length G.length] 37))) := HB3.out.trans (below_box.mono HB3.out.size)
          clear hrm hrw hb3 hbm hbw
          go_wp2_with fail
          refine Calls.mono HT.out ?_
          rintro e w6 ⟨bL, rfl, hb6, hwr⟩
          have HWR : Hid _ := hwr
          have HB6 : Hid (Below w.heap.size w w6) := HB5.out.trans (hb6.mono HB5.out.size)
          clear hb6 hwr HT
          go_wp2_with fail
          refine Calls.mono HWR.out ?_
          rintro e w7 ⟨rfl, hb7⟩
          have HB7 : Hid (Below w.heap.size w w7) := HB6.out.trans (hb7.mono HB6.out.size)
          clear hb7 HWR
          cases hlg : (writeT G 1 F).long
          · have HV : Hid (writeP G 1 F = ((writeT G 1 F).out, 0)) := by show _ = _; unfold writeP; rw [if_neg HM.out, if_neg (by rw [HR.out]; simp), if_neg HNC.out, if_neg (by rw [hlg]; simp)]
            have HO : Hid (outL (writeT G 1 F) = (writeT G 1 F).out) := by show _ = _; unfold outL; rw [hlg]; rfl
            have ho : okL (writeT G 1 F) = true := by unfold okL; rw [hlg]; rfl
            rw [ho]
            clear ho
            go_wp2_with fail
            go_ret2
            exact ⟨ret_two (by rw [HV.out, HO.out]) (by rw [HV.out]), HB7.out⟩
          · have HV : Hid (writeP G 1 F = ([], 2)) := by show _ = _; unfold writeP; rw [if_neg HM.out, if_neg (by rw [HR.out]; simp), if_neg HNC.out, if_pos hlg]
            have ho : okL (writeT G 1 F) = false := by unfold okL; rw [hlg]; rfl
            rw [ho]
            clear ho
            go_wp2_with fail
            go_ret2
            exact ⟨ret_two (a := []) (by rw [HV.out]) (by rw [HV.out]), HB7.out⟩
        · obtain rfl : mode = 2 := by omega
          go_enter Tryd.func5, Tryd.ntmps5
          go_wp2_with fail
          refine (right_any G b o cap _ HLM.out HG.out).mono ?_
          rw [hr]; rintro e w2 ⟨rfl, hb2⟩
          have HG2 : Hid (GraphAt w2 b o G) := GraphAt.below HG.out hb2
          have HB2 : Hid (Below w.heap.size w w2) := hb2
          clear hb2
          go_wp2_with fail
          refine (through_any G b o cap _ HG2.out h150 h1 HSS.out H20.out).mono ?_
          rintro e w3 ⟨bm, bw, rfl, hrm, hrw, hb3⟩
          have hbm : bm < w3.heap.size := cell_lt (hrm 0 (by rw [HOK.out.lm]; omega)).1
          have hbw : bw < w3.heap.size := cell_lt (hrw 0 (by rw [HOK.out.lw]; omega)).1
          have HB3 : Hid (Below w.heap.size w w3) := HB2.out.trans (hb3.mono HB2.out.size)
          have HT : Hid _ := tail_any G b o cap 2 (by omega) F hF (w3.alloc (.cells #[.slice (some ⟨bm, 0, none⟩) G.length G.length, .slice (some ⟨bw, 0, none⟩) G.length G.length] 37)) bm bw HR.out (GraphAt.below (GraphAt.below HG2.out hb3) below_box) (HP.out.on (HB3.out.trans (below_box.mono HB3.out.size))) (RowI.below hrm below_box hbm) (RowB.below hrw below_box hbw) (fun h => by omega)
          have HB5 : Hid (Below w.heap.size w (w3.alloc (.cells #[.slice (some ⟨bm, 0, none⟩) G.length G.length, .slice (some ⟨bw, 0, none⟩) G.length G.length] 37))) := HB3.out.trans (below_box.mono HB3.out.size)
          clear hrm hrw hb3 hbm hbw
          go_wp2_with fail
          refine Calls.mono HT.out ?_
          rintro e w6 ⟨bL, rfl, hb6, hwr⟩
          have HWR : Hid _ := hwr
          have HB6 : Hid (Below w.heap.size w w6) := HB5.out.trans (hb6.mono HB5.out.size)
          clear hb6 hwr HT
          go_wp2_with fail
          refine Calls.mono HWR.out ?_
          rintro e w7 ⟨rfl, hb7⟩
          have HB7 : Hid (Below w.heap.size w w7) := HB6.out.trans (hb7.mono HB6.out.size)
          clear hb7 HWR
          cases hlg : (writeT G 2 F).long
          · have HV : Hid (writeP G 2 F = ((writeT G 2 F).out, 0)) := by show _ = _; unfold writeP; rw [if_neg HM.out, if_neg (by rw [HR.out]; simp), if_neg HNC.out, if_neg (by rw [hlg]; simp)]
            have HO : Hid (outL (writeT G 2 F) = (writeT G 2 F).out) := by show _ = _; unfold outL; rw [hlg]; rfl
            have ho : okL (writeT G 2 F) = true := by unfold okL; rw [hlg]; rfl
            rw [ho]
            clear ho
            go_wp2_with fail
            go_ret2
            exact ⟨ret_two (by rw [HV.out, HO.out]) (by rw [HV.out]), HB7.out⟩
          · have HV : Hid (writeP G 2 F = ([], 2)) := by show _ = _; unfold writeP; rw [if_neg HM.out, if_neg (by rw [HR.out]; simp), if_neg HNC.out, if_pos hlg]
            have ho : okL (writeT G 2 F) = false := by unfold okL; rw [hlg]; rfl
            rw [ho]
            clear ho
            go_wp2_with fail
            go_ret2
            exact ⟨ret_two (a := []) (by rw [HV.out]) (by rw [HV.out]), HB7.out⟩
end Go.Proofs.YtlhimdjkkiflhaaDoor
