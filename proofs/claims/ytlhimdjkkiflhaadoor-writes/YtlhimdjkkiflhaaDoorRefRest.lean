/- The document's writer: the rest of a pair; a whole graph. -/
import Derived.Test.YtlhimdjkkiflhaaDoorRefSay
namespace Go.Proofs.YtlhimdjkkiflhaaDoor
open Go.RowKit Go.Loop

set_option maxHeartbeats 2000000 in
set_option maxRecDepth 10000 in
theorem refRest_step (G : List Nd) (b o cap : Nat) (W0 : World) (p bl : Nat) (L : Nat → Bool) (C : RCtx G b o W0 p bl) (f : Nat) (IA : Hid (WSaid G b o cap W0 p bl L f false)) (IB : Hid (WSaid G b o cap W0 p bl L f true)) :
    WSaid G b o cap W0 p bl L (f + 1) true := by
  intro t a wc ht ha0 ha hf hb hw
  simp only [if_true]
  obtain ⟨n, rfl⟩ := Int.eq_ofNat_of_zero_le ha0
  rw [Int.toNat_natCast]
  have han : n < G.length := by omega
  have HC : Hid (RCtx G b o W0 p bl) := C
  have HT : Hid (t.Ok G.length L) := ht
  have HW : Hid (RefW wc p bl G.length (.slice (some ⟨b, o, none⟩) G.length cap) L t) := hw
  have HF : Hid (need t ≤ f + 1) := hf
  have hbk := C.hp
  have hbl := C.hl
  have HBc : Hid (Below W0.heap.size W0 wc) := hb
  obtain ⟨x0, x1, x2, x3, x4, xi, xt, xs⟩ := (HC.out.hG n han).below HBc.out
  have c0 := hw.c0
  have hpw : p < wc.heap.size := cell_lt hw.c0
  have hblw : bl < wc.heap.size := cell_lt (hw.label han).1
  have HXK : Hid _ := HC.out.hk n han
  have HXS : Hid _ := HC.out.hs n han
  have HKN : Hid _ := kindN_at G n han
  have HSG : Hid _ := subs_get G n han
  have HXI : Hid _ := (HC.out.hG n han).ints
  generalize G[n] = x at *
  clear xi xt xs
  have HBOX : Hid (∀ w' : World, Kept p bl (wc.alloc (.cells #[.int .i64 x.kind, .string ⟨⟨x.text⟩⟩, .int .i64 x.n, .int .i64 x.d, .slice x.sa x.subs.length x.cap] 26)) w' →
      (∀ i v, (#[.int .i64 x.kind, .string ⟨⟨x.text⟩⟩, .int .i64 x.n, .int .i64 x.d, .slice x.sa x.subs.length x.cap] : Array Value)[i]? = some v → w'.cell? ⟨wc.heap.size, i, none⟩ = some v) ∧ Below W0.heap.size W0 w' ∧ Kept p bl wc w') := by
    intro w' hk
    refine ⟨fun i v hv => ?_, ?_, (Kept.refl _ _ _).alloc _ |>.trans hk⟩
    · refine hk.cell (x := ⟨wc.heap.size, i, none⟩) (by rw [World.cell?_alloc_at _ _ _ _ rfl]; exact hv) ?_ ?_
      · show wc.heap.size ≠ p; omega
      · show wc.heap.size ≠ bl; omega
    · exact (HBc.out.alloc HBc.out.size _).trans (hk.below (by have := HBc.out.size; simp; omega) hbk hbl)
  have HWB : Hid (RefW (wc.alloc (.cells #[.int .i64 x.kind, .string ⟨⟨x.text⟩⟩, .int .i64 x.n, .int .i64 x.d, .slice x.sa x.subs.length x.cap] 26)) p bl G.length (.slice (some ⟨b, o, none⟩) G.length cap) L t) := hw.alloc _ hpw hblw
  have HPL : Hid (p ≠ bl) := C.pl
  have HSLT : Hid (∀ y, y < G.length → ∀ z ∈ subsN G y, z < G.length) := subsN_lt G C.hs
  have HS2 : Hid (∀ y, y < G.length → kindN G y = 1 → (subsN G y).length = 2) := fun y hy hk => pair_two G y hy (C.hk y hy) hk
  have c4 := HWB.out.c4
  obtain ⟨hlc, _⟩ := HWB.out.label han
  clear C ht hb hw hf hbk hbl hpw hblw
  cases hlong : t.long
  · have HF1 : Hid (∀ q : List UInt8, 1 ≤ q.length → need (t.add q) ≤ f) := by
      intro q hq
      have ho := HT.out.lo hlong
      have h1 := HF.out
      have h2 := need_lt hlong ho hq
      omega
    by_cases k0 : x.kind = 0
    · have hb0 : (x.kind == 0) = true := by rw [beq_iff_eq]; exact k0
      have HV : Hid (WF (kindN G) (subsN G) (atN G) L (f + 1) true t n = t.add [41]) := by
        show _ = _; simp only [WF]; rw [if_neg (by rw [HKN.out]; omega), if_pos (by rw [HKN.out]; exact k0)]
      clear k0 hlc c4
      go_enter Tryd.func31, Tryd.ntmps31
      go_wp2_with fail
      refine (refFull_any p bl _ _ L t _ HT.out HW.out).mono ?_
      rw [hlong]; rintro e w1 ⟨rfl, rfl⟩
      go_wp2_with fail
      refine (refSay_any p bl _ _ L t _ [41] (by simp) HPL.out HT.out HWB.out).mono ?_
      rintro e w2 ⟨rfl, hw2, hk2⟩
      have HW2 : Hid _ := hw2
      have HK2 : Hid _ := (HBOX.out _ hk2).2.2
      clear hw2 hk2
      go_wp2_with fail
      go_end0
      exact ⟨rfl, by rw [HV.out]; exact HW2.out, HK2.out⟩
    · have hb0 : (x.kind == 0) = false := by rw [beq_eq_false_iff_ne]; exact k0
      by_cases hpr : x.kind = 1 ∧ L n = false
      · have hb1 : (x.kind == 1) = true := by rw [beq_iff_eq]; exact hpr.1
        have hlz : labR L t n = 0 := by
          have h1 := HT.out.lL n
          unfold labR
          by_cases h0 : 0 ≤ t.lab.getD n (-1)
          · have := h1 h0; rw [hpr.2] at this; exact absurd this (by simp)
          · rw [if_neg h0, hpr.2]; rfl
        rw [hlz] at hlc
        have hlen : x.subs.length = 2 := by have := HXK.out; unfold kindB at this; rw [if_neg k0, if_pos hpr.1] at this; simp at this; exact this.1
        rcases HXI.out with h | ⟨sb, so, hsa, hc⟩
        · exfalso; rw [h] at hlen; simp at hlen
        · have g0 := HSG.out 0 (by omega)
          have g1 := HSG.out 1 (by omega)
          have HV : Hid (WF (kindN G) (subsN G) (atN G) L (f + 1) true t n = WF (kindN G) (subsN G) (atN G) L f true (WF (kindN G) (subsN G) (atN G) L f false (t.add [32]) (x.subs.getD 0 0).toNat) (x.subs.getD 1 0).toNat) := by
            show _ = _; simp only [WF]; rw [if_pos ⟨by rw [HKN.out]; exact hpr.1, hpr.2⟩, g0, g1]
          have v0 := subsB_at _ _ HXS.out 0 (by omega)
          have v1 := subsB_at _ _ HXS.out 1 (by omega)
          have HCE : Hid (∀ w' : World, Below W0.heap.size W0 w' → w'.cell? ⟨sb, so, none⟩ = some (.int .i64 (x.subs.getD 0 0)) ∧ w'.cell? ⟨sb, so + 1, none⟩ = some (.int .i64 (x.subs.getD 1 0))) :=
            fun w' hb' => ⟨cell_below hb' (hc 0 (by omega)), cell_below hb' (hc 1 (by omega))⟩
          have hl0 : (0 : Int) < (x.subs.length : Int) := by omega
          have hl1 : (1 : Int) < (x.subs.length : Int) := by omega
          have HA1 : Hid _ := HF1.out [32] (by simp)
          clear hc g0 g1 hlen HXI hpr k0 hlz
          generalize x.subs.getD 0 0 = s0 at *
          generalize x.subs.getD 1 0 = s1 at *
          rw [hsa] at HBOX HWB x4 c4 hlc
          go_enter Tryd.func31, Tryd.ntmps31
          go_wp2_with fail
          refine (refFull_any p bl _ _ L t _ HT.out HW.out).mono ?_
          rw [hlong]; rintro e w1 ⟨rfl, rfl⟩
          go_wp2_with fail
          refine (refSay_any p bl _ _ L t _ [32] (by simp) HPL.out HT.out HWB.out).mono ?_
          rintro e w2 ⟨rfl, hw2, hk2⟩
          obtain ⟨hbx, hb2, hk2'⟩ := HBOX.out _ hk2
          have q4 := hbx 4 _ rfl
          obtain ⟨q0, q1⟩ := HCE.out _ hb2
          have HT2 : Hid _ := HT.out.add [32]
          have HW2 : Hid _ := hw2
          have HB2 : Hid _ := hb2
          have HK2 : Hid _ := hk2
          clear hw2 hb2 hk2 hbx hk2' x0 x1 x2 x3 x4 c0 c4 hlc
          go_wp2_with fail
          refine (IA.out _ s0 _ HT2.out v0.1 v0.2 HA1.out HB2.out HW2.out).mono ?_
          rintro e w3 ⟨rfl, hw3, hk3⟩
          have hk23 := HK2.out.trans hk3
          obtain ⟨hbx, hb3, hk3'⟩ := HBOX.out _ hk23
          have r4 := hbx 4 _ rfl
          obtain ⟨r0, r1⟩ := HCE.out _ hb3
          have HT3 : Hid _ := WF_ok (K := kindN G) (S := subsN G) (At := atN G) (L := L) HSLT.out HS2.out f false _ s0.toNat HT2.out (by omega)
          have HA3 : Hid (need (WF (kindN G) (subsN G) (atN G) L f false (t.add [32]) s0.toNat) ≤ f) := Nat.le_trans (need_WF _ _ _ _) HA1.out
          have HW3 : Hid _ := hw3
          have HB3 : Hid _ := hb3
          have HK3 : Hid _ := hk23
          clear hw3 hb3 hk3 hbx hk3' hk23 q4 q0 q1
          go_wp2_with fail
          refine (IB.out _ s1 _ HT3.out v1.1 v1.2 HA3.out HB3.out HW3.out).mono ?_
          rintro e w4 ⟨rfl, hw4, hk4⟩
          have HK4 : Hid _ := (HBOX.out _ (HK3.out.trans hk4)).2.2
          have HW4 : Hid _ := hw4
          clear hw4 hk4 r4 r0 r1
          go_wp2_with fail
          go_end0
          exact ⟨rfl, by rw [HV.out]; exact HW4.out, HK4.out⟩
      · have HV : Hid (WF (kindN G) (subsN G) (atN G) L (f + 1) true t n = (WF (kindN G) (subsN G) (atN G) L f false (t.add [32, 46, 32]) n).add [41]) := by
          show _ = _; simp only [WF]; rw [if_neg (by rw [HKN.out]; exact hpr), if_neg (by rw [HKN.out]; exact k0)]
        have HA1 : Hid _ := HF1.out [32, 46, 32] (by simp)
        have HT2 : Hid _ := HT.out.add [32, 46, 32]
        have HT3 : Hid _ := WF_ok (K := kindN G) (S := subsN G) (At := atN G) (L := L) HSLT.out HS2.out f false _ n HT2.out han
        have hcase : (x.kind == 1) = false ∨ ((x.kind == 1) = true ∧ Hid (labR L t n ≠ 0)) := by
          by_cases h1 : x.kind = 1
          · right
            refine ⟨by rw [beq_iff_eq]; exact h1, ?_⟩
            show _ ≠ _
            have hLt : L n = true := by
              cases e : L n
              · exact absurd ⟨h1, e⟩ hpr
              · rfl
            unfold labR
            by_cases h0 : 0 ≤ t.lab.getD n (-1)
            · rw [if_pos h0]; omega
            · rw [if_neg h0, hLt]; decide
          · left; rw [beq_eq_false_iff_ne]; exact h1
        clear hpr k0
        rcases hcase with hb1 | ⟨hb1, hnz⟩
        · clear hlc c4
          go_enter Tryd.func31, Tryd.ntmps31
          go_wp2_with fail
          refine (refFull_any p bl _ _ L t _ HT.out HW.out).mono ?_
          rw [hlong]; rintro e w1 ⟨rfl, rfl⟩
          go_wp2_with fail
          refine (refSay_any p bl _ _ L t _ [32, 46, 32] (by simp) HPL.out HT.out HWB.out).mono ?_
          rintro e w2 ⟨rfl, hw2, hk2⟩
          obtain ⟨_, hb2, _⟩ := HBOX.out _ hk2
          have HW2 : Hid _ := hw2
          have HB2 : Hid _ := hb2
          have HK2 : Hid _ := hk2
          clear hw2 hb2 hk2 x0 x1 x2 x3 x4 c0
          go_wp2_with fail
          refine (IA.out _ (n : Int) _ HT2.out (by omega) (by omega) HA1.out HB2.out HW2.out).mono ?_
          rintro e w3 ⟨rfl, hw3, hk3⟩
          rw [Int.toNat_natCast] at hw3
          have HW3 : Hid _ := hw3
          have HK3 : Hid _ := HK2.out.trans hk3
          clear hw3 hk3
          go_wp2_with fail
          refine (refSay_any p bl _ _ L _ _ [41] (by simp) HPL.out HT3.out HW3.out).mono ?_
          rintro e w4 ⟨rfl, hw4, hk4⟩
          have HK4 : Hid _ := (HBOX.out _ (HK3.out.trans hk4)).2.2
          have HW4 : Hid _ := hw4
          clear hw4 hk4
          go_wp2_with fail
          go_end0
          exact ⟨rfl, by rw [HV.out]; exact HW4.out, HK4.out⟩
        · obtain ⟨lv, hlv⟩ : ∃ v : Int, Hid (v = labR L t n) := ⟨_, rfl⟩
          rw [← hlv.out] at hlc hnz
          have hlvb : (lv == 0) = false := by rw [beq_eq_false_iff_ne]; exact hnz.out
          have HNZ : Hid _ := hnz
          clear hnz
          go_enter Tryd.func31, Tryd.ntmps31
          go_wp2_with fail
          refine (refFull_any p bl _ _ L t _ HT.out HW.out).mono ?_
          rw [hlong]; rintro e w1 ⟨rfl, rfl⟩
          go_wp2_with fail
          refine (refSay_any p bl _ _ L t _ [32, 46, 32] (by simp) HPL.out HT.out HWB.out).mono ?_
          rintro e w2 ⟨rfl, hw2, hk2⟩
          obtain ⟨_, hb2, _⟩ := HBOX.out _ hk2
          have HW2 : Hid _ := hw2
          have HB2 : Hid _ := hb2
          have HK2 : Hid _ := hk2
          clear hw2 hb2 hk2 x0 x1 x2 x3 x4 c0
          go_wp2_with fail
          refine (IA.out _ (n : Int) _ HT2.out (by omega) (by omega) HA1.out HB2.out HW2.out).mono ?_
          rintro e w3 ⟨rfl, hw3, hk3⟩
          rw [Int.toNat_natCast] at hw3
          have HW3 : Hid _ := hw3
          have HK3 : Hid _ := HK2.out.trans hk3
          clear hw3 hk3
          go_wp2_with fail
          refine (refSay_any p bl _ _ L _ _ [41] (by simp) HPL.out HT3.out HW3.out).mono ?_
          rintro e w4 ⟨rfl, hw4, hk4⟩
          have HK4 : Hid _ := (HBOX.out _ (HK3.out.trans hk4)).2.2
          have HW4 : Hid _ := hw4
          clear hw4 hk4
          go_wp2_with fail
          go_end0
          exact ⟨rfl, by rw [HV.out]; exact HW4.out, HK4.out⟩
  · have HV : Hid (WF (kindN G) (subsN G) (atN G) L (f + 1) true t n = t) := WF_long _ _ _ _ hlong
    clear hlc c4
    go_enter Tryd.func31, Tryd.ntmps31
    go_wp2_with fail
    refine (refFull_any p bl _ _ L t _ HT.out HW.out).mono ?_
    rw [hlong]; rintro e w1 ⟨rfl, rfl⟩
    go_wp2_with fail
    refine bodyPost_ret (results_none rfl _ _ _) rfl ?_
    exact ⟨rfl, by rw [HV.out]; exact HWB.out, (Kept.refl _ _ _).alloc _⟩

/-- the document's writer, whatever graph, with enough steps -/
theorem refWR_any (G : List Nd) (b o cap : Nat) (W0 : World) (p bl : Nat) (L : Nat → Bool) (C : RCtx G b o W0 p bl) : ∀ f, WSaid G b o cap W0 p bl L f false ∧ WSaid G b o cap W0 p bl L f true
  | 0 => ⟨fun t _ _ _ _ _ h => by have := need_pos t; omega, fun t _ _ _ _ _ h => by have := need_pos t; omega⟩
  | f + 1 => ⟨refWrite_step G b o cap W0 p bl L C f (refWR_any G b o cap W0 p bl L C f).1 (refWR_any G b o cap W0 p bl L C f).2, refRest_step G b o cap W0 p bl L C f (refWR_any G b o cap W0 p bl L C f).1 (refWR_any G b o cap W0 p bl L C f).2⟩
end Go.Proofs.YtlhimdjkkiflhaaDoor
