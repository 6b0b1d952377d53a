/- The document's look whether nodes are a graph: all of them. -/
import Derived.Test.YtlhimdjkkiflhaaDoorFitsB
namespace Go.Proofs.YtlhimdjkkiflhaaDoor
open Go.RowKit Go.Loop

set_option maxHeartbeats 1000000 in
theorem refGraph_any (G : List Nd) (b o cap : Nat) (w : World) (hl : G.length ≤ maxLen) (hG : GraphAt w b o G) :
    Calls Tryd.prog 15 #[.slice (some ⟨b, o, none⟩) G.length cap] w fun e w' => e = .returned (.bool (rightB G)) ∧ Below w.heap.size w w' := by
  unfold maxLen at hl
  have HG : Hid _ := hG
  clear hG
  by_cases h1 : G.length < 1
  · have H : Hid (rightB G = false) := by show _ = _; unfold rightB; rw [decide_eq_false (by omega)]; rfl
    go_enter Tryd.func15, Tryd.ntmps15
    go_wp2_with fail
    go_ret
    exact ⟨ret_bool H.out.symm, Below.refl _ _⟩
  · by_cases h2 : 150 < G.length
    · have H : Hid (rightB G = false) := by show _ = _; unfold rightB; rw [decide_eq_false (by omega)]; rfl
      go_enter Tryd.func15, Tryd.ntmps15
      go_wp2_with fail
      go_ret
      exact ⟨ret_bool H.out.symm, Below.refl _ _⟩
    · have d1 : decide ((G.length : Int) < 1) = false := by simp; omega
      have d2 : decide ((150 : Int) < (G.length : Int)) = false := by simp; omega
      have HR : Hid (rightB G = G.all (fun x => kindB x && subsB x.subs G.length)) := by show _ = _; unfold rightB; rw [decide_eq_true (by omega)]; rfl
      go_enter Tryd.func15, Tryd.ntmps15
      go_wp2_with fail
      go_loopw [3] (fun i wr => ∃ k : Nat, k ≤ G.length ∧ i = .int .i64 k ∧ Below w.heap.size w wr ∧ Hid ((G.take k).all (fun x => kindB x && subsB x.subs G.length) = true)) (fun i _ => G.length - (intOf i).toNat)
      case atStart => exact ⟨0, Nat.zero_le _, rfl, Below.refl _ _, rfl⟩
      case round =>
        obtain ⟨k, hk, rfl, hb, hr⟩ := hrel
        by_cases hlt : k < G.length
        · obtain ⟨c0, c1, c2, c3, c4, hi, ht, hs⟩ := (HG.out k hlt).below hb
          have HS : Hid _ := all_snoc G k hlt (fun x => kindB x && subsB x.subs G.length)
          have HN : Hid _ := all_no G k hlt (fun x => kindB x && subsB x.subs G.length)
          have HT : Hid _ := ht
          have HI : Hid _ := hi
          have HL : Hid _ := hs
          clear ht hi hs
          generalize G[k] = x at *
          have hz := hb.size
          cases hkb : (kindB x && subsB x.subs G.length)
          · have HV : Hid (rightB G = false) := by show _ = _; rw [HR.out]; exact HN.out hkb
            go_wp2_with fail
            refine (refFits_any x _ _ HT.out HL.out HI.out).mono ?_
            rw [hkb]; rintro e w2 ⟨rfl, hb2⟩
            go_wp2_with fail
            go_ret
            exact ⟨ret_bool HV.out.symm, hb.trans (hb2.mono hz)⟩
          · have HV : Hid ((G.take (k + 1)).all (fun x => kindB x && subsB x.subs G.length) = true) := by show _ = _; rw [HS.out, hr.out, hkb]; rfl
            go_wp2_with fail
            refine (refFits_any x _ _ HT.out HL.out HI.out).mono ?_
            rw [hkb]; rintro e w2 ⟨rfl, hb2⟩
            have hb3 := hb.trans (hb2.mono hz)
            clear hb2
            go_wp2_with fail
            go_roundw
            case rel => exact ⟨k + 1, by omega, by go_num, hb3, HV⟩
            case measure => simp [intOf]; omega
        · have HV : Hid (rightB G = true) := by show _ = _; rw [HR.out]; have := hr.out; rwa [List.take_of_length_le (by omega)] at this
          go_wp2_with fail
          go_ret
          exact ⟨ret_bool HV.out.symm, hb⟩
end Go.Proofs.YtlhimdjkkiflhaaDoor
