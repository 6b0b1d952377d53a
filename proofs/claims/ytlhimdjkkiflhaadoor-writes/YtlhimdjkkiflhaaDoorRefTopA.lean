/- The document's Write, whole. -/
import Derived.Test.YtlhimdjkkiflhaaDoorRefRest
import Derived.Test.YtlhimdjkkiflhaaDoorRefGraph
import Derived.Test.YtlhimdjkkiflhaaDoorThroughC
namespace Go.Proofs.YtlhimdjkkiflhaaDoor
open Go.RowKit Go.Loop

/-- which nodes have a label in a mode -/
def labB (G : List Nd) (mode : Int) (i : Nat) : Bool :=
  if mode = 1 then (walkS (subsN G) G.length).wi.getD i false
  else if mode = 2 then decide (1 < (walkS (subsN G) G.length).met.getD i 0) && decide (1 ≤ kindN G i ∧ kindN G i ≤ 3) else false
/-- is something met again from within? -/
def cycB (G : List Nd) : Bool := (List.range G.length).any fun i => (walkS (subsN G) G.length).wi.getD i false
def startT (n : Nat) : TS := ⟨List.replicate n (-1), 0, [], false⟩
def writeT (G : List Nd) (mode : Int) (F : Nat) : TS := WF (kindN G) (subsN G) (atN G) (labB G mode) F false (startT G.length) 0
/-- what Write gives, in so many steps: a text, an error -/
def writeP (G : List Nd) (mode : Int) (F : Nat) : List UInt8 × Int :=
  if mode < 0 ∨ 2 < mode then ([], 1) else if rightB G = false then ([], 8) else if mode = 0 ∧ cycB G = true then ([], 9) else if (writeT G mode F).long = true then ([], 2) else ((writeT G mode F).out, 0)

def labTo (G : List Nd) (mode : Int) : Nat → List Int
  | 0 => List.replicate G.length 0
  | k + 1 => if labB G mode k then (labTo G mode k).set k (-1) else labTo G mode k
theorem labTo_len (G : List Nd) (mode : Int) : ∀ k, (labTo G mode k).length = G.length
  | 0 => by simp [labTo]
  | k + 1 => by simp only [labTo]; split <;> simp [labTo_len G mode k]
theorem labTo_get (G : List Nd) (mode : Int) : ∀ k, k ≤ G.length → ∀ i, (labTo G mode k).getD i 0 = if i < k ∧ labB G mode i = true then -1 else 0
  | 0, _, i => by simp only [labTo]; rw [getD_rep, if_neg (by omega)]
  | k + 1, hk, i => by
    simp only [labTo]
    have ih := labTo_get G mode k (by omega) i
    by_cases hl : labB G mode k = true
    · rw [if_pos hl, getD_set _ _ _ _ _ (by rw [labTo_len]; omega)]
      by_cases e : i = k
      · subst e; rw [if_pos rfl, if_pos ⟨by omega, hl⟩]
      · rw [if_neg e, ih]
        by_cases h1 : i < k ∧ labB G mode i = true
        · rw [if_pos h1, if_pos ⟨by omega, h1.2⟩]
        · rw [if_neg h1, if_neg (fun h => h1 ⟨by omega, h.2⟩)]
    · rw [if_neg hl, ih]
      by_cases h1 : i < k ∧ labB G mode i = true
      · rw [if_pos h1, if_pos ⟨by omega, h1.2⟩]
      · rw [if_neg h1, if_neg (fun h => h1 ⟨by
          rcases Nat.lt_or_ge i k with h2 | h2
          · exact h2
          · have : i = k := by omega
            subst this; exact absurd h.2 hl, h.2⟩)]
theorem startT_ok (n : Nat) (L : Nat → Bool) : (startT n).Ok n L :=
  ⟨by simp [startT], fun _ => by simp [startT], fun i => by show -1 ≤ (List.replicate n (-1 : Int)).getD i (-1) ∧ (List.replicate n (-1 : Int)).getD i (-1) < _; rw [getD_rep]; simp [startT], fun i hi => by
    change 0 ≤ (List.replicate n (-1 : Int)).getD i (-1) at hi; rw [getD_rep] at hi; omega, fun _ => by simp [startT], by simp [startT]⟩

theorem RWalkAt.setLab {w : World} {p bo bm bw bl n : Nat} {nv v5 v6 : Value} {lab : List Int} {s : WS} {B : Nat} (h : RWalkAt w p bo bm bw bl n nv v5 v6 lab s) (A : Apart5 B p bo bm bw bl) {a : Nat} (ha : a < lab.length) (v : Int) :
    RWalkAt (w.setCell ⟨bl, a, none⟩ (.int .i64 v)) p bo bm bw bl n nv v5 v6 (lab.set a v) s := by
  have e := A.pl.symm
  exact ⟨by rw [cell_far e]; exact h.c0, by rw [cell_far e]; exact h.c1, by rw [cell_far e]; exact h.c2, by rw [cell_far e]; exact h.c3, by rw [cell_far e]; exact h.c4, by rw [cell_far e]; exact h.c5, by rw [cell_far e]; exact h.c6,
    h.rm.far A.ml.symm _, h.rw.far A.wl.symm _, h.ro.far A.ol.symm _, h.rl.set a ha _, by rw [World.frozen?_setCell]; exact h.f5, by rw [World.frozen?_setCell]; exact h.f6⟩

theorem refW_start {w : World} {p bo bm bw bl : Nat} {nv : Value} {G : List Nd} {mode : Int} {s : WS} (h : RWalkAt w p bo bm bw bl G.length nv (.int .i64 0) (.string ⟨#[]⟩) (labTo G mode G.length) s) :
    RefW w p bl G.length nv (labB G mode) (startT G.length) := by
  refine ⟨h.c0, h.c4, h.c5, ⟨[], h.c6, fun hl => by simp [startT] at hl, fun _ => rfl⟩, h.f5, h.f6, ⟨labTo G mode G.length, labTo_len _ _ _, h.rl, fun i hi => ?_⟩⟩
  rw [labTo_get G mode _ (Nat.le_refl _) i]
  unfold labR
  have e : (startT G.length).lab.getD i (-1) = -1 := by show (List.replicate G.length (-1 : Int)).getD i (-1) = -1; exact getD_rep _ _ _
  rw [e, if_neg (show ¬ (0 : Int) ≤ -1 by omega)]
  by_cases hl : labB G mode i = true
  · rw [if_pos ⟨hi, hl⟩, if_pos hl]
  · rw [if_neg (fun x => hl x.2), if_neg hl]

theorem right_parts (G : List Nd) (h : rightB G = true) : 1 ≤ G.length ∧ G.length ≤ 150 ∧ (∀ x (hx : x < G.length), kindB G[x] = true) ∧ (∀ x (hx : x < G.length), subsB G[x].subs G.length = true) ∧ (∀ x, (subsN G x).length ≤ 20) := by
  unfold rightB at h
  simp only [Bool.and_eq_true, decide_eq_true_eq] at h
  obtain ⟨⟨h1, h2⟩, h3⟩ := h
  have hk : ∀ x (hx : x < G.length), kindB G[x] = true ∧ subsB G[x].subs G.length = true := fun x hx => by
    have := List.all_eq_true.1 h3 G[x] (List.getElem_mem hx)
    simpa using this
  refine ⟨h1, h2, fun x hx => (hk x hx).1, fun x hx => (hk x hx).2, fun x => ?_⟩
  by_cases hx : x < G.length
  · rw [subsN_at G x hx, List.length_map]
    have hb := (hk x hx).1
    unfold kindB at hb
    by_cases k0 : G[x].kind = 0
    · rw [if_pos k0] at hb; simp at hb; rw [hb.2.2.2]; simp
    rw [if_neg k0] at hb
    by_cases k1 : G[x].kind = 1
    · rw [if_pos k1] at hb; simp at hb; omega
    rw [if_neg k1] at hb
    by_cases k2 : G[x].kind = 2
    · rw [if_pos k2] at hb; simp at hb; omega
    rw [if_neg k2] at hb
    by_cases k3 : G[x].kind = 3
    · rw [if_pos k3] at hb; simp at hb; rw [hb.2.2.2]; simp
    rw [if_neg k3] at hb
    by_cases k4 : G[x].kind = 4
    · rw [if_pos k4] at hb; simp at hb; rw [hb.1.2.2]; simp
    rw [if_neg k4] at hb
    by_cases k5 : G[x].kind = 5
    · rw [if_pos k5] at hb; simp at hb; rw [hb.2.2]; simp
    rw [if_neg k5] at hb
    by_cases k6 : G[x].kind = 6
    · rw [if_pos k6] at hb; simp at hb; rw [hb.2.2.2]; simp
    rw [if_neg k6] at hb
    by_cases k7 : G[x].kind = 7
    · rw [if_pos k7] at hb; simp at hb; rw [hb.2.2.2]; simp
    rw [if_neg k7] at hb; exact absurd hb (by simp)
  · unfold subsN; rw [List.getElem?_eq_none (by omega)]; simp
end Go.Proofs.YtlhimdjkkiflhaaDoor

/- The document's Write, whole. -/
namespace Go.Proofs.YtlhimdjkkiflhaaDoor
open Go.RowKit Go.Loop

theorem ret_two {a a' : List UInt8} {n n' : Int} (h1 : a = a') (h2 : n = n') : Ending.returned (.tuple #[.string ⟨⟨a⟩⟩, .int .i64 n]) = .returned (.tuple #[.string ⟨⟨a'⟩⟩, .int .i64 n']) := by rw [h1, h2]
theorem cyc_no (G : List Nd) (h : ∀ j, j < G.length → (walkS (subsN G) G.length).wi.getD j false = false) : cycB G = false := by
  unfold cycB; rw [List.any_eq_false]; intro i hi; rw [h i (List.mem_range.1 hi)]; simp
theorem cyc_yes (G : List Nd) (k : Nat) (hk : k < G.length) (h : (walkS (subsN G) G.length).wi.getD k false = true) : cycB G = true := by
  unfold cycB; rw [List.any_eq_true]; exact ⟨k, List.mem_range.2 hk, h⟩

set_option maxHeartbeats 4000000 in
set_option maxRecDepth 10000 in
theorem refWriteTop_any (G : List Nd) (b o cap : Nat) (mode : Int) (F : Nat) (hF : 403 ≤ F) (w : World) (hlen : G.length ≤ maxLen) (hG : GraphAt w b o G) (htx : ∀ x (h : x < G.length), G[x].text.length ≤ 140737488355328) :
    Calls Tryd.prog 8 #[(.slice (some ⟨b, o, none⟩) G.length cap), .int .i64 mode] w fun e w' => e = .returned (.tuple #[.string ⟨⟨(writeP G mode F).1⟩⟩, .int .i64 (writeP G mode F).2]) ∧ Below w.heap.size w w' := by
  have HG : Hid (GraphAt w b o G) := hG
  have HTX : Hid (∀ x (h : x < G.length), G[x].text.length ≤ 140737488355328) := htx
  have HLM : Hid (G.length ≤ maxLen) := hlen
  clear hG htx hlen
  by_cases hm : mode < 0 ∨ 2 < mode
  · have HV : Hid (writeP G mode F = ([], 1)) := by show _ = _; unfold writeP; rw [if_pos hm]
    go_enter Tryd.func8, Tryd.ntmps8
    go_wp2_with fail
    all_goals first
      | (exfalso; omega)
      | (go_ret2; exact ⟨ret_two (a := []) (by rw [HV.out]) (by rw [HV.out]), Below.refl _ _⟩)
  · have m1 : 0 ≤ mode := by omega
    have m2 : mode ≤ 2 := by omega
    have HM : Hid (¬ (mode < 0 ∨ 2 < mode)) := hm
    clear hm
    cases hr : rightB G
    · have HV : Hid (writeP G mode F = ([], 8)) := by show _ = _; unfold writeP; rw [if_neg (by omega), if_pos hr]
      go_enter Tryd.func8, Tryd.ntmps8
      go_wp2_with fail
      refine (refGraph_any G b o cap _ HLM.out HG.out).mono ?_
      rw [hr]; rintro e w2 ⟨rfl, hb2⟩
      go_wp2_with fail
      go_ret2
      exact ⟨ret_two (a := []) (by rw [HV.out]) (by rw [HV.out]), hb2⟩
    · obtain ⟨h1, h150, hk, hs, h20⟩ := right_parts G hr
      have HKK : Hid (∀ x (hx : x < G.length), kindB G[x] = true) := hk
      have HSS : Hid (∀ x (hx : x < G.length), subsB G[x].subs G.length = true) := hs
      have H20 : Hid (∀ x, (subsN G x).length ≤ 20) := h20
      clear hk hs h20
      go_enter Tryd.func8, Tryd.ntmps8
      go_wp2_with fail
      refine (refGraph_any G b o cap _ HLM.out HG.out).mono ?_
      rw [hr]; rintro e w2 ⟨rfl, hb2⟩
      have HG2 : Hid (GraphAt w2 b o G) := GraphAt.below HG.out hb2
      have HB2 : Hid (Below w.heap.size w w2) := hb2
      clear hb2
      go_wp2_with fail
      refine (refThroughTop_any G b o cap _ HG2.out h150 h1 HSS.out H20.out).mono ?_
      rintro e w3 ⟨p, bo, bm, bw, bl, rfl, hA, hW, hb3⟩
      have HA : Hid (Apart5 w2.heap.size p bo bm bw bl) := hA
      have HW : Hid _ := hW
      have HB3 : Hid (Below w2.heap.size w2 w3) := hb3
      have HOKS : Hid ((walkS (subsN G) G.length).Ok G.length) := Ok.meet (subsN_lt G HSS.out) _ _ _ (start_ok _) (by omega)
      clear hA hW hb3
      go_wp2_with fail
      go_loopw [8] (fun i wr => ∃ k : Nat, k ≤ G.length ∧ i = .int .i64 k ∧ Hid (RWalkAt wr p bo bm bw bl G.length (.slice (some ⟨b, o, none⟩) G.length cap) (.int .i64 0) (.string ⟨#[]⟩) (labTo G mode k) (walkS (subsN G) G.length)) ∧ Hid (Below w2.heap.size w2 wr) ∧ Hid (mode = 0 → ∀ j, j < k → (walkS (subsN G) G.length).wi.getD j false = false)) (fun i _ => G.length - (intOf i).toNat)
      case atStart => exact ⟨0, Nat.zero_le _, rfl, HW.out, HB3.out, fun _ j hj => by omega⟩
      case round =>
        obtain ⟨k, hkl, rfl, hwk, hbk, hz⟩ := hrel
        by_cases hlt : k < G.length
        · have hwl : k < (walkS (subsN G) G.length).wi.length := by rw [HOKS.out.lw]; exact hlt
          have hml : k < (walkS (subsN G) G.length).met.length := by rw [HOKS.out.lm]; exact hlt
          obtain ⟨e1, _⟩ := hwk.out.rw k hwl
          obtain ⟨e2, _⟩ := hwk.out.rm k hml
          have hll : k < (labTo G mode k).length := by rw [labTo_len]; exact hlt
          obtain ⟨e3, e4⟩ := hwk.out.rl k hll
          have HSET : Hid _ := hwk.out.setLab HA.out hll (-1)
          have HBS : Hid _ := hbk.out.setCell (p := ⟨bl, k, none⟩) HA.out.hl (.int .i64 (-1))
          have c1 := hwk.out.c1
          have c2 := hwk.out.c2
          have c4 := hwk.out.c4
          have n0 := ((HG2.out k hlt).below hbk.out).kind
          have HKD : Hid _ := kindN_at G k hlt
          have HL1 : Hid (labTo G mode (k + 1) = if labB G mode k then (labTo G mode k).set k (-1) else labTo G mode k) := rfl
          have HLB : Hid (labB G mode k = if mode = 1 then (walkS (subsN G) G.length).wi.getD k false else if mode = 2 then decide (1 < (walkS (subsN G) G.length).met.getD k 0) && decide (1 ≤ kindN G k ∧ kindN G k ≤ 3) else false) := rfl
          rw [HKD.out] at HLB
          clear hwl hml hll HKD
          generalize G[k].kind = kd at *
          generalize hwv : (walkS (subsN G) G.length).wi.getD k false = wv at *
          generalize (walkS (subsN G) G.length).met.getD k 0 = mv at *
          generalize (labTo G mode k).getD k 0 = lv at *
          have HWV : Hid _ := hwv
          clear hwv
          have hmode : mode = 0 ∨ mode = 1 ∨ mode = 2 := by omega
          rcases hmode with hm | hm | hm
          · have hb0 : (mode == 0) = true := by rw [hm]; decide
            have hb1 : (mode == 1) = false := by rw [hm]; decide
            have hb2 : (mode == 2) = false := by rw [hm]; decide
            have HM0 : Hid (mode = 0) := hm
            have HLF : Hid (labTo G mode (k + 1) = labTo G mode k) := by
              have hf : labB G mode k = false := by rw [HLB.out, if_neg (show ¬ mode = 1 by omega), if_neg (show ¬ mode = 2 by omega)]
              show _ = _; rw [HL1.out, hf]; rfl
            clear hm
            cases wv
            · go_wp2_with fail
              go_roundw
              case rel => exact ⟨k + 1, by omega, by go_num, by show RWalkAt _ _ _ _ _ _ _ _ _ _ _ _; rw [HLF.out]; exact hwk.out, hbk, fun h j hj => by
                  rcases Nat.lt_or_ge j k with h2 | h2
                  · exact hz.out h j h2
                  · have : j = k := by omega
                    subst this; exact HWV.out⟩
              case measure => simp [intOf]; omega
            · have HV : Hid (writeP G mode F = ([], 9)) := by
                show _ = _; unfold writeP; rw [if_neg (by omega), if_neg (by rw [hr]; simp), if_pos ⟨HM0.out, cyc_yes G k hlt HWV.out⟩]
              go_wp2_with fail
              go_ret2
              exact ⟨ret_two (a := []) (by rw [HV.out]) (by rw [HV.out]), HB2.out.trans (hbk.out.mono HB2.out.size)⟩
          · have hb0 : (mode == 0) = false := by rw [hm]; decide
            have hb1 : (mode == 1) = true := by rw [hm]; decide
            have hb2 : (mode == 2) = false := by rw [hm]; decide
            have HM1 : Hid (mode = 1) := hm
            clear hm
            cases wv
            · have HLF : Hid (labTo G mode (k + 1) = labTo G mode k) := by
                have hf : labB G mode k = false := by rw [HLB.out, if_pos HM1.out]
                show _ = _; rw [HL1.out, hf]; rfl
              go_wp2_with fail
              go_roundw
              case rel => exact ⟨k + 1, by omega, by go_num, by show RWalkAt _ _ _ _ _ _ _ _ _ _ _ _; rw [HLF.out]; exact hwk.out, hbk, fun h j hj => by have := HM1.out; omega⟩
              case measure => simp [intOf]; omega
            · have HLF : Hid (labTo G mode (k + 1) = (labTo G mode k).set k (-1)) := by
                have hf : labB G mode k = true := by rw [HLB.out, if_pos HM1.out]
                show _ = _; rw [HL1.out, hf]; rfl
              go_wp2_with fail
              go_roundw
              case rel => exact ⟨k + 1, by omega, by go_num, by show RWalkAt _ _ _ _ _ _ _ _ _ _ _ _; rw [HLF.out]; exact HSET.out, HBS, fun h j hj => by have := HM1.out; omega⟩
              case measure => simp [intOf]; omega
          · have hb0 : (mode == 0) = false := by rw [hm]; decide
            have hb1 : (mode == 1) = false := by rw [hm]; decide
            have hb2 : (mode == 2) = true := by rw [hm]; decide
            have HM1 : Hid (mode = 2) := hm
            clear hm
            by_cases hc : 1 < mv ∧ 1 ≤ kd ∧ kd ≤ 3
            · have HLF : Hid (labTo G mode (k + 1) = (labTo G mode k).set k (-1)) := by
                have hf : labB G mode k = true := by rw [HLB.out, if_neg (show ¬ mode = 1 by have := HM1.out; omega), if_pos HM1.out, decide_eq_true hc.1, decide_eq_true hc.2]; rfl
                show _ = _; rw [HL1.out, hf]; rfl
              obtain ⟨q1, q2, q3⟩ := hc
              go_wp2_with fail
              go_roundw
              case rel => exact ⟨k + 1, by omega, by go_num, by show RWalkAt _ _ _ _ _ _ _ _ _ _ _ _; rw [HLF.out]; exact HSET.out, HBS, fun h j hj => by have := HM1.out; omega⟩
              case measure => simp [intOf]; omega
            · have HLF : Hid (labTo G mode (k + 1) = labTo G mode k) := by
                have hf : labB G mode k = false := by
                  rw [HLB.out, if_neg (show ¬ mode = 1 by have := HM1.out; omega), if_pos HM1.out]
                  by_cases h1 : 1 < mv
                  · rw [decide_eq_false (fun h => hc ⟨h1, h⟩)]; simp
                  · rw [decide_eq_false h1]; simp
                show _ = _; rw [HL1.out, hf]; rfl
              by_cases q1 : 1 < mv
              · by_cases q2 : 1 ≤ kd
                · have q3 : 3 < kd := by omega
                  clear hc
                  go_wp2_with fail
                  go_roundw
                  case rel => exact ⟨k + 1, by omega, by go_num, by show RWalkAt _ _ _ _ _ _ _ _ _ _ _ _; rw [HLF.out]; exact hwk.out, hbk, fun h j hj => by have := HM1.out; omega⟩
                  case measure => simp [intOf]; omega
                · have q3 : kd < 1 := by omega
                  clear hc q2
                  go_wp2_with fail
                  go_roundw
                  case rel => exact ⟨k + 1, by omega, by go_num, by show RWalkAt _ _ _ _ _ _ _ _ _ _ _ _; rw [HLF.out]; exact hwk.out, hbk, fun h j hj => by have := HM1.out; omega⟩
                  case measure => simp [intOf]; omega
              · have q3 : mv ≤ 1 := by omega
                clear hc q1
                go_wp2_with fail
                go_roundw
                case rel => exact ⟨k + 1, by omega, by go_num, by show RWalkAt _ _ _ _ _ _ _ _ _ _ _ _; rw [HLF.out]; exact hwk.out, hbk, fun h j hj => by have := HM1.out; omega⟩
                case measure => simp [intOf]; omega
        · obtain rfl : k = G.length := by omega
          have hok := startT_ok G.length (labB G mode)
          have HST : Hid _ := refW_start hwk.out
          have HCX : Hid (RCtx G b o w2 p bl) := ⟨HG2.out, HKK.out, HSS.out, HTX.out, h150, HA.out.hp, HA.out.hl, HA.out.pl⟩
          have HND : Hid (need (startT G.length) ≤ F) := by show need _ ≤ _; unfold need startT; simp; omega
          have HOK : Hid _ := hok
          have HNC : Hid (¬ (mode = 0 ∧ cycB G = true)) := by
            intro h
            have := cyc_no G (hz.out h.1)
            rw [this] at h; exact absurd h.2 (by simp)
          have HOKT : Hid ((writeT G mode F).Ok G.length (labB G mode)) := WF_ok (subsN_lt G HSS.out) (fun y hy hk => pair_two G y hy (HKK.out y hy) hk) F false _ 0 hok (by omega)
          clear hok hz
          go_wp2_with fail
          refine ((refWR_any G b o cap w2 p bl (labB G mode) HCX.out F).1 _ 0 _ HOK.out (by omega) (by omega) HND.out hbk.out HST.out).mono ?_
          rintro e w5 ⟨rfl, hw5, hk5⟩
          have HW5 : Hid (RefW w5 p bl G.length (.slice (some ⟨b, o, none⟩) G.length cap) (labB G mode) (writeT G mode F)) := hw5
          have HB5 : Hid (Below w.heap.size w w5) := HB2.out.trans ((hbk.out.trans (hk5.below hbk.out.size HA.out.hp HA.out.hl)).mono HB2.out.size)
          clear hw5 hk5 hwk hbk HST
          go_wp2_with fail
          refine (refFull_any p bl _ _ _ _ _ HOKT.out HW5.out).mono ?_
          cases hlg : (writeT G mode F).long
          · rintro e w6 ⟨rfl, rfl⟩
            obtain ⟨ou, g6, _, ho⟩ := HW5.out.c6
            have HO : Hid _ := ho hlg
            have HV : Hid (writeP G mode F = ((writeT G mode F).out, 0)) := by
              show _ = _; unfold writeP; rw [if_neg (by omega), if_neg (by rw [hr]; simp), if_neg HNC.out, if_neg (by rw [hlg]; simp)]
            clear ho
            go_wp2_with fail
            go_ret2
            exact ⟨ret_two (by rw [HV.out, HO.out]) (by rw [HV.out]), HB5.out⟩
          · rintro e w6 ⟨rfl, rfl⟩
            have HV : Hid (writeP G mode F = ([], 2)) := by
              show _ = _; unfold writeP; rw [if_neg (by omega), if_neg (by rw [hr]; simp), if_neg HNC.out, if_pos hlg]
            go_wp2_with fail
            go_ret2
            exact ⟨ret_two (a := []) (by rw [HV.out]) (by rw [HV.out]), HB5.out⟩
end Go.Proofs.YtlhimdjkkiflhaaDoor
