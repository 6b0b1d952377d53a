/- The document goes through a graph. -/
import Derived.Test.YtlhimdjkkiflhaaDoorMeet
namespace Go.Proofs.YtlhimdjkkiflhaaDoor
open Go.RowKit Go.Loop

/-- the document's writer, in memory, as far as going through asks for it: v4 to v6, the other fields; a row of labels beside them -/
structure RWalkAt (w : World) (p bo bm bw bl n : Nat) (nv v5 v6 : Value) (lab : List Int) (s : WS) : Prop where
  c0 : w.cell? ⟨p, 0, none⟩ = some nv
  c1 : w.cell? ⟨p, 1, none⟩ = some (.slice (some ⟨bm, 0, none⟩) n n)
  c2 : w.cell? ⟨p, 2, none⟩ = some (.slice (some ⟨bw, 0, none⟩) n n)
  c3 : w.cell? ⟨p, 3, none⟩ = some (.slice (some ⟨bo, 0, none⟩) n n)
  c4 : w.cell? ⟨p, 4, none⟩ = some (.slice (some ⟨bl, 0, none⟩) n n)
  c5 : w.cell? ⟨p, 5, none⟩ = some v5
  c6 : w.cell? ⟨p, 6, none⟩ = some v6
  rm : RowI w bm s.met
  rw : RowB w bw s.wi
  ro : RowB w bo s.op
  rl : RowI w bl lab
  f5 : w.frozen? ⟨p, 5, none⟩ = false
  f6 : w.frozen? ⟨p, 6, none⟩ = false

/-- a fifth block -/
structure Apart5 (B p bo bm bw bl : Nat) : Prop extends Apart B p bo bm bw where
  hl : B ≤ bl
  pl : p ≠ bl
  ol : bo ≠ bl
  ml : bm ≠ bl
  wl : bw ≠ bl

theorem RWalkAt.hit {w : World} {p bo bm bw bl n : Nat} {nv v5 v6 : Value} {lab : List Int} {s : WS} {B : Nat} (h : RWalkAt w p bo bm bw bl n nv v5 v6 lab s) (A : Apart5 B p bo bm bw bl) {a : Nat} (ha : a < s.met.length) :
    RWalkAt (w.setCell ⟨bm, a, none⟩ (.int .i64 (s.met.getD a 0 + 1))) p bo bm bw bl n nv v5 v6 lab (s.hit a) := by
  have e := A.pm.symm
  exact ⟨by rw [cell_far e]; exact h.c0, by rw [cell_far e]; exact h.c1, by rw [cell_far e]; exact h.c2, by rw [cell_far e]; exact h.c3, by rw [cell_far e]; exact h.c4, by rw [cell_far e]; exact h.c5, by rw [cell_far e]; exact h.c6,
    h.rm.set a ha _, h.rw.far A.mw _, h.ro.far A.om.symm _, h.rl.far A.ml _, by rw [World.frozen?_setCell]; exact h.f5, by rw [World.frozen?_setCell]; exact h.f6⟩
theorem RWalkAt.setWi {w : World} {p bo bm bw bl n : Nat} {nv v5 v6 : Value} {lab : List Int} {s : WS} {B : Nat} (h : RWalkAt w p bo bm bw bl n nv v5 v6 lab s) (A : Apart5 B p bo bm bw bl) {a : Nat} (ha : a < s.wi.length) (v : Bool) :
    RWalkAt (w.setCell ⟨bw, a, none⟩ (.bool v)) p bo bm bw bl n nv v5 v6 lab { s with wi := s.wi.set a v } := by
  have e := A.pw.symm
  exact ⟨by rw [cell_far e]; exact h.c0, by rw [cell_far e]; exact h.c1, by rw [cell_far e]; exact h.c2, by rw [cell_far e]; exact h.c3, by rw [cell_far e]; exact h.c4, by rw [cell_far e]; exact h.c5, by rw [cell_far e]; exact h.c6,
    h.rm.far A.mw.symm _, h.rw.set a ha _, h.ro.far A.ow.symm _, h.rl.far A.wl _, by rw [World.frozen?_setCell]; exact h.f5, by rw [World.frozen?_setCell]; exact h.f6⟩
theorem RWalkAt.putOp {w : World} {p bo bm bw bl n : Nat} {nv v5 v6 : Value} {lab : List Int} {s : WS} {B : Nat} (h : RWalkAt w p bo bm bw bl n nv v5 v6 lab s) (A : Apart5 B p bo bm bw bl) {a : Nat} (ha : a < s.op.length) (v : Bool) :
    RWalkAt (w.setCell ⟨bo, a, none⟩ (.bool v)) p bo bm bw bl n nv v5 v6 lab { s with op := s.op.set a v } := by
  have e := A.po.symm
  exact ⟨by rw [cell_far e]; exact h.c0, by rw [cell_far e]; exact h.c1, by rw [cell_far e]; exact h.c2, by rw [cell_far e]; exact h.c3, by rw [cell_far e]; exact h.c4, by rw [cell_far e]; exact h.c5, by rw [cell_far e]; exact h.c6,
    h.rm.far A.om _, h.rw.far A.ow _, h.ro.set a ha _, h.rl.far A.ol _, by rw [World.frozen?_setCell]; exact h.f5, by rw [World.frozen?_setCell]; exact h.f6⟩
theorem set_self (l : List Bool) (a : Nat) : l.set a (l.getD a false) = l := by
  apply List.ext_getElem?
  intro i
  rw [List.getElem?_set]
  by_cases e : a = i
  · subst e
    rw [if_pos rfl]
    by_cases h : a < l.length
    · rw [if_pos h, List.getElem?_eq_getElem h]; simp [List.getD, List.getElem?_eq_getElem h]
    · rw [if_neg h, List.getElem?_eq_none (by omega)]
  · rw [if_neg e]
theorem again_no (s : WS) (a : Nat) (h : s.op.getD a false = false) : s.again a = s := by
  unfold WS.again; rw [h, Bool.or_false, set_self]
theorem again_yes (s : WS) (a : Nat) (h : s.op.getD a false = true) : s.again a = { s with wi := s.wi.set a true } := by
  unfold WS.again; rw [h, Bool.or_true]

set_option maxHeartbeats 2000000 in
theorem refThrough_any (G : List Nd) (b o cap : Nat) (W0 : World) (hG : Hid (GraphAt W0 b o G)) (_hn : G.length ≤ 150) (hsub : Hid (∀ x (h : x < G.length), subsB G[x].subs G.length = true)) (p bo bm bw bl : Nat) (A : Apart5 W0.heap.size p bo bm bw bl) (v5 v6 : Value) (lab : List Int) :
    ∀ (f : Nat) (s : WS) (a : Int) (w : World) (c : Nat), s.Ok G.length → 0 ≤ a → a < G.length → s.pot (fun _ => 1) < f → s.Bd (subsN G) c → c + 1 ≤ 1000000 → Below W0.heap.size W0 w →
      RWalkAt w p bo bm bw bl G.length (.slice (some ⟨b, o, none⟩) G.length cap) v5 v6 lab s →
      Calls Tryd.prog 28 #[.pointer (some ⟨p, 0, none⟩), .int .i64 a] w fun e w' => e = .returned (.tuple #[]) ∧
        RWalkAt w' p bo bm bw bl G.length (.slice (some ⟨b, o, none⟩) G.length cap) v5 v6 lab (meetF (subsN G) f s a.toNat) ∧ Below W0.heap.size W0 w' := by
  intro f
  induction f with
  | zero => intro s a w c _ _ _ h; omega
  | succ f ih =>
    intro s a w c hok ha0 ha hf hbd hc hb hw
    have IH : Hid _ := ih
    clear ih
    obtain ⟨n, rfl⟩ := Int.eq_ofNat_of_zero_le ha0
    rw [Int.toNat_natCast]
    have han : n < G.length := by omega
    have hml : n < s.met.length := by rw [hok.lm]; exact han
    have hbn := hbd n
    have hnn := hok.nn n
    have hw1 := hw.hit A hml
    have hb1 : Below W0.heap.size W0 (w.setCell ⟨bm, n, none⟩ (.int .i64 (s.met.getD n 0 + 1))) := hb.setCell A.hm _
    obtain ⟨c0, c1, c2, c3, c4, c5, c6, rm, rw_, ro, rl, _, _⟩ := hw
    have hmc := (rm n hml).1
    have hmf := (rm n hml).2
    have HOK : Hid _ := hok
    have HBD : Hid _ := hbd
    have hval : ∃ m : Int, Hid (m = s.met.getD n 0) := ⟨_, rfl⟩
    obtain ⟨m, hm⟩ := hval
    have hmet1 : (s.hit n).met.getD n 0 = m + 1 := by rw [hit_met hok han, if_pos rfl, hm.out]
    have HOM : Hid (s.op.getD n false = true → 0 < m) := by intro h; rw [hm.out]; exact hok.om n h
    rw [← hm.out] at hmc hnn hbn hb1 hw1
    have hm1 : m ≤ 1000000 := by omega
    have HB1 : Hid _ := hb1
    have HW1 : Hid _ := hw1
    have HM1 : Hid _ := hmet1
    clear hw1 hok hbd hb1 rm rw_ ro rl hml hbn hmet1 c4 c5 c6
    go_enter Tryd.func28, Tryd.ntmps28
    go_upto_region 1 with fail
    generalize w.setCell ⟨bm, n, none⟩ (.int .i64 (m + 1)) = w1 at *
    clear c0 c1 c2 c3 hmc hmf
    obtain ⟨d0, d1, d2, d3, d4, d5, d6, rm, rw_, ro, rl, _, _⟩ := HW1.out
    have hml : n < (s.hit n).met.length := by rw [(HOK.out.hit han).lm]; exact han
    have hwl : n < (s.hit n).wi.length := by rw [(HOK.out.hit han).lw]; exact han
    have hol : n < (s.hit n).op.length := by rw [(HOK.out.hit han).lo]; exact han
    have e0 := (rm n hml).1
    rw [HM1.out] at e0
    have e3 := (ro n hol).1
    have e4 := (ro n hol).2
    rw [show (s.hit n).op = s.op from rfl] at e3
    clear d4 d5 d6 rl
    by_cases hmet : 0 < m
    · have HF : Hid (meetF (subsN G) (f + 1) s n = (s.hit n).again n) := by show _ = _; simp only [meetF]; rw [if_pos (by rw [← hm.out]; exact hmet)]
      cases hop : s.op.getD n false
      · have HA : Hid _ := again_no (s.hit n) n hop
        rw [hop] at e3
        clear rm rw_ ro hml hwl hol IH hop e4
        go_wp2_with fail
        refine bodyPost_ret (results_none rfl _ _ _) rfl ?_
        refine ⟨rfl, ?_, HB1.out⟩
        rw [HF.out, HA.out]; exact HW1.out
      · have HA : Hid _ := again_yes (s.hit n) n hop
        have e1 := (rw_ n hwl).1
        have e2 := (rw_ n hwl).2
        have HW2 : Hid _ := HW1.out.setWi A hwl true
        have HB2 : Hid _ := HB1.out.setCell (p := ⟨bw, n, none⟩) A.hw (.bool true)
        rw [hop] at e3
        clear rm rw_ ro hml hwl hol IH hop e4
        have hml2 : n < (s.hit n).met.length := by rw [(HOK.out.hit han).lm]; exact han
        go_upto_region 3 with fail
        generalize w1.setCell ⟨bw, n, none⟩ (.bool true) = w2 at *
        clear d0 d1 d2 d3 e0 e1 e2 e3
        obtain ⟨f0, f1, f2, f3, f4, f5, f6, rm, rw_, ro, rl, _, _⟩ := HW2.out
        have e0 := (rm n hml2).1
        rw [HM1.out] at e0
        clear f4 f5 f6 rm rw_ ro rl hml2
        go_wp2_with fail
        refine bodyPost_ret (results_none rfl _ _ _) rfl ?_
        refine ⟨rfl, ?_, HB2.out⟩
        rw [HF.out, HA.out]; exact HW2.out
    · have hm2 : m ≤ 0 := by omega
      have hop : s.op.getD n false = false := by
        cases e : s.op.getD n false
        · rfl
        · have := HOM.out e; omega
      rw [hop] at e3
      have HE : Hid _ := HW1.out.putOp A hol true
      have HBe : Hid _ := HB1.out.setCell (p := ⟨bo, n, none⟩) A.ho (.bool true)
      have HF : Hid (meetF (subsN G) (f + 1) s n = ((subsN G n).foldl (meetF (subsN G) f) ((s.hit n).enter n)).leave n) := by show _ = _; simp only [meetF]; rw [if_neg (by rw [← hm.out]; exact hmet)]
      have HM0 : Hid (s.met.getD n 0 = 0) := by show _ = _; rw [← hm.out]; omega
      have HS : Hid _ := subsN_lt G hsub.out
      have HSN : Hid _ := subsN_at G n han
      have HSB : Hid _ := hsub.out n han
      have HI0 : Hid _ := (hG.out n han).ints
      have HC4 : Hid _ := (hG.out n han).subs
      clear rm rw_ ro hml hwl hol hm hmet hop
      go_upto_region 5 with fail
      generalize w1.setCell ⟨bo, n, none⟩ (.bool true) = w2 at *
      clear d0 d1 d2 d3 e0 e3 e4 HB1 HW1 HM1
      generalize G[n] = x at *
      rcases HI0.out with h | ⟨sb, so, hsa, hc⟩
      · have HE0 : Hid _ := h
        clear h
        go_wp2_with fail
        go_loopw [4] (fun i wr => ∃ k : Nat, k ≤ x.subs.length ∧ i = .int .i64 k ∧ Hid (RWalkAt wr p bo bm bw bl G.length (.slice (some ⟨b, o, none⟩) G.length cap) v5 v6 lab (((subsN G n).take k).foldl (meetF (subsN G) f) ((s.hit n).enter n))) ∧ Hid (Below W0.heap.size W0 wr)) (fun i _ => x.subs.length - (intOf i).toNat)
        case atStart => exact ⟨0, Nat.zero_le _, rfl, HE.out, HBe.out⟩
        case round =>
          obtain ⟨k, hk, rfl, hwk, hbk⟩ := hrel
          have hll : (subsN G n).length = x.subs.length := by rw [HSN.out]; simp
          have HLL : Hid _ := hll
          clear hll
          have hp0 := hwk.out.c0
          have hsc := cell_below hbk.out HC4.out
          obtain ⟨tok0, tpot0, tbd0, tc0⟩ := fold_facts HS.out f s n c k HOK.out han hf HBD.out HM0.out (by rw [HLL.out]; omega)
          have hsl : x.subs.length ≤ 1000000 := by have := HLL.out; omega
          have TOK : Hid _ := tok0
          have TPOT : Hid _ := tpot0
          have TBD : Hid _ := tbd0
          have TC0 : Hid _ := tc0
          clear tok0 tpot0 tbd0 tc0
          by_cases hlt : k < x.subs.length
          · exfalso; rw [HE0.out] at hlt; simp at hlt
          · have hkl : k = x.subs.length := by omega
            have hw4 := hwk.out
            rw [List.take_of_length_le (by rw [HLL.out]; omega)] at hw4
            have hokt := (fold_facts HS.out f s n c (subsN G n).length HOK.out han hf HBD.out HM0.out (Nat.le_refl _)).1
            rw [List.take_of_length_le (Nat.le_refl _)] at hokt
            have hol : n < ((subsN G n).foldl (meetF (subsN G) f) ((s.hit n).enter n)).op.length := by rw [hokt.lo]; exact han
            have HE2 : Hid _ := hw4.putOp A hol false
            have HB4 : Hid _ := hbk.out.setCell (p := ⟨bo, n, none⟩) A.ho (.bool false)
            have g1 := hw4.c3
            obtain ⟨g2, g3⟩ := hw4.ro n hol
            clear hw4 hol hokt hwk hbk
            generalize ((subsN G n).foldl (meetF (subsN G) f) ((s.hit n).enter n)) = t at *
            generalize t.op.getD n false = ob at *
            go_wp2_with fail
            go_end0
            refine ⟨rfl, ?_, HB4.out⟩
            rw [HF.out]; exact HE2.out
      · have HC : Hid _ := hc
        rw [hsa] at HC4
        clear hc hsa
        go_wp2_with fail
        go_loopw [4] (fun i wr => ∃ k : Nat, k ≤ x.subs.length ∧ i = .int .i64 k ∧ Hid (RWalkAt wr p bo bm bw bl G.length (.slice (some ⟨b, o, none⟩) G.length cap) v5 v6 lab (((subsN G n).take k).foldl (meetF (subsN G) f) ((s.hit n).enter n))) ∧ Hid (Below W0.heap.size W0 wr)) (fun i _ => x.subs.length - (intOf i).toNat)
        case atStart => exact ⟨0, Nat.zero_le _, rfl, HE.out, HBe.out⟩
        case round =>
          obtain ⟨k, hk, rfl, hwk, hbk⟩ := hrel
          have hll : (subsN G n).length = x.subs.length := by rw [HSN.out]; simp
          have HLL : Hid _ := hll
          clear hll
          have hp0 := hwk.out.c0
          have hsc := cell_below hbk.out HC4.out
          obtain ⟨tok0, tpot0, tbd0, tc0⟩ := fold_facts HS.out f s n c k HOK.out han hf HBD.out HM0.out (by rw [HLL.out]; omega)
          have hsl : x.subs.length ≤ 1000000 := by have := HLL.out; omega
          have TOK : Hid _ := tok0
          have TPOT : Hid _ := tpot0
          have TBD : Hid _ := tbd0
          have TC0 : Hid _ := tc0
          clear tok0 tpot0 tbd0 tc0
          by_cases hlt : k < x.subs.length
          · have hcell := cell_below hbk.out (HC.out k hlt)
            obtain ⟨v0, v1⟩ := subsB_at _ _ HSB.out k hlt
            have HCL : Hid (c + 1 - (subsN G n).length + k + 1 ≤ 1000000) := by have h1 := HLL.out; have h2 := TC0.out; show _ ≤ _; omega
            have hgetk : (subsN G n)[k]'(by rw [HLL.out]; exact hlt) = (x.subs.getD k 0).toNat := by
              have e : ∀ (l : List Nat) (hl : k < l.length), l = x.subs.map Int.toNat → l[k] = (x.subs.getD k 0).toNat := by
                intro l hl e; subst e; simp [List.getD, List.getElem?_eq_getElem hlt]
              exact e _ _ HSN.out
            have HSTEP : Hid _ := foldl_snoc (subsN G) f ((s.hit n).enter n) (subsN G n) k (by rw [HLL.out]; exact hlt)
            rw [hgetk] at HSTEP
            clear hgetk
            generalize x.subs.getD k 0 = v at *
            go_wp2_with fail
            refine (IH.out _ v _ _ TOK.out v0 v1 TPOT.out TBD.out HCL.out hbk.out hwk.out).mono ?_
            rintro e w3 ⟨rfl, hw3, hb3⟩
            rw [← HSTEP.out] at hw3
            have HW3 : Hid _ := hw3
            have HB3 : Hid _ := hb3
            clear hw3 hb3 hwk hbk hcell hp0 hsc
            go_wp2_with fail
            go_roundw
            case rel => exact ⟨k + 1, by omega, by go_num, HW3, HB3⟩
            case measure => simp [intOf]; omega
          · have hkl : k = x.subs.length := by omega
            have hw4 := hwk.out
            rw [List.take_of_length_le (by rw [HLL.out]; omega)] at hw4
            have hokt := (fold_facts HS.out f s n c (subsN G n).length HOK.out han hf HBD.out HM0.out (Nat.le_refl _)).1
            rw [List.take_of_length_le (Nat.le_refl _)] at hokt
            have hol : n < ((subsN G n).foldl (meetF (subsN G) f) ((s.hit n).enter n)).op.length := by rw [hokt.lo]; exact han
            have HE2 : Hid _ := hw4.putOp A hol false
            have HB4 : Hid _ := hbk.out.setCell (p := ⟨bo, n, none⟩) A.ho (.bool false)
            have g1 := hw4.c3
            obtain ⟨g2, g3⟩ := hw4.ro n hol
            clear hw4 hol hokt hwk hbk
            generalize ((subsN G n).foldl (meetF (subsN G) f) ((s.hit n).enter n)) = t at *
            generalize t.op.getD n false = ob at *
            go_wp2_with fail
            go_end0
            refine ⟨rfl, ?_, HB4.out⟩
            rw [HF.out]; exact HE2.out
end Go.Proofs.YtlhimdjkkiflhaaDoor
