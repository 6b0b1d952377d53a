/- The program goes through a graph. -/
import Derived.Test.YtlhimdjkkiflhaaDoorRows1
import Derived.Deep.DeepCutAuto
namespace Go.Proofs.YtlhimdjkkiflhaaDoor
open Go.RowKit Go.Loop

theorem foldl_snoc (S : Nat → List Nat) (f : Nat) (t : WS) (l : List Nat) (k : Nat) (h : k < l.length) : (l.take (k + 1)).foldl (meetF S f) t = meetF S f ((l.take k).foldl (meetF S f) t) l[k] := by
  rw [List.take_succ_eq_append_getElem h, List.foldl_append]; rfl

theorem fold_ok {n : Nat} {S : Nat → List Nat} (hS : ∀ x, x < n → ∀ y ∈ S x, y < n) (f : Nat) : ∀ (l : List Nat) (t : WS), (∀ y ∈ l, y < n) → t.Ok n → (l.foldl (meetF S f) t).Ok n
  | [], _, _, ht => ht
  | y :: r, t, hl, ht => fold_ok hS f r _ (fun z hz => hl z (List.mem_cons_of_mem _ hz)) (Ok.meet hS f t y ht (hl y List.mem_cons_self))
theorem fold_pot {n : Nat} {S : Nat → List Nat} (hS : ∀ x, x < n → ∀ y ∈ S x, y < n) (g : Nat → Nat) (f : Nat) : ∀ (l : List Nat) (t : WS), (∀ y ∈ l, y < n) → t.Ok n → (l.foldl (meetF S f) t).pot g ≤ t.pot g
  | [], _, _, _ => Nat.le_refl _
  | y :: r, t, hl, ht => Nat.le_trans (fold_pot hS g f r _ (fun z hz => hl z (List.mem_cons_of_mem _ hz)) (Ok.meet hS f t y ht (hl y List.mem_cons_self))) (pot_meet hS g f t y ht (hl y List.mem_cons_self))
theorem fold_bd {n : Nat} {S : Nat → List Nat} (hS : ∀ x, x < n → ∀ y ∈ S x, y < n) (f : Nat) : ∀ (l : List Nat) (t : WS) (k : Nat), (∀ y ∈ l, y < n) → t.Ok n → t.Bd S k → (l.foldl (meetF S f) t).Bd S (k + l.length)
  | [], _, _, _, _, hk => hk
  | y :: r, t, k, hl, ht, hk => by
    have := fold_bd hS f r (meetF S f t y) (k + 1) (fun z hz => hl z (List.mem_cons_of_mem _ hz)) (Ok.meet hS f t y ht (hl y List.mem_cons_self)) (Bd.meet hS f t y k ht (hl y List.mem_cons_self) hk)
    simp only [List.foldl_cons, List.length_cons]
    rw [show k + (r.length + 1) = k + 1 + r.length by omega]; exact this

/-- the state in the midst of a node's list -/
theorem fold_facts {N : Nat} {S : Nat → List Nat} (hS : ∀ x, x < N → ∀ y ∈ S x, y < N) (f : Nat) (s : WS) (n c k : Nat) (hok : s.Ok N) (hn : n < N) (hf : s.pot (fun _ => 1) < f + 1) (hbd : s.Bd S c) (hm : s.met.getD n 0 = 0) (hk : k ≤ (S n).length) :
    (((S n).take k).foldl (meetF S f) ((s.hit n).enter n)).Ok N ∧ (((S n).take k).foldl (meetF S f) ((s.hit n).enter n)).pot (fun _ => 1) < f ∧ (((S n).take k).foldl (meetF S f) ((s.hit n).enter n)).Bd S (c + 1 - (S n).length + k) ∧ (S n).length ≤ c := by
  have h2 : ((s.hit n).enter n).Ok N := (hok.hit hn).enter hn (hit_pos hok hn)
  have hl : ∀ y ∈ (S n).take k, y < N := fun y hy => hS n hn y (List.mem_of_mem_take hy)
  have hp := pot_hit hok hn (fun _ => 1)
  have hp2 := pot_hit hok hn (fun x => (S x).length)
  rw [if_pos hm] at hp hp2
  have hc : (S n).length ≤ c := by have := hbd n; omega
  refine ⟨fold_ok hS f _ _ hl h2, ?_, ?_, hc⟩
  · have := fold_pot hS (fun _ => 1) f _ _ hl h2
    have e : ((s.hit n).enter n).pot (fun _ => 1) = (s.hit n).pot (fun _ => 1) := rfl
    omega
  · have hb2 : ((s.hit n).enter n).Bd S (c + 1 - (S n).length) := by
      intro i
      show (s.hit n).met.getD i 0 + ((s.hit n).pot (fun x => (S x).length) : Nat) ≤ _
      rw [hit_met hok hn]
      have h1 := hbd i; have h3 := hbd n
      split <;> omega
    have := fold_bd hS f _ _ _ hl h2 hb2
    rwa [List.length_take, Nat.min_eq_left hk] at this

theorem subsN_at (G : List Nd) (x : Nat) (h : x < G.length) : subsN G x = G[x].subs.map Int.toNat := by
  unfold subsN; rw [List.getElem?_eq_getElem h]
theorem subsB_at (l : List Int) (all : Int) (h : subsB l all = true) (k : Nat) (hk : k < l.length) : 0 ≤ l.getD k 0 ∧ l.getD k 0 < all := by
  unfold subsB at h
  have := List.all_eq_true.1 h _ (List.getElem_mem hk)
  simp [List.getD, List.getElem?_eq_getElem hk] at this ⊢
  exact this
theorem subsN_lt (G : List Nd) (hsub : ∀ x (h : x < G.length), subsB G[x].subs G.length = true) : ∀ x, x < G.length → ∀ y ∈ subsN G x, y < G.length := by
  intro x hx y hy
  rw [subsN_at G x hx] at hy
  obtain ⟨v, hv, rfl⟩ := List.mem_map.1 hy
  have := List.all_eq_true.1 (hsub x hx) v hv
  simp at this
  omega

set_option maxHeartbeats 2000000 in
theorem meet_any (G : List Nd) (b o cap : Nat) (W0 : World) (hG : Hid (GraphAt W0 b o G)) (_hn : G.length ≤ 150) (hsub : Hid (∀ x (h : x < G.length), subsB G[x].subs G.length = true)) (p bo bm bw : Nat) (A : Apart W0.heap.size p bo bm bw) :
    ∀ (f : Nat) (s : WS) (a : Int) (w : World) (c : Nat), s.Ok G.length → 0 ≤ a → a < G.length → s.pot (fun _ => 1) < f → s.Bd (subsN G) c → c + 1 ≤ 1000000 → Below W0.heap.size W0 w →
      WalkAt w p bo bm bw G.length (.slice (some ⟨b, o, none⟩) G.length cap) s →
      Calls Tryd.prog 21 #[.pointer (some ⟨p, 0, none⟩), .int .i64 a] w fun e w' => e = .returned (.tuple #[]) ∧
        WalkAt w' p bo bm bw G.length (.slice (some ⟨b, o, none⟩) G.length cap) (meetF (subsN G) f s a.toNat) ∧ Below W0.heap.size W0 w' := by
  intro f
  induction f with
  | zero => intro s a w c _ _ _ h; omega
  | succ f ih =>
    intro s a w c hok ha0 ha hf hbd hc hb hw
    have IH : Hid _ := ih
    clear ih
    obtain ⟨n, rfl⟩ := Int.eq_ofNat_of_zero_le ha0
    rw [Int.toNat_natCast]
    have han : n < G.length := by omega
    have hml : n < s.met.length := by rw [hok.lm]; exact han
    have hbn := hbd n
    have hnn := hok.nn n
    have hw1 := hw.hit A hml
    have hb1 : Below W0.heap.size W0 (w.setCell ⟨bm, n, none⟩ (.int .i64 (s.met.getD n 0 + 1))) := hb.setCell A.hm _
    obtain ⟨c0, c1, c2, c3, rm, rw_, ro⟩ := hw
    have hmc := (rm n hml).1
    have hmf := (rm n hml).2
    have HOK : Hid _ := hok
    have HBD : Hid _ := hbd
    have hval : ∃ m : Int, Hid (m = s.met.getD n 0) := ⟨_, rfl⟩
    obtain ⟨m, hm⟩ := hval
    have hmet1 : (s.hit n).met.getD n 0 = m + 1 := by rw [hit_met hok han, if_pos rfl, hm.out]
    rw [← hm.out] at hmc hnn hbn hb1 hw1
    have hm1 : m ≤ 1000000 := by omega
    have HB1 : Hid _ := hb1
    have HW1 : Hid _ := hw1
    have HM1 : Hid _ := hmet1
    clear hw1 hok hbd hb1 rm rw_ ro hml hbn hmet1
    go_enter Tryd.func21, Tryd.ntmps21
    go_upto_region 1 with fail
    generalize w.setCell ⟨bm, n, none⟩ (.int .i64 (m + 1)) = w1 at *
    clear c0 c1 c2 c3 hmc hmf
    obtain ⟨d0, d1, d2, d3, rm, rw_, ro⟩ := HW1.out
    have hml : n < (s.hit n).met.length := by rw [(HOK.out.hit han).lm]; exact han
    have hwl : n < (s.hit n).wi.length := by rw [(HOK.out.hit han).lw]; exact han
    have hol : n < (s.hit n).op.length := by rw [(HOK.out.hit han).lo]; exact han
    have e0 := (rm n hml).1
    rw [HM1.out] at e0
    by_cases hmet : 0 < m
    · have e1 := (rw_ n hwl).1
      have e2 := (rw_ n hwl).2
      have e3 := (ro n hol).1
      have HA : Hid _ := HW1.out.again A hwl
      have HBa : Hid _ := fun v => HB1.out.setCell (p := ⟨bw, n, none⟩) A.hw v
      have HF : Hid (meetF (subsN G) (f + 1) s n = (s.hit n).again n) := by show _ = _; simp only [meetF]; rw [if_pos (by rw [← hm.out]; exact hmet)]
      rw [show (s.hit n).wi = s.wi from rfl] at e1 HA
      rw [show (s.hit n).op = s.op from rfl] at e3 HA
      clear rm rw_ ro hml hwl hol IH
      cases hwi : s.wi.getD n false
      · cases hop : s.op.getD n false
        · rw [hwi] at e1; rw [hop] at e3
          rw [hwi, hop] at HA
          clear hwi hop
          go_wp2_with fail
          go_region
          go_wp2_with fail
          refine bodyPost_ret (results_none rfl _ _ _) rfl ?_
          refine ⟨rfl, ?_, ?_⟩
          · rw [HF.out]; exact HA.out.drew
          · exact (HBa.out _).drew
        · rw [hwi] at e1; rw [hop] at e3
          rw [hwi, hop] at HA
          clear hwi hop
          go_wp2_with fail
          go_region
          go_wp2_with fail
          refine bodyPost_ret (results_none rfl _ _ _) rfl ?_
          refine ⟨rfl, ?_, ?_⟩
          · rw [HF.out]; exact HA.out.drew
          · exact (HBa.out _).drew
      · rw [hwi] at e1
        rw [hwi, Bool.true_or] at HA
        clear hwi e3
        go_wp2_with fail
        go_region
        go_wp2_with fail
        refine bodyPost_ret (results_none rfl _ _ _) rfl ?_
        refine ⟨rfl, ?_, ?_⟩
        · rw [HF.out]; exact HA.out.drew
        · exact (HBa.out _).drew
    · have hm2 : m ≤ 0 := by omega
      have e3 := (ro n hol).1
      have e4 := (ro n hol).2
      have HE : Hid _ := HW1.out.putOp A hol true
      have HBe : Hid _ := HB1.out.setCell (p := ⟨bo, n, none⟩) A.ho (.bool true)
      have HF : Hid (meetF (subsN G) (f + 1) s n = ((subsN G n).foldl (meetF (subsN G) f) ((s.hit n).enter n)).leave n) := by show _ = _; simp only [meetF]; rw [if_neg (by rw [← hm.out]; exact hmet)]
      have HM0 : Hid (s.met.getD n 0 = 0) := by show _ = _; rw [← hm.out]; omega
      have HS : Hid _ := subsN_lt G hsub.out
      have hnode := (hG.out n han).below HBe.out
      have HSN : Hid _ := subsN_at G n han
      have HSB : Hid _ := hsub.out n han
      have HI0 : Hid _ := (hG.out n han).ints
      clear rm rw_ ro hml hwl hol hm hmet
      go_upto_region 4 with fail
      generalize w1.setCell ⟨bo, n, none⟩ (.bool true) = w2 at *
      obtain ⟨c0, c1, c2, c3, c4, hi, ht, hs⟩ := hnode
      have HI : Hid _ := hi
      have HL : Hid _ := hs
      obtain ⟨f0, f1, f2, f3, rm, rw_, ro⟩ := HE.out
      clear d0 d1 d2 d3 e0 e3 e4 c0 c1 c2 c3 hi ht hs f1 f2 f3 rm rw_ ro HB1 HW1 HM1
      generalize G[n] = x at *
      rcases HI0.out with h | ⟨sb, so, hsa, hc⟩
      · have HE0 : Hid _ := h
        clear h
        go_wp2_with fail
        go_loopw [64] (fun i wr => ∃ k : Nat, k ≤ x.subs.length ∧ i = .int .i64 k ∧ Hid (WalkAt wr p bo bm bw G.length (.slice (some ⟨b, o, none⟩) G.length cap) (((subsN G n).take k).foldl (meetF (subsN G) f) ((s.hit n).enter n))) ∧ Hid (Below W0.heap.size W0 wr)) (fun i _ => x.subs.length - (intOf i).toNat)
        case atStart => exact ⟨0, Nat.zero_le _, rfl, HE.out, HBe.out⟩
        case round =>
          obtain ⟨k, hk, rfl, hwk, hbk⟩ := hrel
          have hll : (subsN G n).length = x.subs.length := by rw [HSN.out]; simp
          have HLL : Hid _ := hll
          clear hll
          by_cases hlt : k < x.subs.length
          · exfalso; rw [HE0.out] at hlt; simp at hlt
          · have hkl : k = x.subs.length := by omega
            have hw4 := hwk.out
            rw [List.take_of_length_le (by rw [HLL.out]; omega)] at hw4
            have hokt := (fold_facts HS.out f s n c (subsN G n).length HOK.out han hf HBD.out HM0.out (Nat.le_refl _)).1
            rw [List.take_of_length_le (Nat.le_refl _)] at hokt
            have hol : n < ((subsN G n).foldl (meetF (subsN G) f) ((s.hit n).enter n)).op.length := by rw [hokt.lo]; exact han
            have HE2 : Hid _ := hw4.putOp A hol false
            have HB4 : Hid _ := hbk.out.setCell (p := ⟨bo, n, none⟩) A.ho (.bool false)
            have g1 := hw4.c1
            obtain ⟨g2, g3⟩ := hw4.ro n hol
            clear hw4 hol hokt hwk hbk
            generalize ((subsN G n).foldl (meetF (subsN G) f) ((s.hit n).enter n)) = t at *
            generalize t.op.getD n false = ob at *
            go_wp2_with fail
            go_end0
            refine ⟨rfl, ?_, HB4.out⟩
            rw [HF.out]; exact HE2.out
      · have HC : Hid _ := hc
        rw [hsa] at c4
        clear hc hsa
        go_wp2_with fail
        go_loopw [64] (fun i wr => ∃ k : Nat, k ≤ x.subs.length ∧ i = .int .i64 k ∧ Hid (WalkAt wr p bo bm bw G.length (.slice (some ⟨b, o, none⟩) G.length cap) (((subsN G n).take k).foldl (meetF (subsN G) f) ((s.hit n).enter n))) ∧ Hid (Below W0.heap.size W0 wr)) (fun i _ => x.subs.length - (intOf i).toNat)
        case atStart => exact ⟨0, Nat.zero_le _, rfl, HE.out, HBe.out⟩
        case round =>
          obtain ⟨k, hk, rfl, hwk, hbk⟩ := hrel
          have hll : (subsN G n).length = x.subs.length := by rw [HSN.out]; simp
          have HLL : Hid _ := hll
          clear hll
          by_cases hlt : k < x.subs.length
          · have hcell := cell_below hbk.out (HC.out k hlt)
            obtain ⟨tok, tpot, tbd, tc⟩ := fold_facts HS.out f s n c k HOK.out han hf HBD.out HM0.out (by rw [HLL.out]; omega)
            obtain ⟨v0, v1⟩ := subsB_at _ _ HSB.out k hlt
            have hgetk : (subsN G n)[k]'(by rw [HLL.out]; exact hlt) = (x.subs.getD k 0).toNat := by
              have e : ∀ (l : List Nat) (hl : k < l.length), l = x.subs.map Int.toNat → l[k] = (x.subs.getD k 0).toNat := by
                intro l hl e; subst e; simp [List.getD, List.getElem?_eq_getElem hlt]
              exact e _ _ HSN.out
            have HSTEP : Hid _ := foldl_snoc (subsN G) f ((s.hit n).enter n) (subsN G n) k (by rw [HLL.out]; exact hlt)
            rw [hgetk] at HSTEP
            have hcl : c + 1 - (subsN G n).length + k + 1 ≤ 1000000 := by have := HLL.out; omega
            have HCL : Hid _ := hcl
            have hsl : x.subs.length ≤ 1000000 := by have := HLL.out; omega
            have TOK : Hid _ := tok
            have TPOT : Hid _ := tpot
            have TBD : Hid _ := tbd
            clear tok tpot tbd tc hgetk hcl
            generalize x.subs.getD k 0 = v at *
            go_wp2_with fail
            refine (IH.out _ v _ _ TOK.out v0 v1 TPOT.out TBD.out HCL.out hbk.out hwk.out).mono ?_
            rintro e w3 ⟨rfl, hw3, hb3⟩
            rw [← HSTEP.out] at hw3
            have HW3 : Hid _ := hw3
            have HB3 : Hid _ := hb3
            clear hw3 hb3 hwk hbk hcell
            go_wp2_with fail
            go_roundw
            case rel => exact ⟨k + 1, by omega, by go_num, HW3, HB3⟩
            case measure => simp [intOf]; omega
          · have hkl : k = x.subs.length := by omega
            have hw4 := hwk.out
            rw [List.take_of_length_le (by rw [HLL.out]; omega)] at hw4
            have hokt := (fold_facts HS.out f s n c (subsN G n).length HOK.out han hf HBD.out HM0.out (Nat.le_refl _)).1
            rw [List.take_of_length_le (Nat.le_refl _)] at hokt
            have hol : n < ((subsN G n).foldl (meetF (subsN G) f) ((s.hit n).enter n)).op.length := by rw [hokt.lo]; exact han
            have HE2 : Hid _ := hw4.putOp A hol false
            have HB4 : Hid _ := hbk.out.setCell (p := ⟨bo, n, none⟩) A.ho (.bool false)
            have g1 := hw4.c1
            obtain ⟨g2, g3⟩ := hw4.ro n hol
            clear hw4 hol hokt hwk hbk
            generalize ((subsN G n).foldl (meetF (subsN G) f) ((s.hit n).enter n)) = t at *
            generalize t.op.getD n false = ob at *
            go_wp2_with fail
            go_end0
            refine ⟨rfl, ?_, HB4.out⟩
            rw [HF.out]; exact HE2.out
end Go.Proofs.YtlhimdjkkiflhaaDoor
