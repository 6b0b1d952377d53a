/- The program's look whether nodes are a graph. -/
import Derived.Test.YtlhimdjkkiflhaaDoorGraphA
namespace Go.Proofs.YtlhimdjkkiflhaaDoor
open Go.RowKit Go.Loop

theorem subsB_snoc (l : List Int) (k : Nat) (h : k < l.length) (all : Int) : subsB (l.take (k + 1)) all = (subsB (l.take k) all && decide (0 ≤ l.getD k 0 ∧ l.getD k 0 < all)) := by
  unfold subsB
  rw [List.take_succ_eq_append_getElem h, List.all_append]
  simp [List.getD, List.getElem?_eq_getElem h]
theorem subsB_no (l : List Int) (k : Nat) (h : k < l.length) (all : Int) (hb : ¬ (0 ≤ l.getD k 0 ∧ l.getD k 0 < all)) : subsB l all = false := by
  unfold subsB
  rw [List.all_eq_false]
  refine ⟨l[k], List.getElem_mem h, ?_⟩
  simp [List.getD, List.getElem?_eq_getElem h] at hb ⊢
  omega

set_option maxHeartbeats 1000000 in
theorem rightSubs_any (l : List Int) (a : Option Addr) (cap : Nat) (all : Int) (w : World) (hl : l.length ≤ maxLen) (hc : IntsAt w a l) :
    Calls Tryd.prog 20 #[.slice a l.length cap, .int .i64 all] w fun e w' => e = .returned (.bool (subsB l all)) ∧ w' = w := by
  unfold maxLen at hl
  rcases hc with rfl | ⟨b, o, rfl, hc⟩
  · go_enter Tryd.func20, Tryd.ntmps20
    go_wp2_with fail
    go_loop [9] (fun i => i = .int .i64 0) (fun i => (intOf i).toNat)
    case atStart => rfl
    case round =>
      subst hrel
      go_wp2_with fail
      go_ret
      exact ⟨rfl, rfl⟩
  · have HC : Hid _ := hc
    clear hc
    go_enter Tryd.func20, Tryd.ntmps20
    go_wp2_with fail
    go_loop [9] (fun i => ∃ k : Nat, k ≤ l.length ∧ i = .int .i64 k ∧ Hid (subsB (l.take k) all = true)) (fun i => l.length - (intOf i).toNat)
    case atStart => exact ⟨0, Nat.zero_le _, rfl, rfl⟩
    case round =>
      obtain ⟨k, hk, rfl, hr⟩ := hrel
      by_cases hlt : k < l.length
      · have hcell := HC.out k hlt
        by_cases hb : 0 ≤ l.getD k 0 ∧ l.getD k 0 < all
        · have H : Hid (subsB (l.take (k + 1)) all = true) := by show _ = _; rw [subsB_snoc l k hlt, hr.out, decide_eq_true hb]; rfl
          obtain ⟨hb1, hb2⟩ := hb
          generalize hg : l.getD k 0 = v at *
          have HG : Hid _ := hg
          clear hg
          go_wp2_with fail
          go_round
          case rel => exact ⟨k + 1, by omega, by go_num, H⟩
          case measure => simp [intOf]; omega
        · have H : Hid (subsB l all = false) := subsB_no l k hlt all hb
          generalize hg : l.getD k 0 = v at *
          have HG : Hid _ := hg
          clear hg
          by_cases h0 : 0 ≤ v
          · have h1 : all ≤ v := by omega
            clear hb
            go_wp2_with fail
            go_ret
            exact ⟨ret_bool H.out.symm, rfl⟩
          · clear hb
            go_wp2_with fail
            go_ret
            exact ⟨ret_bool H.out.symm, rfl⟩
      · have H : Hid (subsB l all = true) := by have := hr.out; rwa [List.take_of_length_le (by omega)] at this
        go_wp2_with fail
        go_ret
        exact ⟨ret_bool H.out.symm, rfl⟩

/-- one node in memory -/
structure NodeAt (w : World) (b o : Nat) (x : Nd) : Prop where
  kind : w.cell? ⟨b, o, none⟩ = some (.int .i64 x.kind)
  text : w.cell? ⟨b, o + 1, none⟩ = some (.string ⟨⟨x.text⟩⟩)
  n : w.cell? ⟨b, o + 2, none⟩ = some (.int .i64 x.n)
  d : w.cell? ⟨b, o + 3, none⟩ = some (.int .i64 x.d)
  subs : w.cell? ⟨b, o + 4, none⟩ = some (.slice x.sa x.subs.length x.cap)
  ints : IntsAt w x.sa x.subs
  tlen : x.text.length ≤ maxLen
  slen : x.subs.length ≤ maxLen

/-- nodes in memory, one behind the other -/
def GraphAt (w : World) (b o : Nat) (G : List Nd) : Prop := ∀ i, (h : i < G.length) → NodeAt w b (o + i * 5) G[i]

theorem cell_lt {w : World} {a : Addr} {v : Value} (h : w.cell? a = some v) : a.block < w.heap.size := by
  unfold World.cell? at h
  by_cases hb : a.block < w.heap.size
  · exact hb
  · rw [Array.getElem?_eq_none (by omega)] at h; simp at h
theorem cell_below {w w' : World} (hb : Below w.heap.size w w') {a : Addr} {v : Value} (h : w.cell? a = some v) : w'.cell? a = some v := by
  rw [hb.cell (cell_lt h)]; exact h
theorem IntsAt.below {w w' : World} {a : Option Addr} {l : List Int} (h : IntsAt w a l) (hb : Below w.heap.size w w') : IntsAt w' a l := by
  rcases h with rfl | ⟨b, o, rfl, hc⟩
  · exact Or.inl rfl
  · exact Or.inr ⟨b, o, rfl, fun j hj => cell_below hb (hc j hj)⟩
theorem NodeAt.below {w w' : World} {b o : Nat} {x : Nd} (h : NodeAt w b o x) (hb : Below w.heap.size w w') : NodeAt w' b o x :=
  ⟨cell_below hb h.kind, cell_below hb h.text, cell_below hb h.n, cell_below hb h.d, cell_below hb h.subs, h.ints.below hb, h.tlen, h.slen⟩
theorem GraphAt.below {w w' : World} {b o : Nat} {G : List Nd} (h : GraphAt w b o G) (hb : Below w.heap.size w w') : GraphAt w' b o G := fun i hi => (h i hi).below hb

theorem blk_cells {w w1 : World} {c : Array Value} {t : TypeId} (hb : Below (w.alloc (.cells c t)).heap.size (w.alloc (.cells c t)) w1) :
    (∀ o, w1.cell? ⟨w.heap.size, o, none⟩ = c[o]?) ∧ (∀ o, w1.frozen? ⟨w.heap.size, o, none⟩ = false) := by
  refine ⟨fun o => ?_, fun o => ?_⟩
  · rw [hb.cell (by simp), World.cell?_alloc_at _ _ _ _ rfl]
  · rw [hb.frozen (by simp), World.frozen?_alloc_at _ _ _ _ rfl]
theorem all_snoc {α : Type} (l : List α) (k : Nat) (h : k < l.length) (p : α → Bool) : (l.take (k + 1)).all p = ((l.take k).all p && p l[k]) := by
  rw [List.take_succ_eq_append_getElem h, List.all_append, List.all_cons, List.all_nil, Bool.and_true]
theorem all_no {α : Type} (l : List α) (k : Nat) (h : k < l.length) (p : α → Bool) (hp : p l[k] = false) : l.all p = false := by
  rw [List.all_eq_false]; exact ⟨l[k], List.getElem_mem h, by simp [hp]⟩

set_option maxHeartbeats 1000000 in
theorem right_any (G : List Nd) (b o cap : Nat) (w : World) (hl : G.length ≤ maxLen) (hG : GraphAt w b o G) :
    Calls Tryd.prog 9 #[.slice (some ⟨b, o, none⟩) G.length cap] w fun e w' => e = .returned (.bool (rightB G)) ∧ Below w.heap.size w w' := by
  unfold maxLen at hl
  have HG : Hid _ := hG
  clear hG
  by_cases h1 : G.length < 1
  · have H : Hid (rightB G = false) := by show _ = _; unfold rightB; rw [decide_eq_false (by omega)]; rfl
    go_enter Tryd.func9, Tryd.ntmps9
    go_wp2_with fail
    go_ret
    exact ⟨ret_bool H.out.symm, Below.refl _ _⟩
  · by_cases h2 : 150 < G.length
    · have H : Hid (rightB G = false) := by show _ = _; unfold rightB; rw [decide_eq_false (by omega)]; rfl
      go_enter Tryd.func9, Tryd.ntmps9
      go_wp2_with fail
      go_ret
      exact ⟨ret_bool H.out.symm, Below.refl _ _⟩
    · have d1 : decide ((G.length : Int) < 1) = false := by simp; omega
      have d2 : decide ((150 : Int) < (G.length : Int)) = false := by simp; omega
      have HR : Hid (rightB G = G.all (fun x => kindB x && subsB x.subs G.length)) := by show _ = _; unfold rightB; rw [decide_eq_true (by omega)]; rfl
      go_enter Tryd.func9, Tryd.ntmps9
      go_wp2_with fail
      go_loopw [15] (fun i wr => ∃ k : Nat, k ≤ G.length ∧ i = .int .i64 k ∧ Below w.heap.size w wr ∧ Hid ((G.take k).all (fun x => kindB x && subsB x.subs G.length) = true)) (fun i _ => G.length - (intOf i).toNat)
      case atStart => exact ⟨0, Nat.zero_le _, rfl, Below.refl _ _, rfl⟩
      case round =>
        obtain ⟨k, hk, rfl, hb, hr⟩ := hrel
        by_cases hlt : k < G.length
        · obtain ⟨c0, c1, c2, c3, c4, hi, ht, hs⟩ := (HG.out k hlt).below hb
          have HS : Hid _ := all_snoc G k hlt (fun x => kindB x && subsB x.subs G.length)
          have HN : Hid _ := all_no G k hlt (fun x => kindB x && subsB x.subs G.length)
          have HT : Hid _ := ht
          have HI : Hid _ := hi
          have HL : Hid _ := hs
          clear ht hi hs
          generalize G[k] = x at *
          have hz := hb.size
          cases hkb : kindB x
          · have HV : Hid (rightB G = false) := by show _ = _; rw [HR.out]; exact HN.out (by simp [hkb])
            go_wp2_with fail
            refine (rightKind_any x _ HT.out).mono ?_
            rw [hkb]; rintro e w2 ⟨rfl, hb2⟩
            go_wp2_with fail
            go_ret
            exact ⟨ret_bool HV.out.symm, (hb.alloc hz _).trans (hb2.mono (by simp; omega))⟩
          · go_wp2_with fail
            refine (rightKind_any x _ HT.out).mono ?_
            rw [hkb]; rintro e w2 ⟨rfl, hb2⟩
            obtain ⟨hcell, hfz⟩ := blk_cells hb2
            have hb3 := (hb.alloc hz _).trans (hb2.mono (by simp; omega))
            have hz2 := hb2.size
            have HI2 : Hid (IntsAt w2 x.sa x.subs) := IntsAt.below (w := wr) HI.out ((Below.refl _ _).alloc (Nat.le_refl _) _ |>.trans (hb2.mono (by simp)))
            have HB2 : Hid _ := hb2
            clear hb2 hfz c0 c1 c2 c3 c4
            cases hsb : subsB x.subs G.length
            · have HV : Hid (rightB G = false) := by show _ = _; rw [HR.out]; exact HN.out (by simp [hsb])
              go_wp2_with fail
              refine (rightSubs_any x.subs _ _ _ _ HL.out HI2.out).mono ?_
              rw [hsb]; rintro e w3 ⟨rfl, rfl⟩
              go_wp2_with fail
              go_ret
              exact ⟨ret_bool HV.out.symm, hb3⟩
            · have HV : Hid ((G.take (k + 1)).all (fun x => kindB x && subsB x.subs G.length) = true) := by show _ = _; rw [HS.out, hr.out, hkb, hsb]; rfl
              go_wp2_with fail
              refine (rightSubs_any x.subs _ _ _ _ HL.out HI2.out).mono ?_
              rw [hsb]; rintro e w3 ⟨rfl, rfl⟩
              go_wp2_with fail
              go_roundw
              case rel => exact ⟨k + 1, by omega, by go_num, hb3, HV⟩
              case measure => simp [intOf]; omega
        · have HV : Hid (rightB G = true) := by show _ = _; rw [HR.out]; have := hr.out; rwa [List.take_of_length_le (by omega)] at this
          go_wp2_with fail
          go_ret
          exact ⟨ret_bool HV.out.symm, hb⟩
end Go.Proofs.YtlhimdjkkiflhaaDoor
