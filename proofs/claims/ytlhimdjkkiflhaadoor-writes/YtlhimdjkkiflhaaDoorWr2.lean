/- PLAIN MATHEMATICS: a graph, written: when it is too long nothing more is written; how many steps are enough. -/
import Derived.Test.YtlhimdjkkiflhaaDoorWr
namespace Go.Loop

theorem vec_long {node : TS → Nat → TS} (hn : ∀ t y, t.long = true → node t y = t) (l : List Nat) : ∀ (k : Nat) (t : TS), t.long = true → vecTo node l k t = t
  | 0, _, _ => rfl
  | k + 1, t, h => by
    simp only [vecTo]
    rw [vec_long hn l k t h, add_long h, ite_self, hn t _ h]

theorem WF_long {K : Nat → Int} {S : Nat → List Nat} {At : Nat → List UInt8} {L : Nat → Bool} : ∀ (f : Nat) (b : Bool) (t : TS) (a : Nat), t.long = true → WF K S At L f b t a = t
  | 0, _, _, _, _ => rfl
  | f + 1, false, t, a, h => by simp only [WF]; rw [if_pos h]
  | f + 1, true, t, a, h => by
    simp only [WF]
    rw [add_long h, add_long h, add_long h, WF_long f false t _ h, WF_long f false t _ h, WF_long f true t _ h, add_long h, ite_self, ite_self]

/-- how many steps are enough -/
def need (t : TS) : Nat := if t.long then 1 else 2 + (401 - t.out.length)

theorem need_add (t : TS) (p : List UInt8) : need (t.add p) ≤ need t := by
  by_cases h : t.long = true
  · rw [add_long h]; exact Nat.le_refl _
  · have h' : t.long = false := by simpa using h
    by_cases h2 : 400 < t.out.length + p.length
    · rw [add_over h' h2]; unfold need; rw [if_pos rfl, if_neg h]; omega
    · rw [add_fits h' (by omega)]; unfold need; rw [if_neg (by simpa using h'), if_neg h]; simp; omega
theorem need_lt {t : TS} (h : t.long = false) (ho : t.out.length ≤ 400) {p : List UInt8} (hp : 1 ≤ p.length) : need (t.add p) < need t := by
  by_cases h2 : 400 < t.out.length + p.length
  · rw [add_over h h2]; unfold need; rw [if_pos rfl, if_neg (by simp [h])]; omega
  · rw [add_fits h (by omega)]; unfold need; rw [if_neg (by simp [h]), if_neg (by simp [h])]; simp; omega
theorem need_put (t : TS) (a : Nat) : need (t.put a) ≤ need t := need_add t _
theorem need_pos (t : TS) : 1 ≤ need t := by unfold need; split <;> omega

theorem need_vec {node : TS → Nat → TS} (hn : ∀ t y, need (node t y) ≤ need t) (l : List Nat) : ∀ (k : Nat) (t : TS), need (vecTo node l k t) ≤ need t
  | 0, _ => Nat.le_refl _
  | k + 1, t => by
    simp only [vecTo]
    have ih := need_vec hn l k t
    split
    · exact Nat.le_trans (hn _ _) ih
    · exact Nat.le_trans (hn _ _) (Nat.le_trans (need_add _ _) ih)

theorem need_WF {K : Nat → Int} {S : Nat → List Nat} {At : Nat → List UInt8} {L : Nat → Bool} : ∀ (f : Nat) (b : Bool) (t : TS) (a : Nat), need (WF K S At L f b t a) ≤ need t
  | 0, _, _, _ => Nat.le_refl _
  | f + 1, false, t, a => by
    simp only [WF]
    by_cases h1 : t.long = true
    · rw [if_pos h1]; exact Nat.le_refl _
    · rw [if_neg h1]
      by_cases h2 : 0 ≤ t.lab.getD a (-1)
      · rw [if_pos h2]; exact need_add _ _
      · rw [if_neg h2]
        have h0 : need (if L a then t.put a else t) ≤ need t := by
          split
          · exact need_put _ _
          · exact Nat.le_refl _
        by_cases k1 : K a = 1
        · rw [if_pos k1]
          exact Nat.le_trans (need_WF f true _ _) (Nat.le_trans (need_WF f false _ _) (Nat.le_trans (need_add _ _) h0))
        · rw [if_neg k1]
          by_cases k2 : K a = 2
          · rw [if_pos k2]
            exact Nat.le_trans (need_add _ _) (Nat.le_trans (need_vec (fun t y => need_WF f false t y) _ _ _) (Nat.le_trans (need_add _ _) h0))
          · rw [if_neg k2]; exact Nat.le_trans (need_add _ _) h0
  | f + 1, true, t, a => by
    simp only [WF]
    by_cases c1 : K a = 1 ∧ L a = false
    · rw [if_pos c1]
      exact Nat.le_trans (need_WF f true _ _) (Nat.le_trans (need_WF f false _ _) (need_add _ _))
    · rw [if_neg c1]
      by_cases c2 : K a = 0
      · rw [if_pos c2]; exact need_add _ _
      · rw [if_neg c2]; exact Nat.le_trans (need_add _ _) (Nat.le_trans (need_WF f false _ _) (need_add _ _))
end Go.Loop
