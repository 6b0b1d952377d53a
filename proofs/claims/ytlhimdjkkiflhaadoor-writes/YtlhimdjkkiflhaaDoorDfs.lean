/-
  PLAIN MATHEMATICS: going through a graph, each node gone through once: how often a node is met, whether it is met again from within. No dump, no walk.
-/
import Derived.Lib.ItoaMem
namespace Go.Loop

/-- how often a node was met; whether it was met from within; whether one is within it now -/
structure WS where
  met : List Int
  wi : List Bool
  op : List Bool

def WS.hit (s : WS) (a : Nat) : WS := { s with met := s.met.set a (s.met.getD a 0 + 1) }
def WS.again (s : WS) (a : Nat) : WS := { s with wi := s.wi.set a (s.wi.getD a false || s.op.getD a false) }
def WS.enter (s : WS) (a : Nat) : WS := { s with op := s.op.set a true }
def WS.leave (s : WS) (a : Nat) : WS := { s with op := s.op.set a false }

def meetF (S : Nat → List Nat) : Nat → WS → Nat → WS
  | 0, s, _ => s
  | f + 1, s, a => if 0 < s.met.getD a 0 then (s.hit a).again a else ((S a).foldl (meetF S f) ((s.hit a).enter a)).leave a

/-- a state of n nodes -/
structure WS.Ok (n : Nat) (s : WS) : Prop where
  lm : s.met.length = n
  lw : s.wi.length = n
  lo : s.op.length = n
  nn : ∀ i, 0 ≤ s.met.getD i 0
  om : ∀ i, s.op.getD i false = true → 0 < s.met.getD i 0

theorem getD_set {α : Type} (l : List α) (a i : Nat) (v d : α) (h : a < l.length) : (l.set a v).getD i d = if i = a then v else l.getD i d := by
  simp only [List.getD, List.getElem?_set]
  by_cases e : a = i
  · subst e; simp [h]
  · rw [if_neg e, if_neg (fun x => e x.symm)]

theorem WS.Ok.hit {n : Nat} {s : WS} (h : s.Ok n) {a : Nat} (ha : a < n) : (s.hit a).Ok n := by
  refine ⟨by simp [WS.hit, h.lm], h.lw, h.lo, fun i => ?_, fun i hi => ?_⟩
  · simp only [WS.hit]; rw [getD_set _ _ _ _ _ (by rw [h.lm]; exact ha)]
    split
    · have := h.nn a; omega
    · exact h.nn i
  · simp only [WS.hit]; rw [getD_set _ _ _ _ _ (by rw [h.lm]; exact ha)]
    split
    · have := h.nn a; omega
    · exact h.om i hi
theorem WS.Ok.again {n : Nat} {s : WS} (h : s.Ok n) (a : Nat) : (s.again a).Ok n := ⟨h.lm, by simp [WS.again, h.lw], h.lo, h.nn, h.om⟩
theorem WS.Ok.leave {n : Nat} {s : WS} (h : s.Ok n) {a : Nat} (ha : a < n) : (s.leave a).Ok n := by
  refine ⟨h.lm, h.lw, by simp [WS.leave, h.lo], h.nn, fun i hi => ?_⟩
  simp only [WS.leave] at hi; rw [getD_set _ _ _ _ _ (by rw [h.lo]; exact ha)] at hi
  split at hi
  · exact absurd hi (by simp)
  · exact h.om i hi
theorem WS.Ok.enter {n : Nat} {s : WS} (h : s.Ok n) {a : Nat} (ha : a < n) (hm : 0 < s.met.getD a 0) : (s.enter a).Ok n := by
  refine ⟨h.lm, h.lw, by simp [WS.enter, h.lo], h.nn, fun i hi => ?_⟩
  simp only [WS.enter] at hi; rw [getD_set _ _ _ _ _ (by rw [h.lo]; exact ha)] at hi
  split at hi
  · rename_i e; subst e; exact hm
  · exact h.om i hi
theorem hit_met {n : Nat} {s : WS} (h : s.Ok n) {a : Nat} (ha : a < n) (i : Nat) : (s.hit a).met.getD i 0 = if i = a then s.met.getD a 0 + 1 else s.met.getD i 0 := by
  simp only [WS.hit]; rw [getD_set _ _ _ _ _ (by rw [h.lm]; exact ha)]
theorem hit_pos {n : Nat} {s : WS} (h : s.Ok n) {a : Nat} (ha : a < n) : 0 < (s.hit a).met.getD a 0 := by
  rw [hit_met h ha, if_pos rfl]; have := h.nn a; omega

theorem Ok.meet {n : Nat} {S : Nat → List Nat} (hS : ∀ x, x < n → ∀ y ∈ S x, y < n) : ∀ (f : Nat) (s : WS) (a : Nat), s.Ok n → a < n → (meetF S f s a).Ok n
  | 0, s, a, h, ha => h
  | f + 1, s, a, h, ha => by
    simp only [meetF]
    split
    · exact (h.hit ha).again a
    · refine WS.Ok.leave ?_ ha
      have h2 : ((s.hit a).enter a).Ok n := (h.hit ha).enter ha (hit_pos h ha)
      have : ∀ (l : List Nat) (t : WS), (∀ y ∈ l, y < n) → t.Ok n → (l.foldl (meetF S f) t).Ok n := by
        intro l
        induction l with
        | nil => intro t _ ht; exact ht
        | cons y r ih => intro t hl ht; exact ih _ (fun z hz => hl z (List.mem_cons_of_mem _ hz)) (Ok.meet hS f t y ht (hl y List.mem_cons_self))
      exact this _ _ (hS a ha) h2

/-- a sum over the nodes that were not met yet -/
def potL (g : Nat → Nat) : Nat → List Int → Nat
  | _, [] => 0
  | i, m :: r => (if m = 0 then g i else 0) + potL g (i + 1) r

theorem potL_set (g : Nat → Nat) : ∀ (met : List Int) (i a : Nat) (v : Int), v ≠ 0 → a < met.length → potL g i (met.set a v) + (if met.getD a 0 = 0 then g (i + a) else 0) = potL g i met
  | [], _, _, _, _, h => by simp at h
  | m :: r, i, 0, v, hv, _ => by simp [potL, List.set, hv]; omega
  | m :: r, i, a + 1, v, hv, h => by
    have ih := potL_set g r (i + 1) a v hv (by simpa using h)
    simp only [List.set, potL, List.getD_cons_succ]
    rw [show i + (a + 1) = i + 1 + a by omega]; omega

def WS.pot (s : WS) (g : Nat → Nat) : Nat := potL g 0 s.met
theorem pot_hit {n : Nat} {s : WS} (h : s.Ok n) {a : Nat} (ha : a < n) (g : Nat → Nat) : (s.hit a).pot g + (if s.met.getD a 0 = 0 then g a else 0) = s.pot g := by
  have := potL_set g s.met 0 a (s.met.getD a 0 + 1) (by have := h.nn a; omega) (by rw [h.lm]; exact ha)
  rw [Nat.zero_add] at this; exact this

/-- each count, and what may still come, is at most c -/
def WS.Bd (S : Nat → List Nat) (c : Nat) (s : WS) : Prop := ∀ i, s.met.getD i 0 + (s.pot (fun x => (S x).length) : Nat) ≤ c

theorem Bd.meet {n : Nat} {S : Nat → List Nat} (hS : ∀ x, x < n → ∀ y ∈ S x, y < n) : ∀ (f : Nat) (s : WS) (a c : Nat), s.Ok n → a < n → s.Bd S c → (meetF S f s a).Bd S (c + 1)
  | 0, s, a, c, h, ha, hb => fun i => by have := hb i; simp only [meetF]; omega
  | f + 1, s, a, c, h, ha, hb => by
    simp only [meetF]
    have hp := pot_hit h ha (fun x => (S x).length)
    split
    · rename_i hm
      intro i
      show (s.hit a).met.getD i 0 + ((s.hit a).pot (fun x => (S x).length) : Nat) ≤ _
      rw [hit_met h ha]
      rw [if_neg (by omega)] at hp
      have h1 := hb i; have h2 := hb a
      split <;> omega
    · rename_i hm
      have hm0 : s.met.getD a 0 = 0 := by have := h.nn a; omega
      rw [if_pos hm0] at hp
      have h2 : ((s.hit a).enter a).Ok n := (h.hit ha).enter ha (hit_pos h ha)
      have hc : (S a).length ≤ c := by have := hb a; omega
      have hb2 : ((s.hit a).enter a).Bd S (c + 1 - (S a).length) := by
        intro i
        show (s.hit a).met.getD i 0 + ((s.hit a).pot (fun x => (S x).length) : Nat) ≤ _
        rw [hit_met h ha]
        have h1 := hb i; have h3 := hb a
        split <;> omega
      have : ∀ (l : List Nat) (t : WS) (k : Nat), (∀ y ∈ l, y < n) → t.Ok n → t.Bd S k → (l.foldl (meetF S f) t).Bd S (k + l.length) := by
        intro l
        induction l with
        | nil => intro t k _ _ ht; exact ht
        | cons y r ih =>
          intro t k hl ht hk
          have := ih (meetF S f t y) (k + 1) (fun z hz => hl z (List.mem_cons_of_mem _ hz)) (Ok.meet hS f t y ht (hl y List.mem_cons_self)) (Bd.meet hS f t y k ht (hl y List.mem_cons_self) hk)
          simp only [List.foldl_cons, List.length_cons]
          rw [show k + (r.length + 1) = k + 1 + r.length by omega]; exact this
      have h4 := this (S a) _ _ (hS a ha) h2 hb2
      rw [show c + 1 - (S a).length + (S a).length = c + 1 by omega] at h4
      exact h4

theorem pot_meet {n : Nat} {S : Nat → List Nat} (hS : ∀ x, x < n → ∀ y ∈ S x, y < n) (g : Nat → Nat) : ∀ (f : Nat) (s : WS) (a : Nat), s.Ok n → a < n → (meetF S f s a).pot g ≤ s.pot g
  | 0, s, a, _, _ => Nat.le_refl _
  | f + 1, s, a, h, ha => by
    simp only [meetF]
    have hp := pot_hit h ha g
    split
    · show (s.hit a).pot g ≤ _; omega
    · have h2 : ((s.hit a).enter a).Ok n := (h.hit ha).enter ha (hit_pos h ha)
      have : ∀ (l : List Nat) (t : WS), (∀ y ∈ l, y < n) → t.Ok n → (l.foldl (meetF S f) t).pot g ≤ t.pot g := by
        intro l
        induction l with
        | nil => intro t _ _; exact Nat.le_refl _
        | cons y r ih => intro t hl ht; exact Nat.le_trans (ih _ (fun z hz => hl z (List.mem_cons_of_mem _ hz)) (Ok.meet hS f t y ht (hl y List.mem_cons_self))) (pot_meet hS g f t y ht (hl y List.mem_cons_self))
      have h4 := this (S a) _ (hS a ha) h2
      have h5 : ((s.hit a).enter a).pot g = (s.hit a).pot g := rfl
      show (((S a).foldl (meetF S f) ((s.hit a).enter a))).pot g ≤ _
      omega

/-- in the order in which they were left: what a node holds was met from within, or was left ahead of it -/
def ClosedIn (S : Nat → List Nat) (wi : List Bool) (fin : List Nat) : Prop :=
  ∀ (i x : Nat), fin[i]? = some x → ∀ y ∈ S x, wi.getD y false = true ∨ ∃ j : Nat, j < i ∧ fin[j]? = some y

structure Fnd (S : Nat → List Nat) (s : WS) (fin : List Nat) : Prop where
  cl : ∀ x, 0 < s.met.getD x 0 → s.op.getD x false = true ∨ x ∈ fin
  q : ClosedIn S s.wi fin
  wm : ∀ x, s.wi.getD x false = true → 0 < s.met.getD x 0
  fm : ∀ x ∈ fin, 0 < s.met.getD x 0

/-- what one call of 'meet' leaves -/
structure Met (S : Nat → List Nat) (s s' : WS) (fin fin' : List Nat) (a : Nat) : Prop where
  fnd : Fnd S s' fin'
  pre : ∃ ext, fin' = fin ++ ext
  op : ∀ i, s'.op.getD i false = s.op.getD i false
  wi : ∀ i, s.wi.getD i false = true → s'.wi.getD i false = true
  met : ∀ i, 0 < s.met.getD i 0 → 0 < s'.met.getD i 0
  here : s'.wi.getD a false = true ∨ a ∈ fin'
  hit : 0 < s'.met.getD a 0

theorem ClosedIn.mono {S : Nat → List Nat} {wi wi' : List Bool} {fin : List Nat} (h : ClosedIn S wi fin) (hw : ∀ i, wi.getD i false = true → wi'.getD i false = true) : ClosedIn S wi' fin :=
  fun i x hx y hy => (h i x hx y hy).imp (hw y) id

theorem met_fin {n : Nat} {S : Nat → List Nat} (hS : ∀ x, x < n → ∀ y ∈ S x, y < n) : ∀ (f : Nat) (s : WS) (a : Nat) (fin : List Nat), s.Ok n → a < n → s.pot (fun _ => 1) < f → Fnd S s fin →
    ∃ fin', Met S s (meetF S f s a) fin fin' a
  | 0, s, a, fin, _, _, h, _ => by omega
  | f + 1, s, a, fin, h, ha, hf, hF => by
    have hp := pot_hit h ha (fun _ => 1)
    simp only [meetF]
    split
    · rename_i hm
      have hwi : ∀ i, s.wi.getD i false = true → ((s.hit a).again a).wi.getD i false = true := by
        intro i hi
        show (s.wi.set a (s.wi.getD a false || s.op.getD a false)).getD i false = true
        rw [getD_set _ _ _ _ _ (by rw [h.lw]; exact ha)]
        split
        · rename_i e; subst e; rw [hi]; rfl
        · exact hi
      have hmt : ∀ i, 0 < s.met.getD i 0 → 0 < ((s.hit a).again a).met.getD i 0 := by
        intro i hi
        show 0 < (s.hit a).met.getD i 0
        rw [hit_met h ha]; split <;> omega
      refine ⟨fin, ⟨fun x hx => ?_, hF.q.mono hwi, fun x hx => ?_, fun x hx => hmt x (hF.fm x hx)⟩, ⟨[], by simp⟩, fun i => rfl, hwi, hmt, ?_, hmt a hm⟩
      · change 0 < (s.hit a).met.getD x 0 at hx
        rw [hit_met h ha] at hx
        split at hx
        · rename_i e; subst e; exact hF.cl x hm
        · exact hF.cl x hx
      · change (s.wi.set a (s.wi.getD a false || s.op.getD a false)).getD x false = true at hx
        rw [getD_set _ _ _ _ _ (by rw [h.lw]; exact ha)] at hx
        split at hx
        · rename_i e; subst e; exact hmt x hm
        · exact hmt x (hF.wm x hx)
      · rcases hF.cl a hm with ho | hi
        · left
          show (s.wi.set a (s.wi.getD a false || s.op.getD a false)).getD a false = true
          rw [getD_set _ _ _ _ _ (by rw [h.lw]; exact ha), if_pos rfl, ho]; simp
        · exact Or.inr hi
    · rename_i hm
      have hm0 : s.met.getD a 0 = 0 := by have := h.nn a; omega
      rw [if_pos hm0] at hp
      have hoa : s.op.getD a false = false := by
        cases e : s.op.getD a false
        · rfl
        · have := h.om a e; omega
      have h2 : ((s.hit a).enter a).Ok n := (h.hit ha).enter ha (hit_pos h ha)
      have hop2 : ∀ i, ((s.hit a).enter a).op.getD i false = if i = a then true else s.op.getD i false := by
        intro i
        show (s.op.set a true).getD i false = _
        rw [getD_set _ _ _ _ _ (by rw [h.lo]; exact ha)]
      have hF2 : Fnd S ((s.hit a).enter a) fin := by
        have hmt : ∀ i, 0 < s.met.getD i 0 → 0 < ((s.hit a).enter a).met.getD i 0 := by
          intro i hi
          show 0 < (s.hit a).met.getD i 0
          rw [hit_met h ha]; split <;> omega
        refine ⟨fun x hx => ?_, hF.q, fun x hx => hmt x (hF.wm x hx), fun x hx => hmt x (hF.fm x hx)⟩
        change 0 < (s.hit a).met.getD x 0 at hx
        rw [hit_met h ha] at hx
        rw [hop2]
        by_cases e : x = a
        · left; rw [if_pos e]
        · rw [if_neg e] at hx; rw [if_neg e]; exact hF.cl x hx
      have key : ∀ (l : List Nat) (t : WS) (fn : List Nat), (∀ y ∈ l, y < n) → t.Ok n → t.pot (fun _ => 1) < f → Fnd S t fn →
          ∃ fn', Fnd S (l.foldl (meetF S f) t) fn' ∧ (∃ ext, fn' = fn ++ ext) ∧ (∀ i, (l.foldl (meetF S f) t).op.getD i false = t.op.getD i false) ∧ (∀ i, t.wi.getD i false = true → (l.foldl (meetF S f) t).wi.getD i false = true)
            ∧ (∀ i, 0 < t.met.getD i 0 → 0 < (l.foldl (meetF S f) t).met.getD i 0) ∧ (∀ y ∈ l, (l.foldl (meetF S f) t).wi.getD y false = true ∨ y ∈ fn') := by
        intro l
        induction l with
        | nil => intro t fn _ _ _ hT; exact ⟨fn, hT, ⟨[], by simp⟩, fun _ => rfl, fun _ h => h, fun _ h => h, fun y hy => by simp at hy⟩
        | cons y r ih =>
          intro t fn hl ht hpt hT
          have hy := hl y List.mem_cons_self
          obtain ⟨fn1, m1⟩ := met_fin hS f t y fn ht hy hpt hT
          obtain ⟨e1, rfl⟩ := m1.pre
          obtain ⟨fn2, k1, ⟨e2, rfl⟩, k3, k4, k5, k6⟩ := ih (meetF S f t y) _ (fun z hz => hl z (List.mem_cons_of_mem _ hz)) (Ok.meet hS f t y ht hy) (Nat.lt_of_le_of_lt (pot_meet hS _ f t y ht hy) hpt) m1.fnd
          refine ⟨_, k1, ⟨e1 ++ e2, by simp⟩, fun i => (k3 i).trans (m1.op i), fun i hi => k4 i (m1.wi i hi), fun i hi => k5 i (m1.met i hi), fun z hz => ?_⟩
          rcases List.mem_cons.1 hz with rfl | hz
          · rcases m1.here with h | h
            · exact Or.inl (k4 _ h)
            · exact Or.inr (List.mem_append_left _ h)
          · exact k6 z hz
      obtain ⟨fn, k1, ⟨ext, rfl⟩, k3, k4, k5, k6⟩ := key (S a) ((s.hit a).enter a) fin (hS a ha) h2 (by show (s.hit a).pot (fun _ => 1) < f; omega) hF2
      have hokt : ((S a).foldl (meetF S f) ((s.hit a).enter a)).Ok n := by
        have : ∀ (l : List Nat) (t : WS), (∀ y ∈ l, y < n) → t.Ok n → (l.foldl (meetF S f) t).Ok n := by
          intro l
          induction l with
          | nil => intro t _ ht; exact ht
          | cons y r ih => intro t hl ht; exact ih _ (fun z hz => hl z (List.mem_cons_of_mem _ hz)) (Ok.meet hS f t y ht (hl y List.mem_cons_self))
        exact this _ _ (hS a ha) h2
      generalize (S a).foldl (meetF S f) ((s.hit a).enter a) = t at *
      have hopl : ∀ i, (t.leave a).op.getD i false = if i = a then false else t.op.getD i false := by
        intro i
        show (t.op.set a false).getD i false = _
        rw [getD_set _ _ _ _ _ (by rw [hokt.lo]; exact ha)]
      refine ⟨fin ++ ext ++ [a], ⟨fun x hx => ?_, fun i x hx y hy => ?_, k1.wm, fun x hx => ?_⟩, ⟨ext ++ [a], by simp⟩, fun i => ?_, fun i hi => k4 i hi, fun i hi => k5 i ?_, Or.inr (by simp), k5 a (hit_pos h ha)⟩
      · by_cases e : x = a
        · right; simp [e]
        · rcases k1.cl x hx with ho | hi
          · left; rw [hopl, if_neg e]; exact ho
          · right; exact List.mem_append_left _ hi
      · by_cases hi : i < (fin ++ ext).length
        · rw [List.getElem?_append_left hi] at hx
          rcases k1.q i x hx y hy with hw | ⟨j, hj, hjy⟩
          · exact Or.inl hw
          · refine Or.inr ⟨j, hj, ?_⟩
            rw [List.getElem?_append_left (by omega)]; exact hjy
        · rw [List.getElem?_append_right (by omega)] at hx
          have hia : i - (fin ++ ext).length = 0 := by
            rcases Nat.eq_zero_or_pos (i - (fin ++ ext).length) with h | h
            · exact h
            · rw [List.getElem?_eq_none (by simp only [List.length_cons, List.length_nil]; omega)] at hx; simp at hx
          rw [hia] at hx
          simp at hx
          subst hx
          rcases k6 y hy with hw | hm
          · exact Or.inl hw
          · obtain ⟨j, hj, hjy⟩ := List.getElem_of_mem hm
            refine Or.inr ⟨j, by omega, ?_⟩
            rw [List.getElem?_append_left hj, List.getElem?_eq_getElem hj, hjy]
      · rcases List.mem_append.1 hx with hx | hx
        · exact k1.fm x hx
        · rw [List.mem_singleton.1 hx]; exact k5 a (hit_pos h ha)
      · rw [hopl]
        split
        · rename_i e; rw [e, hoa]
        · rename_i e; rw [k3, hop2, if_neg e]
      · change 0 < (s.hit a).met.getD i 0
        rw [hit_met h ha]; split <;> omega

/-- nothing was met yet -/
def WS.start (n : Nat) : WS := ⟨List.replicate n 0, List.replicate n false, List.replicate n false⟩
theorem getD_rep {α : Type} (n i : Nat) (v : α) : (List.replicate n v).getD i v = v := by
  simp [List.getD, List.getElem?_replicate]
  split <;> rfl
theorem start_ok (n : Nat) : (WS.start n).Ok n :=
  ⟨by simp [WS.start], by simp [WS.start], by simp [WS.start], fun i => by show 0 ≤ (List.replicate n (0 : Int)).getD i 0; rw [getD_rep]; omega, fun i hi => by
    change (List.replicate n false).getD i false = true at hi; rw [getD_rep] at hi; exact absurd hi (by simp)⟩
theorem potL_one (n : Nat) : ∀ i, potL (fun _ => 1) i (List.replicate n 0) = n := by
  induction n with
  | zero => intro i; rfl
  | succ n ih => intro i; simp [List.replicate_succ, potL, ih]; omega
theorem start_fnd (n : Nat) (S : Nat → List Nat) : Fnd S (WS.start n) [] :=
  ⟨fun x hx => by change 0 < (List.replicate n (0 : Int)).getD x 0 at hx; rw [getD_rep] at hx; omega, fun i x hx => by simp at hx,
    fun x hx => by change (List.replicate n false).getD x false = true at hx; rw [getD_rep] at hx; exact absurd hx (by simp), fun x hx => by simp at hx⟩

theorem idxOf_le : ∀ (l : List Nat) (j : Nat) (h : j < l.length), l.idxOf l[j] ≤ j
  | c :: r, 0, _ => by simp
  | c :: r, j + 1, h => by
    have hj : j < r.length := by simpa using h
    have ih := idxOf_le r j hj
    rw [List.idxOf_cons]
    simp only [List.getElem_cons_succ]
    cases (c == r[j]) <;> simp <;> omega

/-- all that is met, going through a graph from node 0 on -/
def walkS (S : Nat → List Nat) (n : Nat) : WS := meetF S (n + 1) (WS.start n) 0
/-- what is reached -/
def reach (S : Nat → List Nat) (n : Nat) (x : Nat) : Prop := 0 < (walkS S n).met.getD x 0

theorem walk_rank {n : Nat} {S : Nat → List Nat} (hn : 0 < n) (hS : ∀ x, x < n → ∀ y ∈ S x, y < n) :
    ∃ (R : Nat) (r : Nat → Nat), (∀ x, r x ≤ R) ∧ reach S n 0 ∧ (∀ x, reach S n x → ∀ y ∈ S x, reach S n y) ∧
      (∀ x, reach S n x → ∀ y ∈ S x, (walkS S n).wi.getD y false = false → r y < r x) := by
  obtain ⟨fin, m⟩ := met_fin hS (n + 1) (WS.start n) 0 [] (start_ok n) hn (by show potL (fun _ => 1) 0 (List.replicate n 0) < n + 1; rw [potL_one]; omega) (start_fnd n S)
  have hcl : ∀ x, reach S n x → x ∈ fin := by
    intro x hx
    rcases m.fnd.cl x hx with h | h
    · rw [m.op] at h
      change (List.replicate n false).getD x false = true at h
      rw [getD_rep] at h; exact absurd h (by simp)
    · exact h
  refine ⟨fin.length, fun x => fin.idxOf x, fun x => List.idxOf_le_length, m.hit, fun x hx y hy => ?_, fun x hx y hy hw => ?_⟩
  · have hi := hcl x hx
    have hlt := List.idxOf_lt_length_of_mem hi
    have hg : fin[fin.idxOf x]? = some x := by rw [List.getElem?_eq_getElem hlt, List.getElem_idxOf hlt]
    rcases m.fnd.q _ _ hg y hy with h | ⟨j, _, hj⟩
    · exact m.fnd.wm y h
    · exact m.fnd.fm y (List.mem_of_getElem? hj)
  · have hi := hcl x hx
    have hlt := List.idxOf_lt_length_of_mem hi
    have hg : fin[fin.idxOf x]? = some x := by rw [List.getElem?_eq_getElem hlt, List.getElem_idxOf hlt]
    rcases m.fnd.q _ _ hg y hy with h | ⟨j, hj, hjy⟩
    · rw [show (meetF S (n + 1) (WS.start n) 0) = walkS S n from rfl, hw] at h; exact absurd h (by simp)
    · have hjl : j < fin.length := by
        rcases Nat.lt_or_ge j fin.length with h | h
        · exact h
        · rw [List.getElem?_eq_none h] at hjy; simp at hjy
      rw [List.getElem?_eq_getElem hjl] at hjy
      have : fin.idxOf y ≤ j := by
        rw [← Option.some.inj hjy]
        exact idxOf_le fin j hjl
      show fin.idxOf y < fin.idxOf x
      omega
end Go.Loop

/-
  PLAIN MATHEMATICS: a graph, written. No dump, no walk.
-/
namespace Go.Loop

/-- labels that were written (below 0: none yet), the next one, the text, whether it is too long -/
structure TS where
  lab : List Int
  next : Nat
  out : List UInt8
  long : Bool

def TS.add (t : TS) (p : List UInt8) : TS := if t.long then t else if 400 < t.out.length + p.length then { t with long := true } else { t with out := t.out ++ p }
def TS.put (t : TS) (a : Nat) : TS := { t.add (35 :: (Lib.itoa t.next ++ [61])) with lab := t.lab.set a t.next, next := t.next + 1 }

/-- so many things of a list, with a blank between -/
def vecTo (node : TS → Nat → TS) (l : List Nat) : Nat → TS → TS
  | 0, t => t
  | k + 1, t => node (if k = 0 then vecTo node l k t else (vecTo node l k t).add [32]) (l.getD k 0)

/-- a node (false), or the rest of a pair (true) -/
def WF (K : Nat → Int) (S : Nat → List Nat) (At : Nat → List UInt8) (L : Nat → Bool) : Nat → Bool → TS → Nat → TS
  | 0, _, t, _ => t
  | f + 1, false, t, a =>
    if t.long then t
    else if 0 ≤ t.lab.getD a (-1) then t.add (35 :: (Lib.itoa (t.lab.getD a (-1)) ++ [35]))
    else
      if K a = 1 then WF K S At L f true (WF K S At L f false (((if L a then t.put a else t)).add [40]) ((S a).getD 0 0)) ((S a).getD 1 0)
      else if K a = 2 then (vecTo (WF K S At L f false) (S a) (S a).length ((if L a then t.put a else t).add [35, 40])).add [41]
      else (if L a then t.put a else t).add (At a)
  | f + 1, true, t, r =>
    if K r = 1 ∧ L r = false then WF K S At L f true (WF K S At L f false (t.add [32]) ((S r).getD 0 0)) ((S r).getD 1 0)
    else if K r = 0 then t.add [41]
    else (WF K S At L f false (t.add [32, 46, 32]) r).add [41]

/-- a state of n nodes: labels where there may be some; the text within its bound -/
structure TS.Ok (n : Nat) (L : Nat → Bool) (t : TS) : Prop where
  ll : t.lab.length = n
  lo : t.long = false → t.out.length ≤ 400
  ln : ∀ i, -1 ≤ t.lab.getD i (-1) ∧ t.lab.getD i (-1) < t.next
  lL : ∀ i, 0 ≤ t.lab.getD i (-1) → L i = true
  nx : t.long = false → t.next ≤ t.out.length
  n2 : t.next ≤ 401

theorem add_long {t : TS} (h : t.long = true) (p : List UInt8) : t.add p = t := by unfold TS.add; rw [if_pos h]
theorem add_over {t : TS} (h : t.long = false) {p : List UInt8} (hp : 400 < t.out.length + p.length) : t.add p = { t with long := true } := by unfold TS.add; rw [if_neg (by simp [h]), if_pos hp]
theorem add_fits {t : TS} (h : t.long = false) {p : List UInt8} (hp : t.out.length + p.length ≤ 400) : t.add p = { t with out := t.out ++ p } := by unfold TS.add; rw [if_neg (by simp [h]), if_neg (by omega)]
theorem add_lab (t : TS) (p : List UInt8) : (t.add p).lab = t.lab := by
  unfold TS.add; repeat' split
  all_goals rfl
theorem add_next (t : TS) (p : List UInt8) : (t.add p).next = t.next := by
  unfold TS.add; repeat' split
  all_goals rfl
theorem TS.Ok.add {n : Nat} {L : Nat → Bool} {t : TS} (h : t.Ok n L) (p : List UInt8) : (t.add p).Ok n L := by
  refine ⟨by rw [add_lab]; exact h.ll, fun hl => ?_, by rw [add_lab, add_next]; exact h.ln, by rw [add_lab]; exact h.lL, fun hl => ?_, by rw [add_next]; exact h.n2⟩
  all_goals
    by_cases h1 : t.long = true
    · rw [add_long h1, h1] at hl; exact absurd hl (by simp)
    · have h1' : t.long = false := by simpa using h1
      by_cases h2 : 400 < t.out.length + p.length
      · rw [add_over h1' h2] at hl; exact absurd hl (by simp)
      · rw [add_fits h1' (by omega)]
        have e1 := h.lo h1'
        have e2 := h.nx h1'
        simp only [List.length_append]; omega
theorem TS.Ok.put {n : Nat} {L : Nat → Bool} {t : TS} (h : t.Ok n L) {a : Nat} (ha : a < n) (hL : L a = true) (hlong : t.long = false) : (t.put a).Ok n L := by
  have h1 := h.add (35 :: (Lib.itoa t.next ++ [61]))
  have e1 := h.lo hlong
  have e2 := h.nx hlong
  refine ⟨by simp [TS.put, h.ll], h1.lo, fun i => ?_, fun i hi => ?_, fun hl => ?_, by show t.next + 1 ≤ 401; omega⟩
  · show -1 ≤ (t.lab.set a t.next).getD i (-1) ∧ (t.lab.set a t.next).getD i (-1) < ((t.next + 1 : Nat) : Int)
    rw [getD_set _ _ _ _ _ (by rw [h.ll]; exact ha)]
    have := h.ln i
    split <;> omega
  · change 0 ≤ (t.lab.set a t.next).getD i (-1) at hi
    rw [getD_set _ _ _ _ _ (by rw [h.ll]; exact ha)] at hi
    split at hi
    · rename_i e; rw [e]; exact hL
    · exact h.lL i hi
  · change (t.add (35 :: (Lib.itoa t.next ++ [61]))).long = false at hl
    show t.next + 1 ≤ (t.add (35 :: (Lib.itoa t.next ++ [61]))).out.length
    by_cases h2 : 400 < t.out.length + (35 :: (Lib.itoa t.next ++ [61])).length
    · rw [add_over hlong h2] at hl; exact absurd hl (by simp)
    · rw [add_fits hlong (by omega)]; simp; omega

theorem vec_ok {n : Nat} {L : Nat → Bool} {node : TS → Nat → TS} (hn : ∀ t y, t.Ok n L → y < n → (node t y).Ok n L) (l : List Nat) (hl : ∀ y ∈ l, y < n) : ∀ (k : Nat) (t : TS), k ≤ l.length → t.Ok n L → (vecTo node l k t).Ok n L
  | 0, t, _, h => h
  | k + 1, t, hk, h => by
    simp only [vecTo]
    have hy : l.getD k 0 < n := hl _ (by simp [List.getD, List.getElem?_eq_getElem (show k < l.length by omega)])
    have ih := vec_ok hn l hl k t (by omega) h
    split
    · exact hn _ _ ih hy
    · exact hn _ _ (ih.add _) hy

theorem WF_ok {n : Nat} {K : Nat → Int} {S : Nat → List Nat} {At : Nat → List UInt8} {L : Nat → Bool} (hS : ∀ x, x < n → ∀ y ∈ S x, y < n) (h2 : ∀ x, x < n → K x = 1 → (S x).length = 2) :
    ∀ (f : Nat) (b : Bool) (t : TS) (a : Nat), t.Ok n L → a < n → (WF K S At L f b t a).Ok n L
  | 0, _, _, _, h, _ => h
  | f + 1, false, t, a, h, ha => by
    simp only [WF]
    by_cases hlong : t.long = true
    · rw [if_pos hlong]; exact h
    · rw [if_neg hlong]
      by_cases hl : 0 ≤ t.lab.getD a (-1)
      · rw [if_pos hl]; exact h.add _
      · rw [if_neg hl]
        have h1 : (if L a then t.put a else t).Ok n L := by
          split
          · rename_i e; exact h.put ha e (by simpa using hlong)
          · exact h
        by_cases k1 : K a = 1
        · rw [if_pos k1]
          have hlen := h2 a ha k1
          exact WF_ok hS h2 f true _ _ (WF_ok hS h2 f false _ _ (h1.add _) (hS a ha _ (by simp [List.getD, List.getElem?_eq_getElem (show 0 < (S a).length by omega)]))) (hS a ha _ (by simp [List.getD, List.getElem?_eq_getElem (show 1 < (S a).length by omega)]))
        · rw [if_neg k1]
          by_cases k2 : K a = 2
          · rw [if_pos k2]
            exact (vec_ok (fun t y ht hy => WF_ok hS h2 f false t y ht hy) (S a) (hS a ha) _ _ (Nat.le_refl _) (h1.add _)).add _
          · rw [if_neg k2]; exact h1.add _
  | f + 1, true, t, a, h, ha => by
    simp only [WF]
    by_cases c1 : K a = 1 ∧ L a = false
    · rw [if_pos c1]
      have hlen := h2 a ha c1.1
      exact WF_ok hS h2 f true _ _ (WF_ok hS h2 f false _ _ (h.add _) (hS a ha _ (by simp [List.getD, List.getElem?_eq_getElem (show 0 < (S a).length by omega)]))) (hS a ha _ (by simp [List.getD, List.getElem?_eq_getElem (show 1 < (S a).length by omega)]))
    · rw [if_neg c1]
      by_cases c2 : K a = 0
      · rw [if_pos c2]; exact h.add _
      · rw [if_neg c2]; exact (WF_ok hS h2 f false _ _ (h.add _) ha).add _
end Go.Loop

/- PLAIN MATHEMATICS: a graph, written: when it is too long nothing more is written; how many steps are enough. -/
namespace Go.Loop

theorem vec_long {node : TS → Nat → TS} (hn : ∀ t y, t.long = true → node t y = t) (l : List Nat) : ∀ (k : Nat) (t : TS), t.long = true → vecTo node l k t = t
  | 0, _, _ => rfl
  | k + 1, t, h => by
    simp only [vecTo]
    rw [vec_long hn l k t h, add_long h, ite_self, hn t _ h]

theorem WF_long {K : Nat → Int} {S : Nat → List Nat} {At : Nat → List UInt8} {L : Nat → Bool} : ∀ (f : Nat) (b : Bool) (t : TS) (a : Nat), t.long = true → WF K S At L f b t a = t
  | 0, _, _, _, _ => rfl
  | f + 1, false, t, a, h => by simp only [WF]; rw [if_pos h]
  | f + 1, true, t, a, h => by
    simp only [WF]
    rw [add_long h, add_long h, add_long h, WF_long f false t _ h, WF_long f false t _ h, WF_long f true t _ h, add_long h, ite_self, ite_self]

/-- how many steps are enough -/
def need (t : TS) : Nat := if t.long then 1 else 2 + (401 - t.out.length)

theorem need_add (t : TS) (p : List UInt8) : need (t.add p) ≤ need t := by
  by_cases h : t.long = true
  · rw [add_long h]; exact Nat.le_refl _
  · have h' : t.long = false := by simpa using h
    by_cases h2 : 400 < t.out.length + p.length
    · rw [add_over h' h2]; unfold need; rw [if_pos rfl, if_neg h]; omega
    · rw [add_fits h' (by omega)]; unfold need; rw [if_neg (by simpa using h'), if_neg h]; simp; omega
theorem need_lt {t : TS} (h : t.long = false) (ho : t.out.length ≤ 400) {p : List UInt8} (hp : 1 ≤ p.length) : need (t.add p) < need t := by
  by_cases h2 : 400 < t.out.length + p.length
  · rw [add_over h h2]; unfold need; rw [if_pos rfl, if_neg (by simp [h])]; omega
  · rw [add_fits h (by omega)]; unfold need; rw [if_neg (by simp [h]), if_neg (by simp [h])]; simp; omega
theorem need_put (t : TS) (a : Nat) : need (t.put a) ≤ need t := need_add t _
theorem need_pos (t : TS) : 1 ≤ need t := by unfold need; split <;> omega

theorem need_vec {node : TS → Nat → TS} (hn : ∀ t y, need (node t y) ≤ need t) (l : List Nat) : ∀ (k : Nat) (t : TS), need (vecTo node l k t) ≤ need t
  | 0, _ => Nat.le_refl _
  | k + 1, t => by
    simp only [vecTo]
    have ih := need_vec hn l k t
    split
    · exact Nat.le_trans (hn _ _) ih
    · exact Nat.le_trans (hn _ _) (Nat.le_trans (need_add _ _) ih)

theorem need_WF {K : Nat → Int} {S : Nat → List Nat} {At : Nat → List UInt8} {L : Nat → Bool} : ∀ (f : Nat) (b : Bool) (t : TS) (a : Nat), need (WF K S At L f b t a) ≤ need t
  | 0, _, _, _ => Nat.le_refl _
  | f + 1, false, t, a => by
    simp only [WF]
    by_cases h1 : t.long = true
    · rw [if_pos h1]; exact Nat.le_refl _
    · rw [if_neg h1]
      by_cases h2 : 0 ≤ t.lab.getD a (-1)
      · rw [if_pos h2]; exact need_add _ _
      · rw [if_neg h2]
        have h0 : need (if L a then t.put a else t) ≤ need t := by
          split
          · exact need_put _ _
          · exact Nat.le_refl _
        by_cases k1 : K a = 1
        · rw [if_pos k1]
          exact Nat.le_trans (need_WF f true _ _) (Nat.le_trans (need_WF f false _ _) (Nat.le_trans (need_add _ _) h0))
        · rw [if_neg k1]
          by_cases k2 : K a = 2
          · rw [if_pos k2]
            exact Nat.le_trans (need_add _ _) (Nat.le_trans (need_vec (fun t y => need_WF f false t y) _ _ _) (Nat.le_trans (need_add _ _) h0))
          · rw [if_neg k2]; exact Nat.le_trans (need_add _ _) h0
  | f + 1, true, t, a => by
    simp only [WF]
    by_cases c1 : K a = 1 ∧ L a = false
    · rw [if_pos c1]
      exact Nat.le_trans (need_WF f true _ _) (Nat.le_trans (need_WF f false _ _) (need_add _ _))
    · rw [if_neg c1]
      by_cases c2 : K a = 0
      · rw [if_pos c2]; exact need_add _ _
      · rw [if_neg c2]; exact Nat.le_trans (need_add _ _) (Nat.le_trans (need_WF f false _ _) (need_add _ _))
end Go.Loop
