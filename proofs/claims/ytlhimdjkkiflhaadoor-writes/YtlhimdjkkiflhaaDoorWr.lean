/-
  PLAIN MATHEMATICS: a graph, written. No dump, no walk.
-/
import Derived.Lib.ItoaMem
import Derived.Test.YtlhimdjkkiflhaaDoorDfs
namespace Go.Loop

/-- labels that were written (below 0: none yet), the next one, the text, whether it is too long -/
structure TS where
  lab : List Int
  next : Nat
  out : List UInt8
  long : Bool

def TS.add (t : TS) (p : List UInt8) : TS := if t.long then t else if 400 < t.out.length + p.length then { t with long := true } else { t with out := t.out ++ p }
def TS.put (t : TS) (a : Nat) : TS := { t.add (35 :: (Lib.itoa t.next ++ [61])) with lab := t.lab.set a t.next, next := t.next + 1 }

/-- so many things of a list, with a blank between -/
def vecTo (node : TS → Nat → TS) (l : List Nat) : Nat → TS → TS
  | 0, t => t
  | k + 1, t => node (if k = 0 then vecTo node l k t else (vecTo node l k t).add [32]) (l.getD k 0)

/-- a node (false), or the rest of a pair (true) -/
def WF (K : Nat → Int) (S : Nat → List Nat) (At : Nat → List UInt8) (L : Nat → Bool) : Nat → Bool → TS → Nat → TS
  | 0, _, t, _ => t
  | f + 1, false, t, a =>
    if t.long then t
    else if 0 ≤ t.lab.getD a (-1) then t.add (35 :: (Lib.itoa (t.lab.getD a (-1)) ++ [35]))
    else
      if K a = 1 then WF K S At L f true (WF K S At L f false (((if L a then t.put a else t)).add [40]) ((S a).getD 0 0)) ((S a).getD 1 0)
      else if K a = 2 then (vecTo (WF K S At L f false) (S a) (S a).length ((if L a then t.put a else t).add [35, 40])).add [41]
      else (if L a then t.put a else t).add (At a)
  | f + 1, true, t, r =>
    if K r = 1 ∧ L r = false then WF K S At L f true (WF K S At L f false (t.add [32]) ((S r).getD 0 0)) ((S r).getD 1 0)
    else if K r = 0 then t.add [41]
    else (WF K S At L f false (t.add [32, 46, 32]) r).add [41]

/-- a state of n nodes: labels where there may be some; the text within its bound -/
structure TS.Ok (n : Nat) (L : Nat → Bool) (t : TS) : Prop where
  ll : t.lab.length = n
  lo : t.long = false → t.out.length ≤ 400
  ln : ∀ i, -1 ≤ t.lab.getD i (-1) ∧ t.lab.getD i (-1) < t.next
  lL : ∀ i, 0 ≤ t.lab.getD i (-1) → L i = true
  nx : t.long = false → t.next ≤ t.out.length
  n2 : t.next ≤ 401

theorem add_long {t : TS} (h : t.long = true) (p : List UInt8) : t.add p = t := by unfold TS.add; rw [if_pos h]
theorem add_over {t : TS} (h : t.long = false) {p : List UInt8} (hp : 400 < t.out.length + p.length) : t.add p = { t with long := true } := by unfold TS.add; rw [if_neg (by simp [h]), if_pos hp]
theorem add_fits {t : TS} (h : t.long = false) {p : List UInt8} (hp : t.out.length + p.length ≤ 400) : t.add p = { t with out := t.out ++ p } := by unfold TS.add; rw [if_neg (by simp [h]), if_neg (by omega)]
theorem add_lab (t : TS) (p : List UInt8) : (t.add p).lab = t.lab := by
  unfold TS.add; repeat' split
  all_goals rfl
theorem add_next (t : TS) (p : List UInt8) : (t.add p).next = t.next := by
  unfold TS.add; repeat' split
  all_goals rfl
theorem TS.Ok.add {n : Nat} {L : Nat → Bool} {t : TS} (h : t.Ok n L) (p : List UInt8) : (t.add p).Ok n L := by
  refine ⟨by rw [add_lab]; exact h.ll, fun hl => ?_, by rw [add_lab, add_next]; exact h.ln, by rw [add_lab]; exact h.lL, fun hl => ?_, by rw [add_next]; exact h.n2⟩
  all_goals
    by_cases h1 : t.long = true
    · rw [add_long h1, h1] at hl; exact absurd hl (by simp)
    · have h1' : t.long = false := by simpa using h1
      by_cases h2 : 400 < t.out.length + p.length
      · rw [add_over h1' h2] at hl; exact absurd hl (by simp)
      · rw [add_fits h1' (by omega)]
        have e1 := h.lo h1'
        have e2 := h.nx h1'
        simp only [List.length_append]; omega
theorem TS.Ok.put {n : Nat} {L : Nat → Bool} {t : TS} (h : t.Ok n L) {a : Nat} (ha : a < n) (hL : L a = true) (hlong : t.long = false) : (t.put a).Ok n L := by
  have h1 := h.add (35 :: (Lib.itoa t.next ++ [61]))
  have e1 := h.lo hlong
  have e2 := h.nx hlong
  refine ⟨by simp [TS.put, h.ll], h1.lo, fun i => ?_, fun i hi => ?_, fun hl => ?_, by show t.next + 1 ≤ 401; omega⟩
  · show -1 ≤ (t.lab.set a t.next).getD i (-1) ∧ (t.lab.set a t.next).getD i (-1) < ((t.next + 1 : Nat) : Int)
    rw [getD_set _ _ _ _ _ (by rw [h.ll]; exact ha)]
    have := h.ln i
    split <;> omega
  · change 0 ≤ (t.lab.set a t.next).getD i (-1) at hi
    rw [getD_set _ _ _ _ _ (by rw [h.ll]; exact ha)] at hi
    split at hi
    · rename_i e; rw [e]; exact hL
    · exact h.lL i hi
  · change (t.add (35 :: (Lib.itoa t.next ++ [61]))).long = false at hl
    show t.next + 1 ≤ (t.add (35 :: (Lib.itoa t.next ++ [61]))).out.length
    by_cases h2 : 400 < t.out.length + (35 :: (Lib.itoa t.next ++ [61])).length
    · rw [add_over hlong h2] at hl; exact absurd hl (by simp)
    · rw [add_fits hlong (by omega)]; simp; omega

theorem vec_ok {n : Nat} {L : Nat → Bool} {node : TS → Nat → TS} (hn : ∀ t y, t.Ok n L → y < n → (node t y).Ok n L) (l : List Nat) (hl : ∀ y ∈ l, y < n) : ∀ (k : Nat) (t : TS), k ≤ l.length → t.Ok n L → (vecTo node l k t).Ok n L
  | 0, t, _, h => h
  | k + 1, t, hk, h => by
    simp only [vecTo]
    have hy : l.getD k 0 < n := hl _ (by simp [List.getD, List.getElem?_eq_getElem (show k < l.length by omega)])
    have ih := vec_ok hn l hl k t (by omega) h
    split
    · exact hn _ _ ih hy
    · exact hn _ _ (ih.add _) hy

theorem WF_ok {n : Nat} {K : Nat → Int} {S : Nat → List Nat} {At : Nat → List UInt8} {L : Nat → Bool} (hS : ∀ x, x < n → ∀ y ∈ S x, y < n) (h2 : ∀ x, x < n → K x = 1 → (S x).length = 2) :
    ∀ (f : Nat) (b : Bool) (t : TS) (a : Nat), t.Ok n L → a < n → (WF K S At L f b t a).Ok n L
  | 0, _, _, _, h, _ => h
  | f + 1, false, t, a, h, ha => by
    simp only [WF]
    by_cases hlong : t.long = true
    · rw [if_pos hlong]; exact h
    · rw [if_neg hlong]
      by_cases hl : 0 ≤ t.lab.getD a (-1)
      · rw [if_pos hl]; exact h.add _
      · rw [if_neg hl]
        have h1 : (if L a then t.put a else t).Ok n L := by
          split
          · rename_i e; exact h.put ha e (by simpa using hlong)
          · exact h
        by_cases k1 : K a = 1
        · rw [if_pos k1]
          have hlen := h2 a ha k1
          exact WF_ok hS h2 f true _ _ (WF_ok hS h2 f false _ _ (h1.add _) (hS a ha _ (by simp [List.getD, List.getElem?_eq_getElem (show 0 < (S a).length by omega)]))) (hS a ha _ (by simp [List.getD, List.getElem?_eq_getElem (show 1 < (S a).length by omega)]))
        · rw [if_neg k1]
          by_cases k2 : K a = 2
          · rw [if_pos k2]
            exact (vec_ok (fun t y ht hy => WF_ok hS h2 f false t y ht hy) (S a) (hS a ha) _ _ (Nat.le_refl _) (h1.add _)).add _
          · rw [if_neg k2]; exact h1.add _
  | f + 1, true, t, a, h, ha => by
    simp only [WF]
    by_cases c1 : K a = 1 ∧ L a = false
    · rw [if_pos c1]
      have hlen := h2 a ha c1.1
      exact WF_ok hS h2 f true _ _ (WF_ok hS h2 f false _ _ (h.add _) (hS a ha _ (by simp [List.getD, List.getElem?_eq_getElem (show 0 < (S a).length by omega)]))) (hS a ha _ (by simp [List.getD, List.getElem?_eq_getElem (show 1 < (S a).length by omega)]))
    · rw [if_neg c1]
      by_cases c2 : K a = 0
      · rw [if_pos c2]; exact h.add _
      · rw [if_neg c2]; exact (WF_ok hS h2 f false _ _ (h.add _) ha).add _
end Go.Loop
