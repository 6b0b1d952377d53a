/- The document's Write, whole. -/
import Derived.Test.YtlhimdjkkiflhaaDoorRefRest
import Derived.Test.YtlhimdjkkiflhaaDoorRefGraph
import Derived.Test.YtlhimdjkkiflhaaDoorThroughC
namespace Go.Proofs.YtlhimdjkkiflhaaDoor
open Go.RowKit Go.Loop

/-- which nodes have a label in a mode -/
def labB (G : List Nd) (mode : Int) (i : Nat) : Bool :=
  if mode = 1 then (walkS (subsN G) G.length).wi.getD i false
  else if mode = 2 then decide (1 < (walkS (subsN G) G.length).met.getD i 0) && decide (1 ≤ kindN G i ∧ kindN G i ≤ 3) else false
/-- is something met again from within? -/
def cycB (G : List Nd) : Bool := (List.range G.length).any fun i => (walkS (subsN G) G.length).wi.getD i false
def startT (n : Nat) : TS := ⟨List.replicate n (-1), 0, [], false⟩
def writeT (G : List Nd) (mode : Int) (F : Nat) : TS := WF (kindN G) (subsN G) (atN G) (labB G mode) F false (startT G.length) 0
/-- what Write gives, in so many steps: a text, an error -/
def writeP (G : List Nd) (mode : Int) (F : Nat) : List UInt8 × Int :=
  if mode < 0 ∨ 2 < mode then ([], 1) else if rightB G = false then ([], 8) else if mode = 0 ∧ cycB G = true then ([], 9) else if (writeT G mode F).long = true then ([], 2) else ((writeT G mode F).out, 0)

def labTo (G : List Nd) (mode : Int) : Nat → List Int
  | 0 => List.replicate G.length 0
  | k + 1 => if labB G mode k then (labTo G mode k).set k (-1) else labTo G mode k
theorem labTo_len (G : List Nd) (mode : Int) : ∀ k, (labTo G mode k).length = G.length
  | 0 => by simp [labTo]
  | k + 1 => by simp only [labTo]; split <;> simp [labTo_len G mode k]
theorem labTo_get (G : List Nd) (mode : Int) : ∀ k, k ≤ G.length → ∀ i, (labTo G mode k).getD i 0 = if i < k ∧ labB G mode i = true then -1 else 0
  | 0, _, i => by simp only [labTo]; rw [getD_rep, if_neg (by omega)]
  | k + 1, hk, i => by
    simp only [labTo]
    have ih := labTo_get G mode k (by omega) i
    by_cases hl : labB G mode k = true
    · rw [if_pos hl, getD_set _ _ _ _ _ (by rw [labTo_len]; omega)]
      by_cases e : i = k
      · subst e; rw [if_pos rfl, if_pos ⟨by omega, hl⟩]
      · rw [if_neg e, ih]
        by_cases h1 : i < k ∧ labB G mode i = true
        · rw [if_pos h1, if_pos ⟨by omega, h1.2⟩]
        · rw [if_neg h1, if_neg (fun h => h1 ⟨by omega, h.2⟩)]
    · rw [if_neg hl, ih]
      by_cases h1 : i < k ∧ labB G mode i = true
      · rw [if_pos h1, if_pos ⟨by omega, h1.2⟩]
      · rw [if_neg h1, if_neg (fun h => h1 ⟨by
          rcases Nat.lt_or_ge i k with h2 | h2
          · exact h2
          · have : i = k := by omega
            subst this; exact absurd h.2 hl, h.2⟩)]
theorem startT_ok (n : Nat) (L : Nat → Bool) : (startT n).Ok n L :=
  ⟨by simp [startT], fun _ => by simp [startT], fun i => by show -1 ≤ (List.replicate n (-1 : Int)).getD i (-1) ∧ (List.replicate n (-1 : Int)).getD i (-1) < _; rw [getD_rep]; simp [startT], fun i hi => by
    change 0 ≤ (List.replicate n (-1 : Int)).getD i (-1) at hi; rw [getD_rep] at hi; omega, fun _ => by simp [startT], by simp [startT]⟩

theorem RWalkAt.setLab {w : World} {p bo bm bw bl n : Nat} {nv v5 v6 : Value} {lab : List Int} {s : WS} {B : Nat} (h : RWalkAt w p bo bm bw bl n nv v5 v6 lab s) (A : Apart5 B p bo bm bw bl) {a : Nat} (ha : a < lab.length) (v : Int) :
    RWalkAt (w.setCell ⟨bl, a, none⟩ (.int .i64 v)) p bo bm bw bl n nv v5 v6 (lab.set a v) s := by
  have e := A.pl.symm
  exact ⟨by rw [cell_far e]; exact h.c0, by rw [cell_far e]; exact h.c1, by rw [cell_far e]; exact h.c2, by rw [cell_far e]; exact h.c3, by rw [cell_far e]; exact h.c4, by rw [cell_far e]; exact h.c5, by rw [cell_far e]; exact h.c6,
    h.rm.far A.ml.symm _, h.rw.far A.wl.symm _, h.ro.far A.ol.symm _, h.rl.set a ha _, by rw [World.frozen?_setCell]; exact h.f5, by rw [World.frozen?_setCell]; exact h.f6⟩

theorem refW_start {w : World} {p bo bm bw bl : Nat} {nv : Value} {G : List Nd} {mode : Int} {s : WS} (h : RWalkAt w p bo bm bw bl G.length nv (.int .i64 0) (.string ⟨#[]⟩) (labTo G mode G.length) s) :
    RefW w p bl G.length nv (labB G mode) (startT G.length) := by
  refine ⟨h.c0, h.c4, h.c5, ⟨[], h.c6, fun hl => by simp [startT] at hl, fun _ => rfl⟩, h.f5, h.f6, ⟨labTo G mode G.length, labTo_len _ _ _, h.rl, fun i hi => ?_⟩⟩
  rw [labTo_get G mode _ (Nat.le_refl _) i]
  unfold labR
  have e : (startT G.length).lab.getD i (-1) = -1 := by show (List.replicate G.length (-1 : Int)).getD i (-1) = -1; exact getD_rep _ _ _
  rw [e, if_neg (show ¬ (0 : Int) ≤ -1 by omega)]
  by_cases hl : labB G mode i = true
  · rw [if_pos ⟨hi, hl⟩, if_pos hl]
  · rw [if_neg (fun x => hl x.2), if_neg hl]

theorem right_parts (G : List Nd) (h : rightB G = true) : 1 ≤ G.length ∧ G.length ≤ 150 ∧ (∀ x (hx : x < G.length), kindB G[x] = true) ∧ (∀ x (hx : x < G.length), subsB G[x].subs G.length = true) ∧ (∀ x, (subsN G x).length ≤ 20) := by
  unfold rightB at h
  simp only [Bool.and_eq_true, decide_eq_true_eq] at h
  obtain ⟨⟨h1, h2⟩, h3⟩ := h
  have hk : ∀ x (hx : x < G.length), kindB G[x] = true ∧ subsB G[x].subs G.length = true := fun x hx => by
    have := List.all_eq_true.1 h3 G[x] (List.getElem_mem hx)
    simpa using this
  refine ⟨h1, h2, fun x hx => (hk x hx).1, fun x hx => (hk x hx).2, fun x => ?_⟩
  by_cases hx : x < G.length
  · rw [subsN_at G x hx, List.length_map]
    have hb := (hk x hx).1
    unfold kindB at hb
    by_cases k0 : G[x].kind = 0
    · rw [if_pos k0] at hb; simp at hb; rw [hb.2.2.2]; simp
    rw [if_neg k0] at hb
    by_cases k1 : G[x].kind = 1
    · rw [if_pos k1] at hb; simp at hb; omega
    rw [if_neg k1] at hb
    by_cases k2 : G[x].kind = 2
    · rw [if_pos k2] at hb; simp at hb; omega
    rw [if_neg k2] at hb
    by_cases k3 : G[x].kind = 3
    · rw [if_pos k3] at hb; simp at hb; rw [hb.2.2.2]; simp
    rw [if_neg k3] at hb
    by_cases k4 : G[x].kind = 4
    · rw [if_pos k4] at hb; simp at hb; rw [hb.1.2.2]; simp
    rw [if_neg k4] at hb
    by_cases k5 : G[x].kind = 5
    · rw [if_pos k5] at hb; simp at hb; rw [hb.2.2]; simp
    rw [if_neg k5] at hb
    by_cases k6 : G[x].kind = 6
    · rw [if_pos k6] at hb; simp at hb; rw [hb.2.2.2]; simp
    rw [if_neg k6] at hb
    by_cases k7 : G[x].kind = 7
    · rw [if_pos k7] at hb; simp at hb; rw [hb.2.2.2]; simp
    rw [if_neg k7] at hb; exact absurd hb (by simp)
  · unfold subsN; rw [List.getElem?_eq_none (by omega)]; simp
end Go.Proofs.YtlhimdjkkiflhaaDoor
