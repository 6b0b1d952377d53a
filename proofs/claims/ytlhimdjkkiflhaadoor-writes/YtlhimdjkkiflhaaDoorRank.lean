/- Why the program's writer ends, and why what it writes is not empty. -/
import Derived.Test.YtlhimdjkkiflhaaDoorRefTopA
namespace Go.Loop

/-- what was met from within was met twice -/
def WS.Tw (s : WS) : Prop := ∀ x, s.wi.getD x false = true → 1 < s.met.getD x 0

theorem Tw.meet {n : Nat} {S : Nat → List Nat} (hS : ∀ x, x < n → ∀ y ∈ S x, y < n) : ∀ (f : Nat) (s : WS) (a : Nat), s.Ok n → a < n → s.Tw → (meetF S f s a).Tw
  | 0, s, a, h, ha, ht => ht
  | f + 1, s, a, h, ha, ht => by
    have hh : ∀ x, 1 < s.met.getD x 0 → 1 < (s.hit a).met.getD x 0 := fun x hx => by
      rw [hit_met h ha]; split <;> (try subst_vars) <;> omega
    simp only [meetF]
    split
    · rename_i hm
      intro x hx
      change (s.wi.set a (s.wi.getD a false || s.op.getD a false)).getD x false = true at hx
      show 1 < (s.hit a).met.getD x 0
      rw [getD_set _ _ _ _ _ (by rw [h.lw]; exact ha)] at hx
      split at hx
      · rename_i e; subst e; rw [hit_met h ha, if_pos rfl]; omega
      · exact hh x (ht x hx)
    · have h2 : ((s.hit a).enter a).Ok n := (h.hit ha).enter ha (hit_pos h ha)
      have t2 : ((s.hit a).enter a).Tw := fun x hx => hh x (ht x hx)
      have : ∀ (l : List Nat) (t : WS), (∀ y ∈ l, y < n) → t.Ok n → t.Tw → (l.foldl (meetF S f) t).Tw := by
        intro l
        induction l with
        | nil => intro t _ _ ht; exact ht
        | cons y r ih => intro t hl ht hw; exact ih _ (fun z hz => hl z (List.mem_cons_of_mem _ hz)) (Ok.meet hS f t y ht (hl y List.mem_cons_self)) (Tw.meet hS f t y ht (hl y List.mem_cons_self) hw)
      exact this _ _ (hS a ha) h2 t2

theorem walk_tw {n : Nat} {S : Nat → List Nat} (hn : 0 < n) (hS : ∀ x, x < n → ∀ y ∈ S x, y < n) : (walkS S n).Tw :=
  Tw.meet hS _ _ _ (start_ok n) hn (fun x hx => by change (List.replicate n false).getD x false = true at hx; rw [getD_rep] at hx; exact absurd hx (by simp))

/-- less is needed behind the first piece -/
theorem need_add_lt {t : TS} (hn : need t ≤ 403) (ho : t.long = false → t.out.length ≤ 400) {p : List UInt8} (hp : 1 ≤ p.length) : need (t.add p) < 403 := by
  cases h : t.long
  · exact Nat.lt_of_lt_of_le (need_lt h (ho h) hp) hn
  · rw [add_long h]; unfold need; rw [if_pos h]; omega
end Go.Loop

namespace Go.Proofs.YtlhimdjkkiflhaaDoor
open Go.RowKit Go.Loop

theorem itoa_ne (n : Int) : 1 ≤ (Lib.itoa n).length := by
  have hd : ∀ u : Nat, 1 ≤ (Lib.decDigits u).length := fun u => by
    rw [Lib.decDigits_length]; rw [Lib.nDigits]; split <;> omega
  unfold Lib.itoa
  split
  · simp
  · exact hd _
theorem atom_ne (x : Nd) (hb : kindB x = true) (h1 : x.kind ≠ 1) (h2 : x.kind ≠ 2) : 1 ≤ (atomL x).length := by
  unfold kindB at hb
  unfold atomL
  by_cases k0 : x.kind = 0
  · rw [if_pos k0]; simp
  rw [if_neg k0] at hb ⊢
  rw [if_neg h1, if_neg h2] at hb
  by_cases k3 : x.kind = 3
  · rw [if_pos k3]; unfold quoteL; simp
  rw [if_neg k3] at hb ⊢
  by_cases k4 : x.kind = 4
  · rw [if_pos k4] at hb ⊢
    simp only [Bool.and_eq_true] at hb
    have := hb.2
    unfold isSym at this
    cases hx : x.text
    · rw [hx] at this; simp at this
    · simp
  rw [if_neg k4] at hb ⊢
  by_cases k5 : x.kind = 5
  · rw [if_pos k5]; unfold numL
    have := itoa_ne x.n
    split
    · exact this
    · simp only [List.length_append, List.length_cons]; omega
  rw [if_neg k5] at hb ⊢
  by_cases k6 : x.kind = 6
  · rw [if_pos k6]; split <;> simp
  rw [if_neg k6]; unfold charL; simp

theorem out_some (G : List Nd) (hr : rightB G = true) (L : Nat → Bool) (F : Nat) (hF : 1 ≤ F) :
    (WF (kindN G) (subsN G) (atN G) L F false (startT G.length) 0).long = false → (WF (kindN G) (subsN G) (atN G) L F false (startT G.length) 0).out ≠ [] := by
  obtain ⟨h1, h150, hk, hs, h20⟩ := right_parts G hr
  intro hl ho
  have key : need (WF (kindN G) (subsN G) (atN G) L F false (startT G.length) 0) < 403 := by
    obtain ⟨f, rfl⟩ : ∃ f, F = f + 1 := ⟨F - 1, by omega⟩
    have e0 : (startT G.length).lab.getD 0 (-1) = -1 := by show (List.replicate G.length (-1 : Int)).getD 0 (-1) = -1; exact getD_rep _ _ _
    have hok := startT_ok G.length L
    have n0 : need (startT G.length) ≤ 403 := by unfold need startT; simp
    have h2 : (if L 0 then (startT G.length).put 0 else startT G.length).Ok G.length L := by
      split
      · rename_i e; exact hok.put (by omega) e rfl
      · exact hok
    have n2 : need (if L 0 then (startT G.length).put 0 else startT G.length) ≤ 403 := by
      split
      · exact Nat.le_trans (need_put _ _) n0
      · exact n0
    generalize hu : (if L 0 then (startT G.length).put 0 else startT G.length) = u at h2 n2
    simp only [WF]
    rw [if_neg (by simp [startT]), e0, if_neg (by omega), hu]
    have hadd : ∀ p : List UInt8, 1 ≤ p.length → need (u.add p) < 403 := fun p hp => need_add_lt n2 h2.lo hp
    by_cases k1 : kindN G 0 = 1
    · rw [if_pos k1]
      exact Nat.lt_of_le_of_lt (need_WF f true _ _) (Nat.lt_of_le_of_lt (need_WF f false _ _) (hadd _ (by simp)))
    · rw [if_neg k1]
      by_cases k2 : kindN G 0 = 2
      · rw [if_pos k2]
        exact Nat.lt_of_le_of_lt (need_add _ _) (Nat.lt_of_le_of_lt (need_vec (fun t y => need_WF f false t y) _ _ _) (hadd _ (by simp)))
      · rw [if_neg k2]
        rw [kindN_at G 0 (by omega)] at k1 k2
        exact hadd _ (by rw [atN_at G 0 (by omega)]; exact atom_ne _ (hk 0 (by omega)) k1 k2)
  unfold need at key
  rw [if_neg (by rw [hl]; simp), ho] at key
  simp at key

/-- in each mode: what is reached; a pair without a label that is held has a lower rank -/
theorem rank_some (G : List Nd) (hr : rightB G = true) (mode : Int) (hm : mode = 0 ∨ mode = 1 ∨ mode = 2) (hc : mode = 0 → cycB G = false) :
    ∃ (Rc : Nat → Prop) (rk : Nat → Nat), Rc 0 ∧ (∀ x, Rc x → ∀ y ∈ subsN G x, Rc y) ∧ (∀ x, Rc x → ∀ y ∈ subsN G x, kindN G y = 1 → labB G mode y = false → rk y < rk x) := by
  obtain ⟨h1, h150, hk, hs, h20⟩ := right_parts G hr
  have hS := subsN_lt G hs
  obtain ⟨R, r, _, h0, hcl, hrk⟩ := walk_rank (n := G.length) (S := subsN G) (by omega) hS
  refine ⟨reach (subsN G) G.length, r, h0, hcl, fun x hx y hy hk1 hl => hrk x hx y hy ?_⟩
  cases hw : (walkS (subsN G) G.length).wi.getD y false
  · rfl
  · exfalso
    unfold labB at hl
    rcases hm with rfl | rfl | rfl
    · have := hc rfl
      unfold cycB at this
      rw [List.any_eq_false] at this
      by_cases hy2 : y < G.length
      · exact this y (List.mem_range.2 hy2) hw
      · have hok : (walkS (subsN G) G.length).Ok G.length := Ok.meet hS _ _ _ (start_ok _) (by omega)
        have : (walkS (subsN G) G.length).wi.getD y false = false := by
          simp only [List.getD]; rw [List.getElem?_eq_none (by rw [hok.lw]; omega)]; rfl
        rw [this] at hw; exact absurd hw (by simp)
    · rw [if_pos rfl, hw] at hl; exact absurd hl (by simp)
    · have := walk_tw (n := G.length) (S := subsN G) (by omega) hS y hw
      rw [if_neg (by omega), if_pos rfl, decide_eq_true this, hk1] at hl
      simp at hl
end Go.Proofs.YtlhimdjkkiflhaaDoor

/- What is written does not hang on where lists lie. -/
namespace Go.Proofs.YtlhimdjkkiflhaaDoor
open Go.RowKit Go.Loop

def bareN (x : Nd) : Nd := { x with sa := none, cap := 0 }
theorem kindN_bare (G : List Nd) : kindN (G.map bareN) = kindN G := by
  funext x; unfold kindN; rw [List.getElem?_map]; cases G[x]? <;> rfl
theorem atN_bare (G : List Nd) : atN (G.map bareN) = atN G := by
  funext x; unfold atN; rw [List.getElem?_map]; cases G[x]? <;> rfl
theorem subsN_bare (G : List Nd) : subsN (G.map bareN) = subsN G := by
  funext x; unfold subsN; rw [List.getElem?_map]; cases G[x]? <;> rfl
theorem rightB_bare (G : List Nd) : rightB (G.map bareN) = rightB G := by
  unfold rightB; rw [List.length_map, List.all_map]; rfl
theorem labB_bare (G : List Nd) (mode : Int) : labB (G.map bareN) mode = labB G mode := by
  funext i; unfold labB; rw [subsN_bare, kindN_bare, List.length_map]
theorem cycB_bare (G : List Nd) : cycB (G.map bareN) = cycB G := by
  unfold cycB; rw [subsN_bare, List.length_map]
theorem writeT_bare (G : List Nd) (mode : Int) (F : Nat) : writeT (G.map bareN) mode F = writeT G mode F := by
  unfold writeT; rw [subsN_bare, kindN_bare, atN_bare, labB_bare, List.length_map]
theorem writeP_bare (G : List Nd) (mode : Int) (F : Nat) : writeP (G.map bareN) mode F = writeP G mode F := by
  unfold writeP; rw [rightB_bare, cycB_bare, writeT_bare]
theorem writeP_same (G H : List Nd) (h : G.map bareN = H.map bareN) (mode : Int) (F : Nat) : writeP G mode F = writeP H mode F := by
  rw [← writeP_bare G, ← writeP_bare H, h]
end Go.Proofs.YtlhimdjkkiflhaaDoor
