/- Nodes in memory; the program's look whether nodes are a graph. -/
import Derived.Test.YtlhimdjkkiflhaaDoorLeafD
namespace Go.Proofs.YtlhimdjkkiflhaaDoor
open Go.RowKit Go.Loop

/-- a node: what it holds, and where its list lies -/
structure Nd where
  kind : Int
  text : List UInt8
  n : Int
  d : Int
  subs : List Int
  sa : Option Addr
  cap : Nat

/-- a node as a value -/
def nodeV (x : Nd) : Value := .agg #[.int .i64 x.kind, .string ⟨⟨x.text⟩⟩, .int .i64 x.n, .int .i64 x.d, .slice x.sa x.subs.length x.cap]

/-- a list of numbers in memory -/
def IntsAt (w : World) (a : Option Addr) (l : List Int) : Prop :=
  l = [] ∨ ∃ b o, a = some ⟨b, o, none⟩ ∧ ∀ j, j < l.length → w.cell? ⟨b, o + j, none⟩ = some (.int .i64 (l.getD j 0))

/-- has a node just what its kind asks for, but for its list's numbers? -/
def kindB (x : Nd) : Bool :=
  if x.kind = 0 then decide (x.text = [] ∧ x.n = 0 ∧ x.d = 0 ∧ x.subs.length = 0)
  else if x.kind = 1 then decide (x.subs.length = 2 ∧ x.text = [] ∧ x.n = 0 ∧ x.d = 0)
  else if x.kind = 2 then decide (x.subs.length ≤ 20 ∧ x.text = [] ∧ x.n = 0 ∧ x.d = 0)
  else if x.kind = 3 then decide (x.text.length ≤ 400 ∧ x.n = 0 ∧ x.d = 0 ∧ x.subs.length = 0)
  else if x.kind = 4 then decide (x.n = 0 ∧ x.d = 0 ∧ x.subs.length = 0) && isSym x.text
  else if x.kind = 5 then numB x.n x.d && decide (x.text = [] ∧ x.subs.length = 0)
  else if x.kind = 6 then decide ((x.n = 0 ∨ x.n = 1) ∧ x.text = [] ∧ x.d = 0 ∧ x.subs.length = 0)
  else if x.kind = 7 then charB x.n && decide (x.text = [] ∧ x.d = 0 ∧ x.subs.length = 0)
  else false
def subsB (l : List Int) (all : Int) : Bool := l.all fun s => decide (0 ≤ s ∧ s < all)
def rightB (G : List Nd) : Bool := decide (1 ≤ G.length ∧ G.length ≤ 150) && G.all fun x => kindB x && subsB x.subs G.length

theorem below_box {w : World} {o : Obj} : Below w.heap.size w (w.alloc o) := (Below.refl _ _).alloc (Nat.le_refl _) _

theorem bare_t (l : List UInt8) (n d : Int) (a : Option Addr) (len cap : Nat) (w : World) (h : l = [] ∧ n = 0 ∧ d = 0 ∧ len = 0) :
    Calls Tryd.prog 33 #[.string ⟨⟨l⟩⟩, .int .i64 n, .int .i64 d, .slice a len cap] w fun e w' => e = .returned (.bool true) ∧ w' = w := by
  have := bare_any l n d a len cap w; rwa [decide_eq_true h] at this
theorem bare_f (l : List UInt8) (n d : Int) (a : Option Addr) (len cap : Nat) (w : World) (h : ¬ (l = [] ∧ n = 0 ∧ d = 0 ∧ len = 0)) :
    Calls Tryd.prog 33 #[.string ⟨⟨l⟩⟩, .int .i64 n, .int .i64 d, .slice a len cap] w fun e w' => e = .returned (.bool false) ∧ w' = w := by
  have := bare_any l n d a len cap w; rwa [decide_eq_false h] at this

set_option maxHeartbeats 1000000 in
theorem rightKind_0 (x : Nd) (w : World) (hk : x.kind = 0) :
    Calls Tryd.prog 19 #[nodeV x] w fun e w' => e = .returned (.bool (kindB x)) ∧ Below w.heap.size w w' := by
  unfold nodeV
  have hb0 : (x.kind == 0) = true := by simpa using hk
  have HK : Hid (x.kind = 0) := hk
  clear hk
  by_cases hc : x.text = [] ∧ x.n = 0 ∧ x.d = 0 ∧ x.subs.length = 0
  · have HV : Hid (kindB x = true) := by show _ = _; unfold kindB; rw [if_pos HK.out]; exact decide_eq_true hc
    have HB : Hid _ := hc
    clear hc
    go_enter Tryd.func19, Tryd.ntmps19
    go_wp2_with fail
    refine (bare_t _ _ _ _ _ _ _ (by simpa using HB.out)).mono ?_
    rintro e w' ⟨rfl, rfl⟩
    go_wp2_with fail
    go_ret
    exact ⟨ret_bool HV.out.symm, below_box⟩
  · have HV : Hid (kindB x = false) := by show _ = _; unfold kindB; rw [if_pos HK.out]; exact decide_eq_false hc
    have HB : Hid _ := hc
    clear hc
    go_enter Tryd.func19, Tryd.ntmps19
    go_wp2_with fail
    refine (bare_f _ _ _ _ _ _ _ (by simpa using HB.out)).mono ?_
    rintro e w' ⟨rfl, rfl⟩
    go_wp2_with fail
    go_ret
    exact ⟨ret_bool HV.out.symm, below_box⟩

set_option maxHeartbeats 1000000 in
theorem rightKind_1 (x : Nd) (w : World) (hk : x.kind = 1) :
    Calls Tryd.prog 19 #[nodeV x] w fun e w' => e = .returned (.bool (kindB x)) ∧ Below w.heap.size w w' := by
  unfold nodeV
  have hb1 : (x.kind == 1) = true := by simpa using hk
  have hb0 : (x.kind == 0) = false := by rw [hk]; decide
  have HK : Hid (x.kind = 1) := hk
  clear hk
  by_cases hl : x.subs.length = 2
  · by_cases hc : x.text = [] ∧ x.n = 0 ∧ x.d = 0 ∧ (0 : Nat) = 0
    · have HV : Hid (kindB x = true) := by show _ = _; unfold kindB; rw [if_neg (by rw [HK.out]; decide), if_pos HK.out]; simp only [decide_eq_true_eq]; exact ⟨hl, hc.1, hc.2.1, hc.2.2.1⟩
      have hlb : ((x.subs.length : Int) == 2) = true := by rw [hl]; rfl
      have HB : Hid _ := hc
      clear hc hl
      go_enter Tryd.func19, Tryd.ntmps19
      go_wp2_with fail
      refine (bare_t _ _ _ _ _ _ _ (by simpa using HB.out)).mono ?_
      rintro e w' ⟨rfl, rfl⟩
      go_wp2_with fail
      go_ret
      exact ⟨ret_bool HV.out.symm, below_box⟩
    · have HV : Hid (kindB x = false) := by show _ = _; unfold kindB; rw [if_neg (by rw [HK.out]; decide), if_pos HK.out]; simp only [decide_eq_false_iff_not]; intro h; exact hc ⟨h.2.1, h.2.2.1, h.2.2.2, rfl⟩
      have hlb : ((x.subs.length : Int) == 2) = true := by rw [hl]; rfl
      have HB : Hid _ := hc
      clear hc hl
      go_enter Tryd.func19, Tryd.ntmps19
      go_wp2_with fail
      refine (bare_f _ _ _ _ _ _ _ (by simpa using HB.out)).mono ?_
      rintro e w' ⟨rfl, rfl⟩
      go_wp2_with fail
      go_ret
      exact ⟨ret_bool HV.out.symm, below_box⟩
  · have HV : Hid (kindB x = false) := by show _ = _; unfold kindB; rw [if_neg (by rw [HK.out]; decide), if_pos HK.out]; simp only [decide_eq_false_iff_not]; intro h; exact hl h.1
    have hlb : ((x.subs.length : Int) == 2) = false := by rw [beq_eq_false_iff_ne]; omega
    clear hl
    go_enter Tryd.func19, Tryd.ntmps19
    go_wp2_with fail
    go_ret
    exact ⟨ret_bool HV.out.symm, below_box⟩

set_option maxHeartbeats 1000000 in
theorem rightKind_2 (x : Nd) (w : World) (hk : x.kind = 2) :
    Calls Tryd.prog 19 #[nodeV x] w fun e w' => e = .returned (.bool (kindB x)) ∧ Below w.heap.size w w' := by
  unfold nodeV
  have hb2 : (x.kind == 2) = true := by simpa using hk
  have hb0 : (x.kind == 0) = false := by rw [hk]; decide
  have hb1 : (x.kind == 1) = false := by rw [hk]; decide
  have HK : Hid (x.kind = 2) := hk
  clear hk
  by_cases hl : x.subs.length ≤ 20
  · by_cases hc : x.text = [] ∧ x.n = 0 ∧ x.d = 0 ∧ (0 : Nat) = 0
    · have HV : Hid (kindB x = true) := by show _ = _; unfold kindB; rw [if_neg (by rw [HK.out]; decide), if_neg (by rw [HK.out]; decide), if_pos HK.out]; simp only [decide_eq_true_eq]; exact ⟨hl, hc.1, hc.2.1, hc.2.2.1⟩
      have hlb : (x.subs.length : Int) ≤ 20 := by omega
      have HB : Hid _ := hc
      clear hc hl
      go_enter Tryd.func19, Tryd.ntmps19
      go_wp2_with fail
      refine (bare_t _ _ _ _ _ _ _ (by simpa using HB.out)).mono ?_
      rintro e w' ⟨rfl, rfl⟩
      go_wp2_with fail
      go_ret
      exact ⟨ret_bool HV.out.symm, below_box⟩
    · have HV : Hid (kindB x = false) := by show _ = _; unfold kindB; rw [if_neg (by rw [HK.out]; decide), if_neg (by rw [HK.out]; decide), if_pos HK.out]; simp only [decide_eq_false_iff_not]; intro h; exact hc ⟨h.2.1, h.2.2.1, h.2.2.2, rfl⟩
      have hlb : (x.subs.length : Int) ≤ 20 := by omega
      have HB : Hid _ := hc
      clear hc hl
      go_enter Tryd.func19, Tryd.ntmps19
      go_wp2_with fail
      refine (bare_f _ _ _ _ _ _ _ (by simpa using HB.out)).mono ?_
      rintro e w' ⟨rfl, rfl⟩
      go_wp2_with fail
      go_ret
      exact ⟨ret_bool HV.out.symm, below_box⟩
  · have HV : Hid (kindB x = false) := by show _ = _; unfold kindB; rw [if_neg (by rw [HK.out]; decide), if_neg (by rw [HK.out]; decide), if_pos HK.out]; simp only [decide_eq_false_iff_not]; intro h; exact hl h.1
    have hlb : (20 : Int) < (x.subs.length : Int) := by omega
    clear hl
    go_enter Tryd.func19, Tryd.ntmps19
    go_wp2_with fail
    go_ret
    exact ⟨ret_bool HV.out.symm, below_box⟩

set_option maxHeartbeats 1000000 in
theorem rightKind_3 (x : Nd) (w : World) (hk : x.kind = 3) :
    Calls Tryd.prog 19 #[nodeV x] w fun e w' => e = .returned (.bool (kindB x)) ∧ Below w.heap.size w w' := by
  unfold nodeV
  have hb3 : (x.kind == 3) = true := by simpa using hk
  have hb0 : (x.kind == 0) = false := by rw [hk]; decide
  have hb1 : (x.kind == 1) = false := by rw [hk]; decide
  have hb2 : (x.kind == 2) = false := by rw [hk]; decide
  have HK : Hid (x.kind = 3) := hk
  clear hk
  by_cases hl : x.text.length ≤ 400
  · by_cases hc : ([] : List UInt8) = [] ∧ x.n = 0 ∧ x.d = 0 ∧ x.subs.length = 0
    · have HV : Hid (kindB x = true) := by show _ = _; unfold kindB; rw [if_neg (by rw [HK.out]; decide), if_neg (by rw [HK.out]; decide), if_neg (by rw [HK.out]; decide), if_pos HK.out]; simp only [decide_eq_true_eq]; exact ⟨hl, hc.2.1, hc.2.2.1, hc.2.2.2⟩
      have hlb : (x.text.length : Int) ≤ 400 := by omega
      have HB : Hid _ := hc
      clear hc hl
      go_enter Tryd.func19, Tryd.ntmps19
      go_wp2_with fail
      refine (bare_t _ _ _ _ _ _ _ (by simpa using HB.out)).mono ?_
      rintro e w' ⟨rfl, rfl⟩
      go_wp2_with fail
      go_ret
      exact ⟨ret_bool HV.out.symm, below_box⟩
    · have HV : Hid (kindB x = false) := by show _ = _; unfold kindB; rw [if_neg (by rw [HK.out]; decide), if_neg (by rw [HK.out]; decide), if_neg (by rw [HK.out]; decide), if_pos HK.out]; simp only [decide_eq_false_iff_not]; intro h; exact hc ⟨rfl, h.2.1, h.2.2.1, h.2.2.2⟩
      have hlb : (x.text.length : Int) ≤ 400 := by omega
      have HB : Hid _ := hc
      clear hc hl
      go_enter Tryd.func19, Tryd.ntmps19
      go_wp2_with fail
      refine (bare_f _ _ _ _ _ _ _ (by simpa using HB.out)).mono ?_
      rintro e w' ⟨rfl, rfl⟩
      go_wp2_with fail
      go_ret
      exact ⟨ret_bool HV.out.symm, below_box⟩
  · have HV : Hid (kindB x = false) := by show _ = _; unfold kindB; rw [if_neg (by rw [HK.out]; decide), if_neg (by rw [HK.out]; decide), if_neg (by rw [HK.out]; decide), if_pos HK.out]; simp only [decide_eq_false_iff_not]; intro h; exact hl h.1
    have hlb : (400 : Int) < (x.text.length : Int) := by omega
    clear hl
    go_enter Tryd.func19, Tryd.ntmps19
    go_wp2_with fail
    go_ret
    exact ⟨ret_bool HV.out.symm, below_box⟩

set_option maxHeartbeats 1000000 in
theorem rightKind_4 (x : Nd) (w : World) (ht : x.text.length ≤ maxLen) (hk : x.kind = 4) :
    Calls Tryd.prog 19 #[nodeV x] w fun e w' => e = .returned (.bool (kindB x)) ∧ Below w.heap.size w w' := by
  unfold nodeV
  have hb4 : (x.kind == 4) = true := by simpa using hk
  have hb0 : (x.kind == 0) = false := by rw [hk]; decide
  have hb1 : (x.kind == 1) = false := by rw [hk]; decide
  have hb2 : (x.kind == 2) = false := by rw [hk]; decide
  have hb3 : (x.kind == 3) = false := by rw [hk]; decide
  have HK : Hid (x.kind = 4) := hk
  clear hk
  by_cases hc : ([] : List UInt8) = [] ∧ x.n = 0 ∧ x.d = 0 ∧ x.subs.length = 0
  · have HV : Hid (kindB x = isSym x.text) := by show _ = _; unfold kindB; rw [if_neg (by rw [HK.out]; decide), if_neg (by rw [HK.out]; decide), if_neg (by rw [HK.out]; decide), if_neg (by rw [HK.out]; decide), if_pos HK.out]; rw [decide_eq_true hc.2, Bool.true_and]
    have HB : Hid _ := hc
    clear hc
    go_enter Tryd.func19, Tryd.ntmps19
    go_wp2_with fail
    refine (bare_t _ _ _ _ _ _ _ (by simpa using HB.out)).mono ?_
    rintro e w' ⟨rfl, rfl⟩
    go_wp2_with fail
    refine (isSymbol_any _ _ ht).mono ?_
    rintro e w' ⟨rfl, rfl⟩
    go_wp2_with fail
    go_ret
    exact ⟨ret_bool HV.out.symm, below_box⟩
  · have HV : Hid (kindB x = false) := by show _ = _; unfold kindB; rw [if_neg (by rw [HK.out]; decide), if_neg (by rw [HK.out]; decide), if_neg (by rw [HK.out]; decide), if_neg (by rw [HK.out]; decide), if_pos HK.out]; rw [decide_eq_false (fun h => hc ⟨rfl, h⟩), Bool.false_and]
    have HB : Hid _ := hc
    clear hc
    go_enter Tryd.func19, Tryd.ntmps19
    go_wp2_with fail
    refine (bare_f _ _ _ _ _ _ _ (by simpa using HB.out)).mono ?_
    rintro e w' ⟨rfl, rfl⟩
    go_wp2_with fail
    go_ret
    exact ⟨ret_bool HV.out.symm, below_box⟩

set_option maxHeartbeats 1000000 in
theorem rightKind_5 (x : Nd) (w : World) (hk : x.kind = 5) :
    Calls Tryd.prog 19 #[nodeV x] w fun e w' => e = .returned (.bool (kindB x)) ∧ Below w.heap.size w w' := by
  unfold nodeV
  have hb5 : (x.kind == 5) = true := by simpa using hk
  have hb0 : (x.kind == 0) = false := by rw [hk]; decide
  have hb1 : (x.kind == 1) = false := by rw [hk]; decide
  have hb2 : (x.kind == 2) = false := by rw [hk]; decide
  have hb3 : (x.kind == 3) = false := by rw [hk]; decide
  have hb4 : (x.kind == 4) = false := by rw [hk]; decide
  have HK : Hid (x.kind = 5) := hk
  clear hk
  cases hn : numB x.n x.d
  · have HV : Hid (kindB x = false) := by show _ = _; unfold kindB; rw [if_neg (by rw [HK.out]; decide), if_neg (by rw [HK.out]; decide), if_neg (by rw [HK.out]; decide), if_neg (by rw [HK.out]; decide), if_neg (by rw [HK.out]; decide), if_pos HK.out]; rw [hn, Bool.false_and]
    go_enter Tryd.func19, Tryd.ntmps19
    go_wp2_with fail
    refine (rightNumber_any _ _ _).mono ?_
    rw [hn]; rintro e w' ⟨rfl, m, rfl⟩
    go_wp2_with fail
    go_ret
    exact ⟨ret_bool HV.out.symm, below_drewN below_box _⟩
  · by_cases hc : x.text = [] ∧ (0 : Int) = 0 ∧ (0 : Int) = 0 ∧ x.subs.length = 0
    · have HV : Hid (kindB x = true) := by show _ = _; unfold kindB; rw [if_neg (by rw [HK.out]; decide), if_neg (by rw [HK.out]; decide), if_neg (by rw [HK.out]; decide), if_neg (by rw [HK.out]; decide), if_neg (by rw [HK.out]; decide), if_pos HK.out]; rw [hn, decide_eq_true ⟨hc.1, hc.2.2.2⟩]; rfl
      have HB : Hid _ := hc
      clear hc
      go_enter Tryd.func19, Tryd.ntmps19
      go_wp2_with fail
      refine (rightNumber_any _ _ _).mono ?_
      rw [hn]; rintro e w' ⟨rfl, m, rfl⟩
      go_wp2_with fail
      refine (bare_t _ _ _ _ _ _ _ (by simpa using HB.out)).mono ?_
      rintro e w' ⟨rfl, rfl⟩
      go_wp2_with fail
      go_ret
      exact ⟨ret_bool HV.out.symm, below_drewN below_box _⟩
    · have HV : Hid (kindB x = false) := by show _ = _; unfold kindB; rw [if_neg (by rw [HK.out]; decide), if_neg (by rw [HK.out]; decide), if_neg (by rw [HK.out]; decide), if_neg (by rw [HK.out]; decide), if_neg (by rw [HK.out]; decide), if_pos HK.out]; rw [hn, decide_eq_false (fun h => hc ⟨h.1, rfl, rfl, h.2⟩)]; rfl
      have HB : Hid _ := hc
      clear hc
      go_enter Tryd.func19, Tryd.ntmps19
      go_wp2_with fail
      refine (rightNumber_any _ _ _).mono ?_
      rw [hn]; rintro e w' ⟨rfl, m, rfl⟩
      go_wp2_with fail
      refine (bare_f _ _ _ _ _ _ _ (by simpa using HB.out)).mono ?_
      rintro e w' ⟨rfl, rfl⟩
      go_wp2_with fail
      go_ret
      exact ⟨ret_bool HV.out.symm, below_drewN below_box _⟩

set_option maxHeartbeats 1000000 in
theorem rightKind_6 (x : Nd) (w : World) (hk : x.kind = 6) :
    Calls Tryd.prog 19 #[nodeV x] w fun e w' => e = .returned (.bool (kindB x)) ∧ Below w.heap.size w w' := by
  unfold nodeV
  have hb6 : (x.kind == 6) = true := by simpa using hk
  have hb0 : (x.kind == 0) = false := by rw [hk]; decide
  have hb1 : (x.kind == 1) = false := by rw [hk]; decide
  have hb2 : (x.kind == 2) = false := by rw [hk]; decide
  have hb3 : (x.kind == 3) = false := by rw [hk]; decide
  have hb4 : (x.kind == 4) = false := by rw [hk]; decide
  have hb5 : (x.kind == 5) = false := by rw [hk]; decide
  have HK : Hid (x.kind = 6) := hk
  clear hk
  by_cases hl : x.n = 0 ∨ x.n = 1
  · by_cases hc : x.text = [] ∧ (0 : Int) = 0 ∧ x.d = 0 ∧ x.subs.length = 0
    · have HV : Hid (kindB x = true) := by show _ = _; unfold kindB; rw [if_neg (by rw [HK.out]; decide), if_neg (by rw [HK.out]; decide), if_neg (by rw [HK.out]; decide), if_neg (by rw [HK.out]; decide), if_neg (by rw [HK.out]; decide), if_neg (by rw [HK.out]; decide), if_pos HK.out]; exact decide_eq_true ⟨hl, hc.1, hc.2.2.1, hc.2.2.2⟩
      have HB : Hid _ := hc
      clear hc
      cases hn0 : (x.n == 0)
      · have hn1 : (x.n == 1) = true := by rw [beq_iff_eq]; have := beq_eq_false_iff_ne.1 hn0; omega
        clear hl
        go_enter Tryd.func19, Tryd.ntmps19
        go_wp2_with fail
        refine (bare_t _ _ _ _ _ _ _ (by simpa using HB.out)).mono ?_
        rintro e w' ⟨rfl, rfl⟩
        go_wp2_with fail
        go_ret
        exact ⟨ret_bool HV.out.symm, below_box⟩
      · clear hl
        go_enter Tryd.func19, Tryd.ntmps19
        go_wp2_with fail
        refine (bare_t _ _ _ _ _ _ _ (by simpa using HB.out)).mono ?_
        rintro e w' ⟨rfl, rfl⟩
        go_wp2_with fail
        go_ret
        exact ⟨ret_bool HV.out.symm, below_box⟩
    · have HV : Hid (kindB x = false) := by show _ = _; unfold kindB; rw [if_neg (by rw [HK.out]; decide), if_neg (by rw [HK.out]; decide), if_neg (by rw [HK.out]; decide), if_neg (by rw [HK.out]; decide), if_neg (by rw [HK.out]; decide), if_neg (by rw [HK.out]; decide), if_pos HK.out]; exact decide_eq_false (fun h => hc ⟨h.2.1, rfl, h.2.2.1, h.2.2.2⟩)
      have HB : Hid _ := hc
      clear hc
      cases hn0 : (x.n == 0)
      · have hn1 : (x.n == 1) = true := by rw [beq_iff_eq]; have := beq_eq_false_iff_ne.1 hn0; omega
        clear hl
        go_enter Tryd.func19, Tryd.ntmps19
        go_wp2_with fail
        refine (bare_f _ _ _ _ _ _ _ (by simpa using HB.out)).mono ?_
        rintro e w' ⟨rfl, rfl⟩
        go_wp2_with fail
        go_ret
        exact ⟨ret_bool HV.out.symm, below_box⟩
      · clear hl
        go_enter Tryd.func19, Tryd.ntmps19
        go_wp2_with fail
        refine (bare_f _ _ _ _ _ _ _ (by simpa using HB.out)).mono ?_
        rintro e w' ⟨rfl, rfl⟩
        go_wp2_with fail
        go_ret
        exact ⟨ret_bool HV.out.symm, below_box⟩
  · have HV : Hid (kindB x = false) := by show _ = _; unfold kindB; rw [if_neg (by rw [HK.out]; decide), if_neg (by rw [HK.out]; decide), if_neg (by rw [HK.out]; decide), if_neg (by rw [HK.out]; decide), if_neg (by rw [HK.out]; decide), if_neg (by rw [HK.out]; decide), if_pos HK.out]; exact decide_eq_false (fun h => hl h.1)
    have hn0 : (x.n == 0) = false := by rw [beq_eq_false_iff_ne]; omega
    have hn1 : (x.n == 1) = false := by rw [beq_eq_false_iff_ne]; omega
    clear hl
    go_enter Tryd.func19, Tryd.ntmps19
    go_wp2_with fail
    go_ret
    exact ⟨ret_bool HV.out.symm, below_box⟩

set_option maxHeartbeats 1000000 in
theorem rightKind_7 (x : Nd) (w : World) (hk : x.kind = 7) :
    Calls Tryd.prog 19 #[nodeV x] w fun e w' => e = .returned (.bool (kindB x)) ∧ Below w.heap.size w w' := by
  unfold nodeV
  have hb7 : (x.kind == 7) = true := by simpa using hk
  have hb0 : (x.kind == 0) = false := by rw [hk]; decide
  have hb1 : (x.kind == 1) = false := by rw [hk]; decide
  have hb2 : (x.kind == 2) = false := by rw [hk]; decide
  have hb3 : (x.kind == 3) = false := by rw [hk]; decide
  have hb4 : (x.kind == 4) = false := by rw [hk]; decide
  have hb5 : (x.kind == 5) = false := by rw [hk]; decide
  have hb6 : (x.kind == 6) = false := by rw [hk]; decide
  have HK : Hid (x.kind = 7) := hk
  clear hk
  cases hn : charB x.n
  · have HV : Hid (kindB x = false) := by show _ = _; unfold kindB; rw [if_neg (by rw [HK.out]; decide), if_neg (by rw [HK.out]; decide), if_neg (by rw [HK.out]; decide), if_neg (by rw [HK.out]; decide), if_neg (by rw [HK.out]; decide), if_neg (by rw [HK.out]; decide), if_neg (by rw [HK.out]; decide), if_pos HK.out]; rw [hn, Bool.false_and]
    go_enter Tryd.func19, Tryd.ntmps19
    go_wp2_with fail
    refine (isChar_any _ _).mono ?_
    rw [hn]; rintro e w' ⟨rfl, rfl⟩
    go_wp2_with fail
    go_ret
    exact ⟨ret_bool HV.out.symm, below_box⟩
  · by_cases hc : x.text = [] ∧ (0 : Int) = 0 ∧ x.d = 0 ∧ x.subs.length = 0
    · have HV : Hid (kindB x = true) := by show _ = _; unfold kindB; rw [if_neg (by rw [HK.out]; decide), if_neg (by rw [HK.out]; decide), if_neg (by rw [HK.out]; decide), if_neg (by rw [HK.out]; decide), if_neg (by rw [HK.out]; decide), if_neg (by rw [HK.out]; decide), if_neg (by rw [HK.out]; decide), if_pos HK.out]; rw [hn, decide_eq_true ⟨hc.1, hc.2.2.1, hc.2.2.2⟩]; rfl
      have HB : Hid _ := hc
      clear hc
      go_enter Tryd.func19, Tryd.ntmps19
      go_wp2_with fail
      refine (isChar_any _ _).mono ?_
      rw [hn]; rintro e w' ⟨rfl, rfl⟩
      go_wp2_with fail
      refine (bare_t _ _ _ _ _ _ _ (by simpa using HB.out)).mono ?_
      rintro e w' ⟨rfl, rfl⟩
      go_wp2_with fail
      go_ret
      exact ⟨ret_bool HV.out.symm, below_box⟩
    · have HV : Hid (kindB x = false) := by show _ = _; unfold kindB; rw [if_neg (by rw [HK.out]; decide), if_neg (by rw [HK.out]; decide), if_neg (by rw [HK.out]; decide), if_neg (by rw [HK.out]; decide), if_neg (by rw [HK.out]; decide), if_neg (by rw [HK.out]; decide), if_neg (by rw [HK.out]; decide), if_pos HK.out]; rw [hn, decide_eq_false (fun h => hc ⟨h.1, rfl, h.2.1, h.2.2⟩)]; rfl
      have HB : Hid _ := hc
      clear hc
      go_enter Tryd.func19, Tryd.ntmps19
      go_wp2_with fail
      refine (isChar_any _ _).mono ?_
      rw [hn]; rintro e w' ⟨rfl, rfl⟩
      go_wp2_with fail
      refine (bare_f _ _ _ _ _ _ _ (by simpa using HB.out)).mono ?_
      rintro e w' ⟨rfl, rfl⟩
      go_wp2_with fail
      go_ret
      exact ⟨ret_bool HV.out.symm, below_box⟩

set_option maxHeartbeats 1000000 in
theorem rightKind_else (x : Nd) (w : World) (hk : x.kind < 0 ∨ 7 < x.kind) :
    Calls Tryd.prog 19 #[nodeV x] w fun e w' => e = .returned (.bool (kindB x)) ∧ Below w.heap.size w w' := by
  unfold nodeV
  have hb0 : (x.kind == 0) = false := by rw [beq_eq_false_iff_ne]; omega
  have hb1 : (x.kind == 1) = false := by rw [beq_eq_false_iff_ne]; omega
  have hb2 : (x.kind == 2) = false := by rw [beq_eq_false_iff_ne]; omega
  have hb3 : (x.kind == 3) = false := by rw [beq_eq_false_iff_ne]; omega
  have hb4 : (x.kind == 4) = false := by rw [beq_eq_false_iff_ne]; omega
  have hb5 : (x.kind == 5) = false := by rw [beq_eq_false_iff_ne]; omega
  have hb6 : (x.kind == 6) = false := by rw [beq_eq_false_iff_ne]; omega
  have hb7 : (x.kind == 7) = false := by rw [beq_eq_false_iff_ne]; omega
  have HV : Hid (kindB x = false) := by show _ = _; unfold kindB; rw [if_neg (by omega), if_neg (by omega), if_neg (by omega), if_neg (by omega), if_neg (by omega), if_neg (by omega), if_neg (by omega), if_neg (by omega)]
  clear hk
  go_enter Tryd.func19, Tryd.ntmps19
  go_wp2_with fail
  go_ret
  exact ⟨ret_bool HV.out.symm, below_box⟩

theorem rightKind_any (x : Nd) (w : World) (ht : x.text.length ≤ maxLen) :
    Calls Tryd.prog 19 #[nodeV x] w fun e w' => e = .returned (.bool (kindB x)) ∧ Below w.heap.size w w' := by
  by_cases h : x.kind < 0 ∨ 7 < x.kind
  · exact rightKind_else x w h
  · have : x.kind = 0 ∨ x.kind = 1 ∨ x.kind = 2 ∨ x.kind = 3 ∨ x.kind = 4 ∨ x.kind = 5 ∨ x.kind = 6 ∨ x.kind = 7 := by omega
    rcases this with h | h | h | h | h | h | h | h
    · exact rightKind_0 x w h
    · exact rightKind_1 x w h
    · exact rightKind_2 x w h
    · exact rightKind_3 x w h
    · exact rightKind_4 x w ht h
    · exact rightKind_5 x w h
    · exact rightKind_6 x w h
    · exact rightKind_7 x w h
end Go.Proofs.YtlhimdjkkiflhaaDoor
