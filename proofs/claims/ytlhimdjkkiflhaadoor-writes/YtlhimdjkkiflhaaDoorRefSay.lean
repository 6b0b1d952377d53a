/- The document's writer, in memory; what it says. -/
import Derived.Test.YtlhimdjkkiflhaaDoorRefAtom
import Derived.Test.YtlhimdjkkiflhaaDoorRows1
import Derived.Test.YtlhimdjkkiflhaaDoorDfs
import Derived.Test.YtlhimdjkkiflhaaDoorMeet
import Derived.Deep.DeepCutAuto
namespace Go.Proofs.YtlhimdjkkiflhaaDoor
open Go.RowKit Go.Loop

/-- all old blocks but two are as they were -/
structure Kept (p q : Nat) (w w' : World) : Prop where
  os : w'.os = w.os
  tape : w'.tape = w.tape
  output : w'.output = w.output
  size : w.heap.size ≤ w'.heap.size
  block : ∀ k, k < w.heap.size → k ≠ p → k ≠ q → w'.heap[k]? = w.heap[k]?

theorem Kept.refl (p q : Nat) (w : World) : Kept p q w w := ⟨rfl, rfl, rfl, Nat.le_refl _, fun _ _ _ _ => rfl⟩
theorem Kept.trans {p q : Nat} {a b c : World} (h : Kept p q a b) (k : Kept p q b c) : Kept p q a c :=
  ⟨k.os.trans h.os, k.tape.trans h.tape, k.output.trans h.output, Nat.le_trans h.size k.size, fun i hi hp hq => (k.block i (Nat.lt_of_lt_of_le hi h.size) hp hq).trans (h.block i hi hp hq)⟩
theorem Kept.setCell {p q : Nat} {a w : World} (h : Kept p q a w) {x : Addr} (hx : x.block = p ∨ x.block = q) (v : Value) : Kept p q a (w.setCell x v) :=
  h.trans ⟨rfl, rfl, rfl, by simp [World.setCell], fun k hk hp hq => Below.heap_setCell _ _ _ _ (by rcases hx with h | h <;> omega)⟩
theorem Kept.drew {p q : Nat} {a w : World} (h : Kept p q a w) : Kept p q a w.drew := ⟨h.os, h.tape, h.output, h.size, h.block⟩
theorem Kept.below {p q B : Nat} {a w : World} (h : Kept p q a w) (hB : B ≤ a.heap.size) (hp : B ≤ p) (hq : B ≤ q) : Below B a w :=
  ⟨h.os, h.tape, h.output, h.size, fun k hk => h.block k (by omega) (by omega) (by omega)⟩
theorem Kept.of_below {p q : Nat} {a w : World} (h : Below a.heap.size a w) : Kept p q a w := ⟨h.os, h.tape, h.output, h.size, fun k hk _ _ => h.block k hk⟩
theorem Kept.alloc {p q : Nat} {a w : World} (h : Kept p q a w) (o : Obj) : Kept p q a (w.alloc o) := h.trans (Kept.of_below ((Below.refl _ _).alloc (Nat.le_refl _) o))
theorem Kept.cell {p q : Nat} {a w : World} (h : Kept p q a w) {x : Addr} {v : Value} (hx : a.cell? x = some v) (hp : x.block ≠ p) (hq : x.block ≠ q) : w.cell? x = some v := by
  rw [World.cell?_of_block (w := a) (h.block x.block (cell_lt hx) hp hq)]; exact hx

/-- the label of a node, as the document's writer keeps it -/
def labR (L : Nat → Bool) (t : TS) (i : Nat) : Int := if 0 ≤ t.lab.getD i (-1) then t.lab.getD i (-1) + 1 else if L i then -1 else 0

/-- the document's writer in memory -/
structure RefW (w : World) (p bl n : Nat) (nv : Value) (L : Nat → Bool) (t : TS) : Prop where
  c0 : w.cell? ⟨p, 0, none⟩ = some nv
  c4 : w.cell? ⟨p, 4, none⟩ = some (.slice (some ⟨bl, 0, none⟩) n n)
  c5 : w.cell? ⟨p, 5, none⟩ = some (.int .i64 t.next)
  c6 : ∃ o : List UInt8, w.cell? ⟨p, 6, none⟩ = some (.string ⟨⟨o⟩⟩) ∧ (t.long = true → 400 < o.length) ∧ (t.long = false → o = t.out)
  f5 : w.frozen? ⟨p, 5, none⟩ = false
  f6 : w.frozen? ⟨p, 6, none⟩ = false
  rl : ∃ lr : List Int, lr.length = n ∧ RowI w bl lr ∧ ∀ i, i < n → lr.getD i 0 = labR L t i

set_option maxHeartbeats 400000 in
theorem refFull_any (p bl n : Nat) (nv : Value) (L : Nat → Bool) (t : TS) (w : World) (ht : t.Ok n L) (hw : RefW w p bl n nv L t) :
    Calls Tryd.prog 18 #[.pointer (some ⟨p, 0, none⟩)] w fun e w' => e = .returned (.bool t.long) ∧ w' = w := by
  obtain ⟨o, hc, h1, h2⟩ := hw.c6
  cases hl : t.long
  · have hle : (o.length : Int) ≤ 400 := by rw [h2 hl]; have := ht.lo hl; omega
    clear h1 h2 hw ht
    go_enter Tryd.func18, Tryd.ntmps18
    go_wp2_with fail
    go_ret
    exact ⟨ret_bool (by simp <;> omega), rfl⟩
  · have hle : (400 : Int) < o.length := by have := h1 hl; omega
    clear h1 h2 hw ht
    go_enter Tryd.func18, Tryd.ntmps18
    go_wp2_with fail
    go_ret
    exact ⟨ret_bool (by simp <;> omega), rfl⟩

theorem RefW.out {w : World} {p bl n : Nat} {nv : Value} {L : Nat → Bool} {t t' : TS} (h : RefW w p bl n nv L t) (hp : p ≠ bl) (o : List UInt8) (hn : t'.next = t.next) (hlab : t'.lab = t.lab)
    (h1 : t'.long = true → 400 < o.length) (h2 : t'.long = false → o = t'.out) : RefW (w.setCell ⟨p, 6, none⟩ (.string ⟨⟨o⟩⟩)) p bl n nv L t' := by
  obtain ⟨o0, c6, _, _⟩ := h.c6
  obtain ⟨lr, hl, hr, he⟩ := h.rl
  refine ⟨?_, ?_, ?_, ⟨o, World.cell?_setCell_same _ _ _ c6, h1, h2⟩, by rw [World.frozen?_setCell]; exact h.f5, by rw [World.frozen?_setCell]; exact h.f6, ⟨lr, hl, hr.far hp _, fun i hi => ?_⟩⟩
  · rw [World.cell?_setCell_other (h := by intro e; cases e)]; exact h.c0
  · rw [World.cell?_setCell_other (h := by intro e; cases e)]; exact h.c4
  · rw [World.cell?_setCell_other (h := by intro e; cases e), hn]; exact h.c5
  · rw [he i hi]; unfold labR; rw [hlab]

/-- a label is put: 'Next++; Label[n] = Next', behind what is said of it -/
theorem RefW.put {w : World} {p bl n : Nat} {nv : Value} {L : Nat → Bool} {t : TS} (h : RefW w p bl n nv L (t.add (35 :: (Lib.itoa t.next ++ [61])))) (hp : p ≠ bl) (ht : t.lab.length = n) {a : Nat} (ha : a < n) :
    RefW ((w.setCell ⟨p, 5, none⟩ (.int .i64 (t.next + 1))).setCell ⟨bl, a, none⟩ (.int .i64 (t.next + 1))) p bl n nv L (t.put a) := by
  obtain ⟨o0, c6, o1, o2⟩ := h.c6
  obtain ⟨lr, hl, hr, he⟩ := h.rl
  have e : (⟨bl, a, none⟩ : Addr).block ≠ p := fun x => hp x.symm
  have c5 := h.c5
  rw [add_next] at c5
  refine ⟨?_, ?_, ?_, ⟨o0, ?_, o1, o2⟩, by rw [World.frozen?_setCell, World.frozen?_setCell]; exact h.f5, by rw [World.frozen?_setCell, World.frozen?_setCell]; exact h.f6, ⟨lr.set a (t.next + 1), by simp [hl], (hr.far hp _).set a (by omega) _, fun i hi => ?_⟩⟩
  · rw [cell_far e, World.cell?_setCell_other (h := by intro e; cases e)]; exact h.c0
  · rw [cell_far e, World.cell?_setCell_other (h := by intro e; cases e)]; exact h.c4
  · rw [cell_far e, World.cell?_setCell_same _ _ _ c5]; rfl
  · rw [cell_far e, World.cell?_setCell_other (h := by intro e; cases e)]; exact c6
  · rw [getD_set _ _ _ _ _ (by omega)]
    have e1 : (t.put a).lab = t.lab.set a t.next := rfl
    unfold labR
    rw [e1, getD_set _ _ _ _ _ (by omega)]
    split
    · rw [if_pos (by omega)]
    · have := he i hi
      unfold labR at this
      rw [add_lab] at this
      exact this

set_option maxHeartbeats 400000 in
theorem refSay_any (p bl n : Nat) (nv : Value) (L : Nat → Bool) (t : TS) (w : World) (s : List UInt8) (hs : s.length ≤ 140737488355328) (hp : p ≠ bl) (ht : t.Ok n L) (hw : RefW w p bl n nv L t) :
    Calls Tryd.prog 29 #[.pointer (some ⟨p, 0, none⟩), .string ⟨⟨s⟩⟩] w fun e w' => e = .returned (.tuple #[]) ∧ RefW w' p bl n nv L (t.add s) ∧ Kept p bl w w' := by
  cases hl : t.long
  · obtain ⟨o, hc, h1, h2⟩ := hw.c6
    have ho := h2 hl
    subst ho
    have hol := ht.lo hl
    have hf := hw.f6
    have HN : Hid (RefW (w.setCell ⟨p, 6, none⟩ (.string ⟨⟨t.out ++ s⟩⟩)) p bl n nv L (t.add s)) := by
      refine hw.out hp _ (add_next _ _) (add_lab _ _) ?_ ?_
      · intro h
        by_cases hov : 400 < t.out.length + s.length
        · simpa using hov
        · rw [add_fits hl (by omega), hl] at h; exact absurd h (by simp)
      · intro h
        by_cases hov : 400 < t.out.length + s.length
        · rw [add_over hl hov] at h; exact absurd h (by simp)
        · rw [add_fits hl (by omega)]
    have HF : Hid _ := refFull_any p bl n nv L t w ht hw
    have ks := str_app
    clear h1 h2
    have HW : Hid _ := hw
    have HT : Hid _ := ht
    clear hw ht HF
    go_enter Tryd.func29, Tryd.ntmps29
    go_wp2_with fail
    refine (refFull_any p bl n nv L t _ HT.out HW.out).mono ?_
    rw [hl]; rintro e w' ⟨rfl, rfl⟩
    go_wp2_with fail
    go_end0
    exact ⟨rfl, HN.out, (Kept.refl p bl _).setCell (x := ⟨p, 6, none⟩) (Or.inl rfl) _⟩
  · have HN : Hid (t.add s = t) := add_long hl s
    have HW : Hid _ := hw
    have HT : Hid _ := ht
    clear hw ht
    go_enter Tryd.func29, Tryd.ntmps29
    go_wp2_with fail
    refine (refFull_any p bl n nv L t _ HT.out HW.out).mono ?_
    rw [hl]; rintro e w' ⟨rfl, rfl⟩
    go_wp2_with fail
    go_end0
    exact ⟨rfl, by rw [HN.out]; exact HW.out, Kept.refl _ _ _⟩
end Go.Proofs.YtlhimdjkkiflhaaDoor

/- The document's writer: a node. -/
namespace Go.Proofs.YtlhimdjkkiflhaaDoor
open Go.RowKit Go.Loop

def kindN (G : List Nd) (x : Nat) : Int := match G[x]? with | some y => y.kind | none => 0
def atN (G : List Nd) (x : Nat) : List UInt8 := match G[x]? with | some y => atomL y | none => []
theorem kindN_at (G : List Nd) (x : Nat) (h : x < G.length) : kindN G x = G[x].kind := by unfold kindN; rw [List.getElem?_eq_getElem h]
theorem atN_at (G : List Nd) (x : Nat) (h : x < G.length) : atN G x = atomL G[x] := by unfold atN; rw [List.getElem?_eq_getElem h]

/-- what is written, and where it lies -/
structure RCtx (G : List Nd) (b o : Nat) (W0 : World) (p bl : Nat) : Prop where
  hG : GraphAt W0 b o G
  hk : ∀ x (h : x < G.length), kindB G[x] = true
  hs : ∀ x (h : x < G.length), subsB G[x].subs G.length = true
  ht : ∀ x (h : x < G.length), G[x].text.length ≤ 140737488355328
  hn : G.length ≤ 150
  hp : W0.heap.size ≤ p
  hl : W0.heap.size ≤ bl
  pl : p ≠ bl

/-- 'write' (false) or 'rest' (true), with so many steps -/
def WSaid (G : List Nd) (b o cap : Nat) (W0 : World) (p bl : Nat) (L : Nat → Bool) (f : Nat) (r : Bool) : Prop :=
  ∀ (t : TS) (a : Int) (w : World), t.Ok G.length L → 0 ≤ a → a < G.length → need t ≤ f → Below W0.heap.size W0 w → RefW w p bl G.length (.slice (some ⟨b, o, none⟩) G.length cap) L t →
    Calls Tryd.prog (if r then 31 else 17) #[.pointer (some ⟨p, 0, none⟩), .int .i64 a] w fun e w' => e = .returned (.tuple #[]) ∧
      RefW w' p bl G.length (.slice (some ⟨b, o, none⟩) G.length cap) L (WF (kindN G) (subsN G) (atN G) L f r t a.toNat) ∧ Kept p bl w w'

theorem RefW.label {w : World} {p bl n : Nat} {nv : Value} {L : Nat → Bool} {t : TS} (h : RefW w p bl n nv L t) {a : Nat} (ha : a < n) :
    w.cell? ⟨bl, a, none⟩ = some (.int .i64 (labR L t a)) ∧ w.frozen? ⟨bl, a, none⟩ = false := by
  obtain ⟨lr, hlen, hr, he⟩ := h.rl
  rw [← he a ha]; exact hr a (by omega)

theorem RefW.drew {w : World} {p bl n : Nat} {nv : Value} {L : Nat → Bool} {t : TS} (h : RefW w p bl n nv L t) : RefW w.drew p bl n nv L t := ⟨h.c0, h.c4, h.c5, h.c6, h.f5, h.f6, h.rl⟩
theorem RefW.alloc {w : World} {p bl n : Nat} {nv : Value} {L : Nat → Bool} {t : TS} (h : RefW w p bl n nv L t) (o : Obj) (hp : p < w.heap.size) (hl : bl < w.heap.size) : RefW (w.alloc o) p bl n nv L t := by
  have hc : ∀ (b : Nat) (i : Nat), b < w.heap.size → (w.alloc o).cell? ⟨b, i, none⟩ = w.cell? ⟨b, i, none⟩ := fun b i hb => World.cell?_alloc_past _ _ _ hb
  have hf : ∀ (b : Nat) (i : Nat), b < w.heap.size → (w.alloc o).frozen? ⟨b, i, none⟩ = w.frozen? ⟨b, i, none⟩ := fun b i hb => World.frozen?_alloc_past _ _ _ hb
  obtain ⟨o0, c6, o1, o2⟩ := h.c6
  obtain ⟨lr, hl1, hr, he⟩ := h.rl
  exact ⟨by rw [hc _ _ hp]; exact h.c0, by rw [hc _ _ hp]; exact h.c4, by rw [hc _ _ hp]; exact h.c5, ⟨o0, by rw [hc _ _ hp]; exact c6, o1, o2⟩, by rw [hf _ _ hp]; exact h.f5, by rw [hf _ _ hp]; exact h.f6,
    ⟨lr, hl1, fun i hi => by rw [hc _ _ hl, hf _ _ hl]; exact hr i hi, he⟩⟩
theorem subs_get (G : List Nd) (x : Nat) (h : x < G.length) (k : Nat) (hk : k < G[x].subs.length) : (subsN G x).getD k 0 = (G[x].subs.getD k 0).toNat := by
  rw [subsN_at G x h]; simp [List.getD, List.getElem?_eq_getElem hk]
theorem pair_two (G : List Nd) (y : Nat) (hy : y < G.length) (hb : kindB G[y] = true) (hk : kindN G y = 1) : (subsN G y).length = 2 := by
  rw [subsN_at G y hy, List.length_map]
  rw [kindN_at G y hy] at hk
  unfold kindB at hb; rw [if_neg (by omega), if_pos hk] at hb; simp at hb; exact hb.1
theorem RefW.below {w w' : World} {p bl n : Nat} {nv : Value} {L : Nat → Bool} {t : TS} (h : RefW w p bl n nv L t) (hb : Below w.heap.size w w') (hp : p < w.heap.size) (hl : bl < w.heap.size) : RefW w' p bl n nv L t := by
  obtain ⟨o0, c6, o1, o2⟩ := h.c6
  obtain ⟨lr, hl1, hr, he⟩ := h.rl
  exact ⟨cell_below hb h.c0, cell_below hb h.c4, cell_below hb h.c5, ⟨o0, cell_below hb c6, o1, o2⟩, by rw [hb.frozen hp]; exact h.f5, by rw [hb.frozen hp]; exact h.f6,
    ⟨lr, hl1, fun i hi => ⟨cell_below hb (hr i hi).1, by rw [hb.frozen hl]; exact (hr i hi).2⟩, he⟩⟩
theorem refAtom_any (x : Nd) (w : World) (hb : kindB x = true) (h1 : x.kind ≠ 1) (h2 : x.kind ≠ 2) :
    Calls Tryd.prog 32 #[nodeV x] w fun e w' => e = .returned (.string ⟨⟨atomL x⟩⟩) ∧ Below w.heap.size w w' := by
  have hk : x.kind = 0 ∨ x.kind = 3 ∨ x.kind = 4 ∨ x.kind = 5 ∨ x.kind = 6 ∨ x.kind = 7 := by
    by_cases h : x.kind < 0 ∨ 7 < x.kind
    · unfold kindB at hb
      rw [if_neg (by omega), if_neg (by omega), if_neg (by omega), if_neg (by omega), if_neg (by omega), if_neg (by omega), if_neg (by omega), if_neg (by omega)] at hb
      exact absurd hb (by simp)
    · omega
  rcases hk with h | h | h | h | h | h
  · exact refAtom_0 x w h
  · have : x.text.length ≤ 400 := by
      unfold kindB at hb; rw [if_neg (by omega), if_neg (by omega), if_neg (by omega), if_pos h] at hb; simp at hb; exact hb.1
    exact refAtom_3 x w this h
  · exact refAtom_4 x w h
  · have : numB x.n x.d = true := by
      unfold kindB at hb; rw [if_neg (by omega), if_neg (by omega), if_neg (by omega), if_neg (by omega), if_neg (by omega), if_pos h] at hb; simp at hb; exact hb.1
    unfold numB at this; simp at this
    exact refAtom_5 x w (by omega) (by omega) (by omega) (by omega) h
  · exact refAtom_6 x w h
  · have : charB x.n = true := by
      unfold kindB at hb; rw [if_neg (by omega), if_neg (by omega), if_neg (by omega), if_neg (by omega), if_neg (by omega), if_neg (by omega), if_neg (by omega), if_pos h] at hb; simp at hb; exact hb.1
    exact refAtom_7 x w this h
theorem atomL_len (x : Nd) (hb : kindB x = true) (h1 : x.kind ≠ 1) (h2 : x.kind ≠ 2) (ht : x.text.length ≤ 140737488355328) : (atomL x).length ≤ 140737488355328 ∧ (x.kind ≠ 4 → (atomL x).length ≤ 1000) := by
  unfold atomL
  by_cases k0 : x.kind = 0
  · rw [if_pos k0]; simp
  rw [if_neg k0]
  by_cases k3 : x.kind = 3
  · rw [if_pos k3]
    have : x.text.length ≤ 400 := by
      unfold kindB at hb; rw [if_neg (by omega), if_neg (by omega), if_neg (by omega), if_pos k3] at hb; simp at hb; exact hb.1
    have := esc_len x.text
    unfold quoteL; simp only [List.length_cons, List.length_append, List.length_nil]; omega
  rw [if_neg k3]
  by_cases k4 : x.kind = 4
  · rw [if_pos k4]; exact ⟨ht, fun h => absurd k4 h⟩
  rw [if_neg k4]
  by_cases k5 : x.kind = 5
  · rw [if_pos k5]
    have : numB x.n x.d = true := by
      unfold kindB at hb; rw [if_neg (by omega), if_neg (by omega), if_neg (by omega), if_neg (by omega), if_neg (by omega), if_pos k5] at hb; simp at hb; exact hb.1
    unfold numB at this; simp at this
    have l1 := itoa_len x.n (by omega) (by omega)
    have l2 := itoa_len x.d (by omega) (by omega)
    unfold numL; split
    · omega
    · simp only [List.length_append, List.length_cons]; omega
  rw [if_neg k5]
  by_cases k6 : x.kind = 6
  · rw [if_pos k6]; split <;> simp
  rw [if_neg k6]
  unfold charL
  have : (nameOf x.n).length ≤ 10 := by
    unfold nameOf; repeat' split
    all_goals simp
  split
  · simp only [List.length_cons]; omega
  · simp
theorem need_put_lt {t : TS} (h : t.long = false) (ho : t.out.length ≤ 400) (a : Nat) : need (t.put a) < need t := by
  have : need (t.put a) = need (t.add (35 :: (Lib.itoa t.next ++ [61]))) := rfl
  rw [this]; exact need_lt h ho (by simp)

set_option maxHeartbeats 2000000 in
set_option maxRecDepth 10000 in
theorem refWrite_step (G : List Nd) (b o cap : Nat) (W0 : World) (p bl : Nat) (L : Nat → Bool) (C : RCtx G b o W0 p bl) (f : Nat) (IA : Hid (WSaid G b o cap W0 p bl L f false)) (IB : Hid (WSaid G b o cap W0 p bl L f true)) :
    WSaid G b o cap W0 p bl L (f + 1) false := by
  intro t a w ht ha0 ha hf hb hw
  simp only [Bool.false_eq_true, if_false]
  obtain ⟨n, rfl⟩ := Int.eq_ofNat_of_zero_le ha0
  rw [Int.toNat_natCast]
  have han : n < G.length := by omega
  have HC : Hid (RCtx G b o W0 p bl) := C
  have HT : Hid (t.Ok G.length L) := ht
  have HB : Hid (Below W0.heap.size W0 w) := hb
  have HW : Hid (RefW w p bl G.length (.slice (some ⟨b, o, none⟩) G.length cap) L t) := hw
  have HF : Hid (need t ≤ f + 1) := hf
  clear C ht hb hw hf
  cases hlong : t.long
  · have hnx := HT.out.n2
    obtain ⟨hlc, hlf⟩ := HW.out.label han
    have c4 := HW.out.c4
    by_cases hlab : 0 ≤ t.lab.getD n (-1)
    · have hln := (HT.out.ln n).2
      obtain ⟨lv, hlv⟩ : ∃ v : Int, Hid (v = t.lab.getD n (-1)) := ⟨_, rfl⟩
      have hlr : labR L t n = lv + 1 := by unfold labR; rw [if_pos hlab, hlv.out]
      rw [hlr] at hlc
      rw [← hlv.out] at hlab hln
      have HV : Hid (WF (kindN G) (subsN G) (atN G) L (f + 1) false t n = t.add (35 :: (Lib.itoa lv ++ [35]))) := by
        show _ = _; simp only [WF]; rw [if_neg (by simp [hlong]), ← hlv.out, if_pos hlab]
      have hil := itoa_len lv (by omega) (by omega)
      have ks := str_app
      clear hlr
      go_enter Tryd.func17, Tryd.ntmps17
      go_wp2_with fail
      refine (refFull_any p bl _ _ L t _ HT.out HW.out).mono ?_
      rw [hlong]; rintro e w1 ⟨rfl, rfl⟩
      go_wp2_with fail
      refine (digitsOf_any _ _ (by omega) (by omega)).mono ?_
      rintro e w1 ⟨rfl, rfl⟩
      go_wp2_with fail
      refine (refSay_any p bl _ _ L t _ (35 :: (Lib.itoa lv ++ [35])) (by simp; omega) HC.out.pl HT.out HW.out).mono ?_
      rintro e w2 ⟨rfl, hw2, hk2⟩
      have HW2 : Hid _ := hw2
      clear hw2
      go_wp2_with fail
      refine bodyPost_ret (results_none rfl _ _ _) rfl ?_
      exact ⟨rfl, by rw [HV.out]; exact HW2.out, hk2⟩
    · have HLAB : Hid (¬ 0 ≤ t.lab.getD n (-1)) := hlab
      have hle : labR L t n ≤ 0 := by unfold labR; rw [if_neg hlab]; split <;> omega
      obtain ⟨lv, hlv⟩ : ∃ v : Int, Hid (v = labR L t n) := ⟨_, rfl⟩
      rw [← hlv.out] at hlc hle
      clear hlab
      obtain ⟨t1, ht1⟩ : ∃ t1, Hid (t1 = if L n then t.put n else t) := ⟨_, rfl⟩
      have HT1 : Hid (t1.Ok G.length L) := by
        show t1.Ok _ _
        rw [ht1.out]
        split
        · rename_i e; exact HT.out.put han e hlong
        · exact HT.out
      go_enter Tryd.func17, Tryd.ntmps17
      go_wp2_with fail
      refine (refFull_any p bl _ _ L t _ HT.out HW.out).mono ?_
      rw [hlong]; rintro e w1 ⟨rfl, rfl⟩
      go_upto_if 38 with fail
      go_cut [4] (fun _ wc => Hid (RefW wc p bl G.length (.slice (some ⟨b, o, none⟩) G.length cap) L t1) ∧ Hid (Kept p bl w1 wc))
      case first =>
        cases hL : L n
        · have HL0 : Hid (t1 = t) := by show _ = _; rw [ht1.out, hL]; rfl
          have hlv0 : lv = 0 := by rw [hlv.out]; unfold labR; rw [if_neg (by have := HLAB.out; omega), hL]; rfl
          have hlv1 : (0 : Int) ≤ lv := by omega
          clear hlv0
          go_wp2_with fail
          go_meet
          case rel => exact ⟨by show RefW _ _ _ _ _ _ _; rw [HL0.out]; exact HW.out, Kept.refl _ _ _⟩
        · have HL0 : Hid (t1 = t.put n) := by show _ = _; rw [ht1.out, hL]; rfl
          have hlv0 : lv = -1 := by rw [hlv.out]; unfold labR; rw [if_neg (by have := HLAB.out; omega), hL]; rfl
          have hlv1 : lv < (0 : Int) := by omega
          have c5 := HW.out.c5
          have hil := itoa_len t.next (by omega) (by omega)
          have ks := str_app
          clear hlv0
          go_wp2_with fail
          refine (digitsOf_any _ _ (by omega) (by omega)).mono ?_
          rintro e w2 ⟨rfl, rfl⟩
          go_wp2_with fail
          refine (refSay_any p bl _ _ L t _ (35 :: (Lib.itoa t.next ++ [61])) (by simp; omega) HC.out.pl HT.out HW.out).mono ?_
          rintro e w3 ⟨rfl, hw3, hk3⟩
          have HP : Hid _ := hw3.put HC.out.pl HT.out.ll han
          have HK : Hid _ := (hk3.setCell (x := ⟨p, 5, none⟩) (Or.inl rfl) (.int .i64 (t.next + 1))).setCell (x := ⟨bl, n, none⟩) (Or.inr rfl) (.int .i64 (t.next + 1))
          have g4 := hw3.c4
          have g5 := hw3.c5
          rw [add_next] at g5
          have g6 := hw3.f5
          obtain ⟨g7, g8⟩ := hw3.label han
          have hpl : ¬ p = bl := HC.out.pl
          have hpl2 : ¬ bl = p := fun e => hpl e.symm
          clear hw3 hk3 c4 c5 hlc hlf
          generalize labR L (t.add (35 :: (Lib.itoa t.next ++ [61]))) n = lz at *
          go_wp2_with fail
          go_region
          go_wp2_with fail
          go_meet
          case rel => exact ⟨by show RefW _ _ _ _ _ _ _; rw [HL0.out]; exact HP.out.drew, HK.out.drew⟩
      case rest =>
        obtain ⟨hwc, hkc⟩ := hcut
        have HF1 : Hid (∀ q : List UInt8, 1 ≤ q.length → need (t1.add q) ≤ f) := by
          intro q hq
          have ho := HT.out.lo hlong
          have h1 := HF.out
          rw [ht1.out]
          split
          · have h2 := need_put_lt hlong ho n
            have h3 := need_add (t.put n) q
            omega
          · have h2 := need_lt hlong ho hq
            omega
        have HWF : Hid (WF (kindN G) (subsN G) (atN G) L (f + 1) false t n =
            if kindN G n = 1 then WF (kindN G) (subsN G) (atN G) L f true (WF (kindN G) (subsN G) (atN G) L f false (t1.add [40]) ((subsN G n).getD 0 0)) ((subsN G n).getD 1 0)
            else if kindN G n = 2 then (vecTo (WF (kindN G) (subsN G) (atN G) L f false) (subsN G n) (subsN G n).length (t1.add [35, 40])).add [41]
            else t1.add (atN G n)) := by
          show _ = _
          rw [ht1.out]
          simp only [WF]
          rw [if_neg (by simp [hlong]), if_neg (by have := HLAB.out; omega)]
        have hbk := HC.out.hp
        have hbl := HC.out.hl
        have HBc : Hid (Below W0.heap.size W0 wc) := HB.out.trans (hkc.out.below HB.out.size hbk hbl)
        obtain ⟨x0, x1, x2, x3, x4, xi, xt, xs⟩ := (HC.out.hG n han).below HBc.out
        have c0 := hwc.out.c0
        have hpw : p < wc.heap.size := cell_lt hwc.out.c0
        have hblw : bl < wc.heap.size := cell_lt (hwc.out.label han).1
        have HXK : Hid _ := HC.out.hk n han
        have HXS : Hid _ := HC.out.hs n han
        have HXT : Hid _ := HC.out.ht n han
        have HKN : Hid _ := kindN_at G n han
        have HAN : Hid _ := atN_at G n han
        have HSG : Hid _ := subs_get G n han
        have HSL : Hid _ := subsN_at G n han
        have HXI : Hid _ := (HC.out.hG n han).ints
        generalize G[n] = x at *
        clear c4 hlc hlf xi xt xs
        have HBOX : Hid (∀ w' : World, Kept p bl (wc.alloc (.cells #[.int .i64 x.kind, .string ⟨⟨x.text⟩⟩, .int .i64 x.n, .int .i64 x.d, .slice x.sa x.subs.length x.cap] 26)) w' →
            (∀ i v, (#[.int .i64 x.kind, .string ⟨⟨x.text⟩⟩, .int .i64 x.n, .int .i64 x.d, .slice x.sa x.subs.length x.cap] : Array Value)[i]? = some v → w'.cell? ⟨wc.heap.size, i, none⟩ = some v) ∧ Below W0.heap.size W0 w' ∧ Kept p bl wc w') := by
          intro w' hk
          refine ⟨fun i v hv => ?_, ?_, (Kept.refl _ _ _).alloc _ |>.trans hk⟩
          · refine hk.cell (x := ⟨wc.heap.size, i, none⟩) (by rw [World.cell?_alloc_at _ _ _ _ rfl]; exact hv) ?_ ?_
            · show wc.heap.size ≠ p; omega
            · show wc.heap.size ≠ bl; omega
          · exact (HBc.out.alloc HBc.out.size _).trans (hk.below (by have := HBc.out.size; simp; omega) hbk hbl)
        have HWB : Hid (RefW (wc.alloc (.cells #[.int .i64 x.kind, .string ⟨⟨x.text⟩⟩, .int .i64 x.n, .int .i64 x.d, .slice x.sa x.subs.length x.cap] 26)) p bl G.length (.slice (some ⟨b, o, none⟩) G.length cap) L t1) := hwc.out.alloc _ hpw hblw
        have HKC : Hid (Kept p bl w1 wc) := hkc
        have HPW : Hid (p < wc.heap.size) := hpw
        have HBW : Hid (bl < wc.heap.size) := hblw
        have hpl := HC.out.pl
        have HPL : Hid (p ≠ bl) := hpl
        have HSLT : Hid (∀ y, y < G.length → ∀ z ∈ subsN G y, z < G.length) := subsN_lt G HC.out.hs
        have HS2 : Hid (∀ y, y < G.length → kindN G y = 1 → (subsN G y).length = 2) := fun y hy hk => pair_two G y hy (HC.out.hk y hy) hk
        clear hwc hkc hbk hbl hpw hblw hpl HB HW HBc
        by_cases k1 : x.kind = 1
        · have hb1 : (x.kind == 1) = true := by rw [k1]; decide
          have hlen : x.subs.length = 2 := by have := HXK.out; unfold kindB at this; rw [if_neg (by omega), if_pos k1] at this; simp at this; exact this.1
          have HV : Hid _ := HWF.out
          rw [HKN.out, if_pos k1] at HV
          rcases HXI.out with h | ⟨sb, so, hsa, hc⟩
          · exfalso; rw [h] at hlen; simp at hlen
          · have g0 := HSG.out 0 (by omega)
            have g1 := HSG.out 1 (by omega)
            have v0 := subsB_at _ _ HXS.out 0 (by omega)
            have v1 := subsB_at _ _ HXS.out 1 (by omega)
            rw [g0, g1] at HV
            have HCE : Hid (∀ w' : World, Below W0.heap.size W0 w' → w'.cell? ⟨sb, so, none⟩ = some (.int .i64 (x.subs.getD 0 0)) ∧ w'.cell? ⟨sb, so + 1, none⟩ = some (.int .i64 (x.subs.getD 1 0))) :=
              fun w' hb' => ⟨cell_below hb' (hc 0 (by omega)), cell_below hb' (hc 1 (by omega))⟩
            have hl0 : (0 : Int) < (x.subs.length : Int) := by omega
            have hl1 : (1 : Int) < (x.subs.length : Int) := by omega
            have HA1 : Hid _ := HF1.out [40] (by simp)
            clear hc g0 g1 k1 hlen HXI
            generalize x.subs.getD 0 0 = s0 at *
            generalize x.subs.getD 1 0 = s1 at *
            rw [hsa] at HBOX HWB x4
            go_wp2_with fail
            refine (refSay_any p bl _ _ L t1 _ [40] (by simp) HPL.out HT1.out HWB.out).mono ?_
            rintro e w2 ⟨rfl, hw2, hk2⟩
            obtain ⟨hbx, hb2, hk2'⟩ := HBOX.out _ hk2
            have q4 := hbx 4 _ rfl
            obtain ⟨q0, q1⟩ := HCE.out _ hb2
            have HT2 : Hid _ := HT1.out.add [40]
            have HW2 : Hid _ := hw2
            have HB2 : Hid _ := hb2
            have HK2 : Hid _ := hk2
            clear hw2 hb2 hk2 hbx hk2' x0 x1 x2 x3 x4 c0
            go_wp2_with fail
            refine (IA.out _ s0 _ HT2.out v0.1 v0.2 HA1.out HB2.out HW2.out).mono ?_
            rintro e w3 ⟨rfl, hw3, hk3⟩
            have hk23 := HK2.out.trans hk3
            obtain ⟨hbx, hb3, hk3'⟩ := HBOX.out _ hk23
            have r4 := hbx 4 _ rfl
            obtain ⟨r0, r1⟩ := HCE.out _ hb3
            have HT3 : Hid _ := WF_ok (K := kindN G) (S := subsN G) (At := atN G) (L := L) HSLT.out HS2.out f false _ s0.toNat HT2.out (by omega)
            have HA3 : Hid (need (WF (kindN G) (subsN G) (atN G) L f false (t1.add [40]) s0.toNat) ≤ f) := Nat.le_trans (need_WF _ _ _ _) HA1.out
            have HW3 : Hid _ := hw3
            have HB3 : Hid _ := hb3
            have HK3 : Hid _ := hk23
            clear hw3 hb3 hk3 hbx hk3' hk23 q4 q0 q1
            go_wp2_with fail
            refine (IB.out _ s1 _ HT3.out v1.1 v1.2 HA3.out HB3.out HW3.out).mono ?_
            rintro e w4 ⟨rfl, hw4, hk4⟩
            have HK4 : Hid _ := (HBOX.out _ (HK3.out.trans hk4)).2.2
            have HW4 : Hid _ := hw4
            clear hw4 hk4 r4 r0 r1
            go_wp2_with fail
            go_end0
            exact ⟨rfl, by rw [HV.out]; exact HW4.out, HKC.out.trans HK4.out⟩
        · by_cases k2 : x.kind = 2
          · have hb1 : (x.kind == 1) = false := by rw [beq_eq_false_iff_ne]; exact k1
            have hb2 : (x.kind == 2) = true := by rw [beq_iff_eq]; exact k2
            have HV : Hid _ := HWF.out
            rw [HKN.out, if_neg k1, if_pos k2] at HV
            have hlen : x.subs.length ≤ 20 := by have := HXK.out; unfold kindB at this; rw [if_neg (by omega), if_neg (by omega), if_pos k2] at this; simp at this; exact this.1
            have HLL : Hid ((subsN G n).length = x.subs.length) := by show _ = _; rw [HSL.out]; simp
            have HA1 : Hid _ := HF1.out [35, 40] (by simp)
            have HNV : Hid (∀ k, need (vecTo (WF (kindN G) (subsN G) (atN G) L f false) (subsN G n) k (t1.add [35, 40])) ≤ f) := fun k => Nat.le_trans (need_vec (fun t y => need_WF f false t y) _ _ _) HA1.out
            have HOV : Hid (∀ k, k ≤ x.subs.length → (vecTo (WF (kindN G) (subsN G) (atN G) L f false) (subsN G n) k (t1.add [35, 40])).Ok G.length L) := fun k hk =>
              vec_ok (fun t y ht hy => WF_ok HSLT.out HS2.out f false t y ht hy) (subsN G n) (HSLT.out n han) k _ (by rw [HLL.out]; exact hk) (HT1.out.add _)
            clear k1 k2
            rcases HXI.out with h | ⟨sb, so, hsa, hc⟩
            · have HE0 : Hid (x.subs.length = 0) := by show _ = _; rw [h]; rfl
              clear h HXI
              go_wp2_with fail
              refine (refSay_any p bl _ _ L t1 _ [35, 40] (by simp) HPL.out HT1.out HWB.out).mono ?_
              rintro e w2 ⟨rfl, hw2, hk2⟩
              have HW2 : Hid _ := hw2
              have HK2 : Hid _ := hk2
              clear hw2 hk2 x0 x1 x2 x3 x4 c0
              go_wp2_with fail
              go_loopw [6] (fun i wr => ∃ k : Nat, k ≤ x.subs.length ∧ i = .int .i64 k ∧ Hid (RefW wr p bl G.length (.slice (some ⟨b, o, none⟩) G.length cap) L (vecTo (WF (kindN G) (subsN G) (atN G) L f false) (subsN G n) k (t1.add [35, 40]))) ∧
                  Hid (Kept p bl (wc.alloc (.cells #[.int .i64 x.kind, .string ⟨⟨x.text⟩⟩, .int .i64 x.n, .int .i64 x.d, .slice x.sa x.subs.length x.cap] 26)) wr)) (fun i _ => x.subs.length - (intOf i).toNat)
              case atStart => exact ⟨0, Nat.zero_le _, rfl, HW2.out, HK2.out⟩
              case round =>
                obtain ⟨k, hk, rfl, hwk, hkk⟩ := hrel
                obtain ⟨hbx, hbk', hkk'⟩ := HBOX.out _ hkk.out
                have r4 := hbx 4 _ rfl
                have HBK : Hid _ := hbk'
                have HKK' : Hid _ := hkk'
                clear hbx hbk' hkk'
                by_cases hlt : k < x.subs.length
                · exfalso; have := HE0.out; omega
                · have hkl : k = x.subs.length := by omega
                  have HT9 : Hid _ := HOV.out k hk
                  go_wp2_with fail
                  refine (refSay_any p bl _ _ L _ _ [41] (by simp) HPL.out HT9.out hwk.out).mono ?_
                  rintro e w5 ⟨rfl, hw5, hk5⟩
                  rw [hkl, ← HLL.out, ← HV.out] at hw5
                  have HW5 : Hid _ := hw5
                  have HK5 : Hid _ := (HBOX.out _ (hkk.out.trans hk5)).2.2
                  clear hw5 hk5 hwk hkk r4
                  go_wp2_with fail
                  go_end0
                  exact ⟨rfl, HW5.out, HKC.out.trans HK5.out⟩
            · have HCE : Hid (∀ w' : World, Below W0.heap.size W0 w' → ∀ k, k < x.subs.length → w'.cell? ⟨sb, so + k, none⟩ = some (.int .i64 (x.subs.getD k 0))) := fun w' hb' k hk => cell_below hb' (hc k hk)
              clear hc HXI
              rw [hsa] at HBOX HWB x4
              go_wp2_with fail
              refine (refSay_any p bl _ _ L t1 _ [35, 40] (by simp) HPL.out HT1.out HWB.out).mono ?_
              rintro e w2 ⟨rfl, hw2, hk2⟩
              have HW2 : Hid _ := hw2
              have HK2 : Hid _ := hk2
              clear hw2 hk2 x0 x1 x2 x3 x4 c0
              go_wp2_with fail
              go_loopw [6] (fun i wr => ∃ k : Nat, k ≤ x.subs.length ∧ i = .int .i64 k ∧ Hid (RefW wr p bl G.length (.slice (some ⟨b, o, none⟩) G.length cap) L (vecTo (WF (kindN G) (subsN G) (atN G) L f false) (subsN G n) k (t1.add [35, 40]))) ∧
                  Hid (Kept p bl (wc.alloc (.cells #[.int .i64 x.kind, .string ⟨⟨x.text⟩⟩, .int .i64 x.n, .int .i64 x.d, .slice (some ⟨sb, so, none⟩) x.subs.length x.cap] 26)) wr)) (fun i _ => x.subs.length - (intOf i).toNat)
              case atStart => exact ⟨0, Nat.zero_le _, rfl, HW2.out, HK2.out⟩
              case round =>
                obtain ⟨k, hk, rfl, hwk, hkk⟩ := hrel
                obtain ⟨hbx, hbk', hkk'⟩ := HBOX.out _ hkk.out
                have r4 := hbx 4 _ rfl
                have HBK : Hid _ := hbk'
                have HKK' : Hid _ := hkk'
                clear hbx hbk' hkk'
                by_cases hlt : k < x.subs.length
                · have hcell := HCE.out _ HBK.out k hlt
                  have hv := subsB_at _ _ HXS.out k hlt
                  have HGK : Hid _ := HSG.out k hlt
                  have HOK : Hid _ := HOV.out k hk
                  have HND : Hid _ := HNV.out k
                  by_cases hk0 : k = 0
                  · have HST : Hid (vecTo (WF (kindN G) (subsN G) (atN G) L f false) (subsN G n) (k + 1) (t1.add [35, 40]) = WF (kindN G) (subsN G) (atN G) L f false (vecTo (WF (kindN G) (subsN G) (atN G) L f false) (subsN G n) k (t1.add [35, 40])) (x.subs.getD k 0).toNat) := by
                      show _ = _; rw [← HGK.out]; simp only [vecTo]; rw [if_pos hk0]
                    generalize vecTo (WF (kindN G) (subsN G) (atN G) L f false) (subsN G n) k (t1.add [35, 40]) = tk at *
                    generalize x.subs.getD k 0 = v at *
                    have hkz : (k : Int) ≤ 0 := by omega
                    have HK0 : Hid _ := hk0
                    clear hk0
                    go_wp2_with fail
                    refine (IA.out _ v _ HOK.out hv.1 hv.2 HND.out HBK.out hwk.out).mono ?_
                    rintro e w4 ⟨rfl, hw4, hk4⟩
                    rw [← HST.out] at hw4
                    have HW4 : Hid _ := hw4
                    have HK4 : Hid _ := hkk.out.trans hk4
                    clear hw4 hk4 hwk hkk r4 hcell HBK HKK'
                    go_wp2_with fail
                    go_roundw
                    case rel => exact ⟨k + 1, by omega, by go_num, HW4, HK4⟩
                    case measure => simp [intOf]; omega
                  · have HST : Hid (vecTo (WF (kindN G) (subsN G) (atN G) L f false) (subsN G n) (k + 1) (t1.add [35, 40]) = WF (kindN G) (subsN G) (atN G) L f false ((vecTo (WF (kindN G) (subsN G) (atN G) L f false) (subsN G n) k (t1.add [35, 40])).add [32]) (x.subs.getD k 0).toNat) := by
                      show _ = _; rw [← HGK.out]; simp only [vecTo]; rw [if_neg hk0]
                    generalize vecTo (WF (kindN G) (subsN G) (atN G) L f false) (subsN G n) k (t1.add [35, 40]) = tk at *
                    have hkz : (0 : Int) < (k : Int) := by omega
                    have HOK2 : Hid _ := HOK.out.add [32]
                    have HND2 : Hid _ := Nat.le_trans (need_add tk [32]) HND.out
                    go_wp2_with fail
                    refine (refSay_any p bl _ _ L _ _ [32] (by simp) HPL.out HOK.out hwk.out).mono ?_
                    rintro e w3 ⟨rfl, hw3, hk3⟩
                    have hk3' := hkk.out.trans hk3
                    obtain ⟨hbx, hb3, _⟩ := HBOX.out _ hk3'
                    have q4 := hbx 4 _ rfl
                    have q5 := HCE.out _ hb3 k hlt
                    have HW3 : Hid _ := hw3
                    have HK3 : Hid _ := hk3'
                    have HB3 : Hid _ := hb3
                    clear hw3 hk3 hk3' hbx hb3 hwk hkk r4 hcell HBK HKK'
                    generalize x.subs.getD k 0 = v at *
                    go_wp2_with fail
                    refine (IA.out _ v _ HOK2.out hv.1 hv.2 HND2.out HB3.out HW3.out).mono ?_
                    rintro e w4 ⟨rfl, hw4, hk4⟩
                    rw [← HST.out] at hw4
                    have HW4 : Hid _ := hw4
                    have HK4 : Hid _ := HK3.out.trans hk4
                    clear hw4 hk4 q4 q5 HB3
                    go_wp2_with fail
                    go_roundw
                    case rel => exact ⟨k + 1, by omega, by go_num, HW4, HK4⟩
                    case measure => simp [intOf]; omega
                · have hkl : k = x.subs.length := by omega
                  have HT9 : Hid _ := HOV.out k hk
                  go_wp2_with fail
                  refine (refSay_any p bl _ _ L _ _ [41] (by simp) HPL.out HT9.out hwk.out).mono ?_
                  rintro e w5 ⟨rfl, hw5, hk5⟩
                  rw [hkl, ← HLL.out, ← HV.out] at hw5
                  have HW5 : Hid _ := hw5
                  have HK5 : Hid _ := (HBOX.out _ (hkk.out.trans hk5)).2.2
                  clear hw5 hk5 hwk hkk r4
                  go_wp2_with fail
                  go_end0
                  exact ⟨rfl, HW5.out, HKC.out.trans HK5.out⟩
          · have hb1 : (x.kind == 1) = false := by rw [beq_eq_false_iff_ne]; exact k1
            have hb2 : (x.kind == 2) = false := by rw [beq_eq_false_iff_ne]; exact k2
            have HV : Hid _ := HWF.out
            rw [HKN.out, if_neg k1, if_neg k2, HAN.out] at HV
            have HLN : Hid _ := (atomL_len x HXK.out k1 k2 HXT.out).1
            have HK1 : Hid (x.kind ≠ 1) := k1
            have HK2 : Hid (x.kind ≠ 2) := k2
            clear k1 k2
            go_wp2_with fail
            refine (refAtom_any x _ HXK.out (by exact HK1.out) (by exact HK2.out)).mono ?_
            rintro e w2 ⟨rfl, hb2'⟩
            have hz : (wc.alloc (.cells #[.int .i64 x.kind, .string ⟨⟨x.text⟩⟩, .int .i64 x.n, .int .i64 x.d, .slice x.sa x.subs.length x.cap] 26)).heap.size = wc.heap.size + 1 := World.size_alloc ..
            have HW2 : Hid _ := HWB.out.below hb2' (by rw [hz]; have := HPW.out; omega) (by rw [hz]; have := HBW.out; omega)
            have HKB : Hid _ := Kept.of_below (p := p) (q := bl) hb2'
            clear hb2' hz x0 x1 x2 x3 x4 c0
            go_wp2_with fail
            refine (refSay_any p bl _ _ L t1 _ (atomL x) HLN.out HPL.out HT1.out HW2.out).mono ?_
            rintro e w3 ⟨rfl, hw3, hk3⟩
            have HK4 : Hid _ := (HBOX.out _ (HKB.out.trans hk3)).2.2
            have HW4 : Hid _ := hw3
            clear hw3 hk3
            go_wp2_with fail
            go_end0
            exact ⟨rfl, by rw [HV.out]; exact HW4.out, HKC.out.trans HK4.out⟩
  · have HV : Hid (WF (kindN G) (subsN G) (atN G) L (f + 1) false t n = t) := WF_long _ _ _ _ hlong
    go_enter Tryd.func17, Tryd.ntmps17
    go_wp2_with fail
    refine (refFull_any p bl _ _ L t _ HT.out HW.out).mono ?_
    rw [hlong]; rintro e w1 ⟨rfl, rfl⟩
    go_wp2_with fail
    refine bodyPost_ret (results_none rfl _ _ _) rfl ?_
    exact ⟨rfl, by rw [HV.out]; exact HW.out, Kept.refl _ _ _⟩
end Go.Proofs.YtlhimdjkkiflhaaDoor
