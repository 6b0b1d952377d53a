/- What the law hands over, in memory: nodes, lists of lists, lists. -/
import Derived.Test.YtlhimdjkkiflhaaDoorLaw1
import Derived.Test.YtlhimdjkkiflhaaDoorThroughB
import Derived.Laws.MakeOwn
import Derived.Laws.IdiomCopy
namespace Go.Proofs.YtlhimdjkkiflhaaDoor
open Go.RowKit Go.Loop

/-- five cells: a node of one's own -/
structure CellsN (w : World) (b o : Nat) (x : Nd) : Prop where
  c0 : w.cell? ⟨b, o, none⟩ = some (.int .i64 x.kind)
  c1 : w.cell? ⟨b, o + 1, none⟩ = some (.string ⟨⟨x.text⟩⟩)
  c2 : w.cell? ⟨b, o + 2, none⟩ = some (.int .i64 x.n)
  c3 : w.cell? ⟨b, o + 3, none⟩ = some (.int .i64 x.d)
  c4 : w.cell? ⟨b, o + 4, none⟩ = some (.slice x.sa x.subs.length x.cap)
  f0 : w.frozen? ⟨b, o, none⟩ = false
  f1 : w.frozen? ⟨b, o + 1, none⟩ = false
  f2 : w.frozen? ⟨b, o + 2, none⟩ = false
  f3 : w.frozen? ⟨b, o + 3, none⟩ = false
  f4 : w.frozen? ⟨b, o + 4, none⟩ = false

def setN (w : World) (b o : Nat) (x : Nd) : World :=
  ((((w.setCell ⟨b, o, none⟩ (.int .i64 x.kind)).setCell ⟨b, o + 1, none⟩ (.string ⟨⟨x.text⟩⟩)).setCell ⟨b, o + 2, none⟩ (.int .i64 x.n)).setCell ⟨b, o + 3, none⟩ (.int .i64 x.d)).setCell ⟨b, o + 4, none⟩ (.slice x.sa x.subs.length x.cap)

def zeroN : Nd := ⟨0, [], 0, 0, [], none, 0⟩
def markN (z : Int) : Nd := ⟨z, [], 0, 0, [], none, 0⟩

theorem cell_off {w : World} {b o : Nat} {a : Addr} {v : Value} (h : a ≠ ⟨b, o, none⟩) : (w.setCell ⟨b, o, none⟩ v).cell? a = w.cell? a := World.cell?_setCell_other w _ a v (fun e => h e.symm)
theorem off_ne {b o o' : Nat} (h : o ≠ o') : (⟨b, o, none⟩ : Addr) ≠ ⟨b, o', none⟩ := fun e => h (by injection e)
theorem blk_ne {b b' o o' : Nat} (h : b ≠ b') : (⟨b, o, none⟩ : Addr) ≠ ⟨b', o', none⟩ := fun e => h (by injection e)

theorem CellsN.setAt {w : World} {b o : Nat} {y : Nd} (h : CellsN w b o y) (x : Nd) : CellsN (setN w b o x) b o x := by
  unfold setN
  have e0 := World.cell?_setCell_same w ⟨b, o, none⟩ (.int .i64 x.kind) (h := h.c0)
  refine ⟨?_, ?_, ?_, ?_, ?_, ?_, ?_, ?_, ?_, ?_⟩
  · rw [cell_off (off_ne (by omega)), cell_off (off_ne (by omega)), cell_off (off_ne (by omega)), cell_off (off_ne (by omega))]
    exact World.cell?_setCell_same (h := h.c0) ..
  · rw [cell_off (off_ne (by omega)), cell_off (off_ne (by omega)), cell_off (off_ne (by omega))]
    exact World.cell?_setCell_same (h := by rw [cell_off (off_ne (by omega))]; exact h.c1) ..
  · rw [cell_off (off_ne (by omega)), cell_off (off_ne (by omega))]
    exact World.cell?_setCell_same (h := by rw [cell_off (off_ne (by omega)), cell_off (off_ne (by omega))]; exact h.c2) ..
  · rw [cell_off (off_ne (by omega))]
    exact World.cell?_setCell_same (h := by rw [cell_off (off_ne (by omega)), cell_off (off_ne (by omega)), cell_off (off_ne (by omega))]; exact h.c3) ..
  · exact World.cell?_setCell_same (h := by rw [cell_off (off_ne (by omega)), cell_off (off_ne (by omega)), cell_off (off_ne (by omega)), cell_off (off_ne (by omega))]; exact h.c4) ..
  all_goals simp only [World.frozen?_setCell]
  · exact h.f0
  · exact h.f1
  · exact h.f2
  · exact h.f3
  · exact h.f4

theorem setN_cell {w : World} {b o : Nat} {x : Nd} {a : Addr} (h : a.block ≠ b ∨ a.off < o ∨ o + 5 ≤ a.off) : (setN w b o x).cell? a = w.cell? a := by
  have k : ∀ j, j < 5 → a ≠ ⟨b, o + j, none⟩ := fun j hj e => by
    subst e
    rcases h with h | h | h
    · exact h rfl
    · simp at h; omega
    · simp at h; omega
  unfold setN
  rw [cell_off (k 4 (by omega)), cell_off (k 3 (by omega)), cell_off (k 2 (by omega)), cell_off (k 1 (by omega)), cell_off (o := o) (k 0 (by omega))]
theorem setN_frozen {w : World} {b o : Nat} {x : Nd} (a : Addr) : (setN w b o x).frozen? a = w.frozen? a := by unfold setN; simp only [World.frozen?_setCell]
theorem setN_size {w : World} {b o : Nat} {x : Nd} : (setN w b o x).heap.size = w.heap.size := by unfold setN; simp [World.setCell]
theorem setN_below {B : Nat} {w0 w : World} {b o : Nat} {x : Nd} (h : Below B w0 w) (hb : B ≤ b) : Below B w0 (setN w b o x) := by
  unfold setN
  exact ((((h.setCell hb _).setCell hb _).setCell hb _).setCell hb _).setCell hb _

theorem cells_below {B b : Nat} (hb : B ≤ b) : ∀ (vs : List Value) (o : Nat) (w0 w : World), Below B w0 w → Below B w0 (w.setCells b o vs)
  | [], _, _, _, h => h
  | v :: vs, o, w0, _, h => cells_below hb vs (o + 1) w0 _ (h.setCell (p := ⟨b, o, none⟩) hb v)

/-- cells that are as they were -/
theorem CellsN.same {w w' : World} {b o : Nat} {x : Nd} (h : CellsN w b o x) (hc : ∀ j, j < 5 → w'.cell? ⟨b, o + j, none⟩ = w.cell? ⟨b, o + j, none⟩) (hf : ∀ j, j < 5 → w'.frozen? ⟨b, o + j, none⟩ = w.frozen? ⟨b, o + j, none⟩) : CellsN w' b o x :=
  ⟨(hc 0 (by omega)).trans h.c0, (hc 1 (by omega)).trans h.c1, (hc 2 (by omega)).trans h.c2, (hc 3 (by omega)).trans h.c3, (hc 4 (by omega)).trans h.c4,
    (hf 0 (by omega)).trans h.f0, (hf 1 (by omega)).trans h.f1, (hf 2 (by omega)).trans h.f2, (hf 3 (by omega)).trans h.f3, (hf 4 (by omega)).trans h.f4⟩

/-- at a place another -/
def upd {α : Type} (f : Nat → α) (k : Nat) (x : α) : Nat → α := fun i => if i = k then x else f i
theorem upd_at {α : Type} (f : Nat → α) (k : Nat) (x : α) : upd f k x k = x := by simp [upd]
theorem upd_off {α : Type} (f : Nat → α) (k : Nat) (x : α) {i : Nat} (h : i ≠ k) : upd f k x i = f i := by simp [upd, h]

/-- n + 8 nodes in block B, n lists in block B + 1, the lists themselves in blocks of their own -/
structure HS (w : World) (B n : Nat) (f : Nat → Nd) (v : Nat → Value) (R : Nat → Option Nat) (L : Nat → List Int) : Prop where
  hB : B + 2 ≤ w.heap.size
  out : ∀ i, i < n + 8 → CellsN w B (i * 5) (f i)
  who : ∀ i, i < n → w.cell? ⟨B + 1, i, none⟩ = some (v i) ∧ w.frozen? ⟨B + 1, i, none⟩ = false
  row : ∀ i q, R i = some q → B + 2 ≤ q ∧ q < w.heap.size ∧ RowI w q (L i)
  dis : ∀ i j q, R i = some q → R j = some q → i = j

theorem HS.congr {w : World} {B n : Nat} {f f' : Nat → Nd} {v v' : Nat → Value} {R : Nat → Option Nat} {L L' : Nat → List Int} (h : HS w B n f v R L)
    (hf : ∀ i, i < n + 8 → f i = f' i) (hv : ∀ i, i < n → v i = v' i) (hL : ∀ i q, R i = some q → L i = L' i) : HS w B n f' v' R L' :=
  ⟨h.hB, fun i hi => hf i hi ▸ h.out i hi, fun i hi => hv i hi ▸ h.who i hi, fun i q hq => hL i q hq ▸ h.row i q hq, h.dis⟩

theorem HS.same {w w' : World} {B n : Nat} {f : Nat → Nd} {v : Nat → Value} {R : Nat → Option Nat} {L : Nat → List Int} (h : HS w B n f v R L) (hb : Below w.heap.size w w') : HS w' B n f v R L := by
  have hsz := hb.size
  have hB := h.hB
  have hc : ∀ (b i : Nat), b < w.heap.size → w'.cell? ⟨b, i, none⟩ = w.cell? ⟨b, i, none⟩ := fun b i h1 => hb.cell h1
  have hf : ∀ (b i : Nat), b < w.heap.size → w'.frozen? ⟨b, i, none⟩ = w.frozen? ⟨b, i, none⟩ := fun b i h1 => hb.frozen h1
  refine ⟨by omega, fun i hi => (h.out i hi).same (fun j _ => hc _ _ (by omega)) (fun j _ => hf _ _ (by omega)), fun i hi => ?_, fun i q hq => ?_, h.dis⟩
  · rw [hc _ _ (by omega), hf _ _ (by omega)]; exact h.who i hi
  · obtain ⟨h1, h2, h3⟩ := h.row i q hq
    refine ⟨h1, by omega, fun j hj => ?_⟩
    rw [hc _ _ h2, hf _ _ h2]; exact h3 j hj

theorem HS.node {w : World} {B n : Nat} {f : Nat → Nd} {v : Nat → Value} {R : Nat → Option Nat} {L : Nat → List Int} (h : HS w B n f v R L) {k : Nat} (hk : k < n + 8) (x : Nd) : HS (setN w B (k * 5) x) B n (upd f k x) v R L := by
  refine ⟨by rw [setN_size]; exact h.hB, fun i hi => ?_, fun i hi => ?_, fun i q hq => ?_, h.dis⟩
  · by_cases e : i = k
    · subst e; rw [upd_at]; exact (h.out i hi).setAt x
    · rw [upd_off _ _ _ e]
      refine (h.out i hi).same (fun j hj => setN_cell (Or.inr ?_)) (fun j _ => setN_frozen _)
      show i * 5 + j < k * 5 ∨ k * 5 + 5 ≤ i * 5 + j
      omega
  · rw [setN_cell (Or.inl (show B + 1 ≠ B by omega)), setN_frozen]; exact h.who i hi
  · obtain ⟨h1, h2, h3⟩ := h.row i q hq
    refine ⟨h1, by rw [setN_size]; exact h2, fun j hj => ?_⟩
    rw [setN_cell (Or.inl (show q ≠ B by omega)), setN_frozen]; exact h3 j hj

theorem HS.list {w : World} {B n : Nat} {f : Nat → Nd} {v : Nat → Value} {R : Nat → Option Nat} {L : Nat → List Int} (h : HS w B n f v R L) {k : Nat} (hk : k < n + 8) (a : Option Addr) (cap : Nat) :
    HS (w.setCell ⟨B, k * 5 + 4, none⟩ (.slice a (f k).subs.length cap)) B n (upd f k { f k with sa := a, cap := cap }) v R L := by
  refine ⟨by simpa [World.setCell] using h.hB, fun i hi => ?_, fun i hi => ?_, fun i q hq => ?_, h.dis⟩
  · by_cases e : i = k
    · subst e; rw [upd_at]
      have hc := h.out i hi
      refine ⟨?_, ?_, ?_, ?_, ?_, ?_, ?_, ?_, ?_, ?_⟩
      · rw [cell_off (off_ne (by omega))]; exact hc.c0
      · rw [cell_off (off_ne (by omega))]; exact hc.c1
      · rw [cell_off (off_ne (by omega))]; exact hc.c2
      · rw [cell_off (off_ne (by omega))]; exact hc.c3
      · exact World.cell?_setCell_same (h := hc.c4) ..
      all_goals rw [World.frozen?_setCell]
      · exact hc.f0
      · exact hc.f1
      · exact hc.f2
      · exact hc.f3
      · exact hc.f4
    · rw [upd_off _ _ _ e]
      exact (h.out i hi).same (fun j hj => cell_off (off_ne (by omega))) (fun j _ => World.frozen?_setCell ..)
  · rw [cell_off (blk_ne (by omega)), World.frozen?_setCell]; exact h.who i hi
  · obtain ⟨h1, h2, h3⟩ := h.row i q hq
    refine ⟨h1, by simpa [World.setCell] using h2, fun j hj => ?_⟩
    rw [cell_off (blk_ne (by omega)), World.frozen?_setCell]; exact h3 j hj

theorem HS.whole {w : World} {B n : Nat} {f : Nat → Nd} {v : Nat → Value} {R : Nat → Option Nat} {L : Nat → List Int} (h : HS w B n f v R L) {k : Nat} (_hk : k < n) (x : Value) :
    HS (w.setCell ⟨B + 1, k, none⟩ x) B n f (upd v k x) R L := by
  refine ⟨by simpa [World.setCell] using h.hB, fun i hi => ?_, fun i hi => ?_, fun i q hq => ?_, h.dis⟩
  · exact (h.out i hi).same (fun j hj => cell_off (blk_ne (by omega))) (fun j _ => World.frozen?_setCell ..)
  · rw [World.frozen?_setCell]
    by_cases e : i = k
    · subst e; rw [upd_at]; exact ⟨World.cell?_setCell_same (h := (h.who i hi).1) .., (h.who i hi).2⟩
    · rw [upd_off _ _ _ e, cell_off (off_ne e)]; exact h.who i hi
  · obtain ⟨h1, h2, h3⟩ := h.row i q hq
    refine ⟨h1, by simpa [World.setCell] using h2, fun j hj => ?_⟩
    rw [cell_off (blk_ne (by omega)), World.frozen?_setCell]; exact h3 j hj

theorem HS.fresh {w : World} {B n : Nat} {f : Nat → Nd} {v : Nat → Value} {R : Nat → Option Nat} {L : Nat → List Int} (h : HS w B n f v R L) {k m : Nat} {t : TypeId} :
    HS (w.alloc (.cells (madeCells #[.int .i64 0] m) t)) B n f v (upd R k (some w.heap.size)) (upd L k (List.replicate m 0)) := by
  have hs := h.same (w' := w.alloc (.cells (madeCells #[.int .i64 0] m) t)) below_box
  have hsz : (w.alloc (.cells (madeCells #[.int .i64 0] m) t)).heap.size = w.heap.size + 1 := World.size_alloc ..
  refine ⟨hs.hB, hs.out, hs.who, fun i q hq => ?_, fun i j q hi hj => ?_⟩
  · by_cases e : i = k
    · subst e; rw [upd_at] at hq; rw [upd_at]
      obtain rfl := Option.some.inj hq
      exact ⟨h.hB, by omega, rowI_made (heap_alloc_new w _)⟩
    · rw [upd_off _ _ _ e] at hq; rw [upd_off _ _ _ e]; exact hs.row i q hq
  · by_cases e : i = k
    · by_cases e2 : j = k
      · rw [e, e2]
      · exfalso
        rw [e, upd_at] at hi; rw [upd_off _ _ _ e2] at hj
        have := (h.row j q hj).2.1
        have := Option.some.inj hi
        omega
    · by_cases e2 : j = k
      · exfalso
        rw [e2, upd_at] at hj; rw [upd_off _ _ _ e] at hi
        have := (h.row i q hi).2.1
        have := Option.some.inj hj
        omega
      · rw [upd_off _ _ _ e] at hi; rw [upd_off _ _ _ e2] at hj; exact h.dis i j q hi hj

theorem HS.number {w : World} {B n : Nat} {f : Nat → Nd} {v : Nat → Value} {R : Nat → Option Nat} {L : Nat → List Int} (h : HS w B n f v R L) {k q a : Nat} (hq : R k = some q) (ha : a < (L k).length) (z : Int) :
    HS (w.setCell ⟨q, a, none⟩ (.int .i64 z)) B n f v R (upd L k ((L k).set a z)) := by
  obtain ⟨g1, g2, g3⟩ := h.row k q hq
  refine ⟨by simpa [World.setCell] using h.hB, fun i hi => ?_, fun i hi => ?_, fun i q' hq' => ?_, h.dis⟩
  · exact (h.out i hi).same (fun j hj => cell_off (blk_ne (by omega))) (fun j _ => World.frozen?_setCell ..)
  · rw [cell_off (blk_ne (by omega)), World.frozen?_setCell]; exact h.who i hi
  · obtain ⟨h1, h2, h3⟩ := h.row i q' hq'
    refine ⟨h1, by simpa [World.setCell] using h2, ?_⟩
    by_cases e : i = k
    · subst e; rw [upd_at]
      rw [hq] at hq'; obtain rfl := Option.some.inj hq'
      exact h3.set a ha z
    · rw [upd_off _ _ _ e]
      exact h3.far (fun x => e (h.dis i k q (by rw [hq']; exact congrArg some x.symm) hq)) _

theorem HS.copy {w : World} {B n : Nat} {f : Nat → Nd} {v : Nat → Value} {R : Nat → Option Nat} {L : Nat → List Int} (h : HS w B n f v R L) {k q : Nat} (hq : R k = some q) (l : List Int) (hl : l.length ≤ (L k).length) :
    HS (w.setCells q 0 (l.map (Value.int .i64))) B n f v R (upd L k (l ++ (L k).drop l.length)) := by
  obtain ⟨g1, g2, g3⟩ := h.row k q hq
  have hfar : ∀ (b i : Nat), b ≠ q → (w.setCells q 0 (l.map (Value.int .i64))).cell? ⟨b, i, none⟩ = w.cell? ⟨b, i, none⟩ := fun b i hb => World.cell?_setCells_out q _ 0 w _ (fun e => absurd e hb)
  have hfz : ∀ a, (w.setCells q 0 (l.map (Value.int .i64))).frozen? a = w.frozen? a := fun a => World.frozen?_setCells q _ 0 w a
  have hsz : w.heap.size ≤ (w.setCells q 0 (l.map (Value.int .i64))).heap.size := (cells_below (B := 0) (b := q) (Nat.zero_le _) _ 0 w w (Below.refl _ _)).size
  have hB := h.hB
  refine ⟨by omega, fun i hi => ?_, fun i hi => ?_, fun i q' hq' => ?_, h.dis⟩
  · exact (h.out i hi).same (fun j hj => hfar _ _ (by omega)) (fun j _ => hfz _)
  · rw [hfar _ _ (by omega), hfz]; exact h.who i hi
  · obtain ⟨h1, h2, h3⟩ := h.row i q' hq'
    refine ⟨h1, by omega, ?_⟩
    by_cases e : i = k
    · subst e; rw [upd_at]
      rw [hq] at hq'; obtain rfl := Option.some.inj hq'
      intro j hj
      rw [hfz]
      have hlen : (l ++ (L i).drop l.length).length = (L i).length := by simp; omega
      rw [hlen] at hj
      refine ⟨?_, (h3 j hj).2⟩
      by_cases hj2 : j < l.length
      · have := World.cell?_setCells_in q (l.map (Value.int .i64)) 0 w (fun j hj => by rw [Nat.zero_add, (h3 j (by simp at hj; omega)).1]; rfl) j (by simpa using hj2)
        rw [Nat.zero_add] at this
        rw [this]
        simp [List.getD, List.getElem?_append, hj2]
      · rw [World.cell?_setCells_out q _ 0 w _ (fun _ _ => Or.inr (by simp; omega)), (h3 j hj).1]
        simp [List.getD, List.getElem?_append, hj2, show l.length + (j - l.length) = j by omega]
    · rw [upd_off _ _ _ e]
      intro j hj
      rw [hfar _ _ (fun x => e (h.dis i k q (by rw [hq', x]) hq)), hfz]; exact h3 j hj
end Go.Proofs.YtlhimdjkkiflhaaDoor
