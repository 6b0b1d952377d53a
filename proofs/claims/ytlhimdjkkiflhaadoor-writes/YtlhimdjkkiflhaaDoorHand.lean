/- What the law hands over, in memory: nodes, lists of lists, lists. -/
import Derived.Test.YtlhimdjkkiflhaaDoorLaw1
import Derived.Test.YtlhimdjkkiflhaaDoorThroughB
import Derived.Laws.MakeOwn
import Derived.Laws.IdiomCopy
import Derived.Deep.MidRow
namespace Go.Proofs.YtlhimdjkkiflhaaDoor
open Go.RowKit Go.Loop

/-- five cells: a node of one's own -/
structure CellsN (w : World) (b o : Nat) (x : Nd) : Prop where
  c0 : w.cell? ⟨b, o, none⟩ = some (.int .i64 x.kind)
  c1 : w.cell? ⟨b, o + 1, none⟩ = some (.string ⟨⟨x.text⟩⟩)
  c2 : w.cell? ⟨b, o + 2, none⟩ = some (.int .i64 x.n)
  c3 : w.cell? ⟨b, o + 3, none⟩ = some (.int .i64 x.d)
  c4 : w.cell? ⟨b, o + 4, none⟩ = some (.slice x.sa x.subs.length x.cap)
  f0 : w.frozen? ⟨b, o, none⟩ = false
  f1 : w.frozen? ⟨b, o + 1, none⟩ = false
  f2 : w.frozen? ⟨b, o + 2, none⟩ = false
  f3 : w.frozen? ⟨b, o + 3, none⟩ = false
  f4 : w.frozen? ⟨b, o + 4, none⟩ = false

def setN (w : World) (b o : Nat) (x : Nd) : World :=
  ((((w.setCell ⟨b, o, none⟩ (.int .i64 x.kind)).setCell ⟨b, o + 1, none⟩ (.string ⟨⟨x.text⟩⟩)).setCell ⟨b, o + 2, none⟩ (.int .i64 x.n)).setCell ⟨b, o + 3, none⟩ (.int .i64 x.d)).setCell ⟨b, o + 4, none⟩ (.slice x.sa x.subs.length x.cap)

def zeroN : Nd := ⟨0, [], 0, 0, [], none, 0⟩
def markN (z : Int) : Nd := ⟨z, [], 0, 0, [], none, 0⟩

theorem cell_off {w : World} {b o : Nat} {a : Addr} {v : Value} (h : a ≠ ⟨b, o, none⟩) : (w.setCell ⟨b, o, none⟩ v).cell? a = w.cell? a := World.cell?_setCell_other w _ a v (fun e => h e.symm)
theorem off_ne {b o o' : Nat} (h : o ≠ o') : (⟨b, o, none⟩ : Addr) ≠ ⟨b, o', none⟩ := fun e => h (by injection e)
theorem blk_ne {b b' o o' : Nat} (h : b ≠ b') : (⟨b, o, none⟩ : Addr) ≠ ⟨b', o', none⟩ := fun e => h (by injection e)

theorem CellsN.setAt {w : World} {b o : Nat} {y : Nd} (h : CellsN w b o y) (x : Nd) : CellsN (setN w b o x) b o x := by
  unfold setN
  have e0 := World.cell?_setCell_same w ⟨b, o, none⟩ (.int .i64 x.kind) (h := h.c0)
  refine ⟨?_, ?_, ?_, ?_, ?_, ?_, ?_, ?_, ?_, ?_⟩
  · rw [cell_off (off_ne (by omega)), cell_off (off_ne (by omega)), cell_off (off_ne (by omega)), cell_off (off_ne (by omega))]
    exact World.cell?_setCell_same (h := h.c0) ..
  · rw [cell_off (off_ne (by omega)), cell_off (off_ne (by omega)), cell_off (off_ne (by omega))]
    exact World.cell?_setCell_same (h := by rw [cell_off (off_ne (by omega))]; exact h.c1) ..
  · rw [cell_off (off_ne (by omega)), cell_off (off_ne (by omega))]
    exact World.cell?_setCell_same (h := by rw [cell_off (off_ne (by omega)), cell_off (off_ne (by omega))]; exact h.c2) ..
  · rw [cell_off (off_ne (by omega))]
    exact World.cell?_setCell_same (h := by rw [cell_off (off_ne (by omega)), cell_off (off_ne (by omega)), cell_off (off_ne (by omega))]; exact h.c3) ..
  · exact World.cell?_setCell_same (h := by rw [cell_off (off_ne (by omega)), cell_off (off_ne (by omega)), cell_off (off_ne (by omega)), cell_off (off_ne (by omega))]; exact h.c4) ..
  all_goals simp only [World.frozen?_setCell]
  · exact h.f0
  · exact h.f1
  · exact h.f2
  · exact h.f3
  · exact h.f4

theorem setN_cell {w : World} {b o : Nat} {x : Nd} {a : Addr} (h : a.block ≠ b ∨ a.off < o ∨ o + 5 ≤ a.off) : (setN w b o x).cell? a = w.cell? a := by
  have k : ∀ j, j < 5 → a ≠ ⟨b, o + j, none⟩ := fun j hj e => by
    subst e
    rcases h with h | h | h
    · exact h rfl
    · simp at h; omega
    · simp at h; omega
  unfold setN
  rw [cell_off (k 4 (by omega)), cell_off (k 3 (by omega)), cell_off (k 2 (by omega)), cell_off (k 1 (by omega)), cell_off (o := o) (k 0 (by omega))]
theorem setN_frozen {w : World} {b o : Nat} {x : Nd} (a : Addr) : (setN w b o x).frozen? a = w.frozen? a := by unfold setN; simp only [World.frozen?_setCell]
theorem setN_size {w : World} {b o : Nat} {x : Nd} : (setN w b o x).heap.size = w.heap.size := by unfold setN; simp [World.setCell]
theorem setN_below {B : Nat} {w0 w : World} {b o : Nat} {x : Nd} (h : Below B w0 w) (hb : B ≤ b) : Below B w0 (setN w b o x) := by
  unfold setN
  exact ((((h.setCell hb _).setCell hb _).setCell hb _).setCell hb _).setCell hb _

theorem cells_below {B b : Nat} (hb : B ≤ b) : ∀ (vs : List Value) (o : Nat) (w0 w : World), Below B w0 w → Below B w0 (w.setCells b o vs)
  | [], _, _, _, h => h
  | v :: vs, o, w0, _, h => cells_below hb vs (o + 1) w0 _ (h.setCell (p := ⟨b, o, none⟩) hb v)

/-- cells that are as they were -/
theorem CellsN.same {w w' : World} {b o : Nat} {x : Nd} (h : CellsN w b o x) (hc : ∀ j, j < 5 → w'.cell? ⟨b, o + j, none⟩ = w.cell? ⟨b, o + j, none⟩) (hf : ∀ j, j < 5 → w'.frozen? ⟨b, o + j, none⟩ = w.frozen? ⟨b, o + j, none⟩) : CellsN w' b o x :=
  ⟨(hc 0 (by omega)).trans h.c0, (hc 1 (by omega)).trans h.c1, (hc 2 (by omega)).trans h.c2, (hc 3 (by omega)).trans h.c3, (hc 4 (by omega)).trans h.c4,
    (hf 0 (by omega)).trans h.f0, (hf 1 (by omega)).trans h.f1, (hf 2 (by omega)).trans h.f2, (hf 3 (by omega)).trans h.f3, (hf 4 (by omega)).trans h.f4⟩

/-- at a place another -/
def upd {α : Type} (f : Nat → α) (k : Nat) (x : α) : Nat → α := fun i => if i = k then x else f i
theorem upd_at {α : Type} (f : Nat → α) (k : Nat) (x : α) : upd f k x k = x := by simp [upd]
theorem upd_off {α : Type} (f : Nat → α) (k : Nat) (x : α) {i : Nat} (h : i ≠ k) : upd f k x i = f i := by simp [upd, h]

/-- n + 8 nodes in block B, n lists in block B + 1, the lists themselves in blocks of their own -/
structure HS (w : World) (B n : Nat) (f : Nat → Nd) (v : Nat → Value) (R : Nat → Option Nat) (L : Nat → List Int) : Prop where
  hB : B + 2 ≤ w.heap.size
  out : ∀ i, i < n + 8 → CellsN w B (i * 5) (f i)
  who : ∀ i, i < n → w.cell? ⟨B + 1, i, none⟩ = some (v i) ∧ w.frozen? ⟨B + 1, i, none⟩ = false
  row : ∀ i q, R i = some q → B + 2 ≤ q ∧ q < w.heap.size ∧ RowI w q (L i)
  dis : ∀ i j q, R i = some q → R j = some q → i = j

theorem HS.congr {w : World} {B n : Nat} {f f' : Nat → Nd} {v v' : Nat → Value} {R : Nat → Option Nat} {L L' : Nat → List Int} (h : HS w B n f v R L)
    (hf : ∀ i, i < n + 8 → f i = f' i) (hv : ∀ i, i < n → v i = v' i) (hL : ∀ i q, R i = some q → L i = L' i) : HS w B n f' v' R L' :=
  ⟨h.hB, fun i hi => hf i hi ▸ h.out i hi, fun i hi => hv i hi ▸ h.who i hi, fun i q hq => hL i q hq ▸ h.row i q hq, h.dis⟩

theorem HS.same {w w' : World} {B n : Nat} {f : Nat → Nd} {v : Nat → Value} {R : Nat → Option Nat} {L : Nat → List Int} (h : HS w B n f v R L) (hb : Below w.heap.size w w') : HS w' B n f v R L := by
  have hsz := hb.size
  have hB := h.hB
  have hc : ∀ (b i : Nat), b < w.heap.size → w'.cell? ⟨b, i, none⟩ = w.cell? ⟨b, i, none⟩ := fun b i h1 => hb.cell h1
  have hf : ∀ (b i : Nat), b < w.heap.size → w'.frozen? ⟨b, i, none⟩ = w.frozen? ⟨b, i, none⟩ := fun b i h1 => hb.frozen h1
  refine ⟨by omega, fun i hi => (h.out i hi).same (fun j _ => hc _ _ (by omega)) (fun j _ => hf _ _ (by omega)), fun i hi => ?_, fun i q hq => ?_, h.dis⟩
  · rw [hc _ _ (by omega), hf _ _ (by omega)]; exact h.who i hi
  · obtain ⟨h1, h2, h3⟩ := h.row i q hq
    refine ⟨h1, by omega, fun j hj => ?_⟩
    rw [hc _ _ h2, hf _ _ h2]; exact h3 j hj

theorem HS.node {w : World} {B n : Nat} {f : Nat → Nd} {v : Nat → Value} {R : Nat → Option Nat} {L : Nat → List Int} (h : HS w B n f v R L) {k : Nat} (hk : k < n + 8) (x : Nd) : HS (setN w B (k * 5) x) B n (upd f k x) v R L := by
  refine ⟨by rw [setN_size]; exact h.hB, fun i hi => ?_, fun i hi => ?_, fun i q hq => ?_, h.dis⟩
  · by_cases e : i = k
    · subst e; rw [upd_at]; exact (h.out i hi).setAt x
    · rw [upd_off _ _ _ e]
      refine (h.out i hi).same (fun j hj => setN_cell (Or.inr ?_)) (fun j _ => setN_frozen _)
      show i * 5 + j < k * 5 ∨ k * 5 + 5 ≤ i * 5 + j
      omega
  · rw [setN_cell (Or.inl (show B + 1 ≠ B by omega)), setN_frozen]; exact h.who i hi
  · obtain ⟨h1, h2, h3⟩ := h.row i q hq
    refine ⟨h1, by rw [setN_size]; exact h2, fun j hj => ?_⟩
    rw [setN_cell (Or.inl (show q ≠ B by omega)), setN_frozen]; exact h3 j hj

theorem HS.list {w : World} {B n : Nat} {f : Nat → Nd} {v : Nat → Value} {R : Nat → Option Nat} {L : Nat → List Int} (h : HS w B n f v R L) {k : Nat} (hk : k < n + 8) (a : Option Addr) (cap : Nat) :
    HS (w.setCell ⟨B, k * 5 + 4, none⟩ (.slice a (f k).subs.length cap)) B n (upd f k { f k with sa := a, cap := cap }) v R L := by
  refine ⟨by simpa [World.setCell] using h.hB, fun i hi => ?_, fun i hi => ?_, fun i q hq => ?_, h.dis⟩
  · by_cases e : i = k
    · subst e; rw [upd_at]
      have hc := h.out i hi
      refine ⟨?_, ?_, ?_, ?_, ?_, ?_, ?_, ?_, ?_, ?_⟩
      · rw [cell_off (off_ne (by omega))]; exact hc.c0
      · rw [cell_off (off_ne (by omega))]; exact hc.c1
      · rw [cell_off (off_ne (by omega))]; exact hc.c2
      · rw [cell_off (off_ne (by omega))]; exact hc.c3
      · exact World.cell?_setCell_same (h := hc.c4) ..
      all_goals rw [World.frozen?_setCell]
      · exact hc.f0
      · exact hc.f1
      · exact hc.f2
      · exact hc.f3
      · exact hc.f4
    · rw [upd_off _ _ _ e]
      exact (h.out i hi).same (fun j hj => cell_off (off_ne (by omega))) (fun j _ => World.frozen?_setCell ..)
  · rw [cell_off (blk_ne (by omega)), World.frozen?_setCell]; exact h.who i hi
  · obtain ⟨h1, h2, h3⟩ := h.row i q hq
    refine ⟨h1, by simpa [World.setCell] using h2, fun j hj => ?_⟩
    rw [cell_off (blk_ne (by omega)), World.frozen?_setCell]; exact h3 j hj

theorem HS.whole {w : World} {B n : Nat} {f : Nat → Nd} {v : Nat → Value} {R : Nat → Option Nat} {L : Nat → List Int} (h : HS w B n f v R L) {k : Nat} (_hk : k < n) (x : Value) :
    HS (w.setCell ⟨B + 1, k, none⟩ x) B n f (upd v k x) R L := by
  refine ⟨by simpa [World.setCell] using h.hB, fun i hi => ?_, fun i hi => ?_, fun i q hq => ?_, h.dis⟩
  · exact (h.out i hi).same (fun j hj => cell_off (blk_ne (by omega))) (fun j _ => World.frozen?_setCell ..)
  · rw [World.frozen?_setCell]
    by_cases e : i = k
    · subst e; rw [upd_at]; exact ⟨World.cell?_setCell_same (h := (h.who i hi).1) .., (h.who i hi).2⟩
    · rw [upd_off _ _ _ e, cell_off (off_ne e)]; exact h.who i hi
  · obtain ⟨h1, h2, h3⟩ := h.row i q hq
    refine ⟨h1, by simpa [World.setCell] using h2, fun j hj => ?_⟩
    rw [cell_off (blk_ne (by omega)), World.frozen?_setCell]; exact h3 j hj

theorem HS.fresh {w : World} {B n : Nat} {f : Nat → Nd} {v : Nat → Value} {R : Nat → Option Nat} {L : Nat → List Int} (h : HS w B n f v R L) {k m : Nat} {t : TypeId} :
    HS (w.alloc (.cells (madeCells #[.int .i64 0] m) t)) B n f v (upd R k (some w.heap.size)) (upd L k (List.replicate m 0)) := by
  have hs := h.same (w' := w.alloc (.cells (madeCells #[.int .i64 0] m) t)) below_box
  have hsz : (w.alloc (.cells (madeCells #[.int .i64 0] m) t)).heap.size = w.heap.size + 1 := World.size_alloc ..
  refine ⟨hs.hB, hs.out, hs.who, fun i q hq => ?_, fun i j q hi hj => ?_⟩
  · by_cases e : i = k
    · subst e; rw [upd_at] at hq; rw [upd_at]
      obtain rfl := Option.some.inj hq
      exact ⟨h.hB, by omega, rowI_made (heap_alloc_new w _)⟩
    · rw [upd_off _ _ _ e] at hq; rw [upd_off _ _ _ e]; exact hs.row i q hq
  · by_cases e : i = k
    · by_cases e2 : j = k
      · rw [e, e2]
      · exfalso
        rw [e, upd_at] at hi; rw [upd_off _ _ _ e2] at hj
        have := (h.row j q hj).2.1
        have := Option.some.inj hi
        omega
    · by_cases e2 : j = k
      · exfalso
        rw [e2, upd_at] at hj; rw [upd_off _ _ _ e] at hi
        have := (h.row i q hi).2.1
        have := Option.some.inj hj
        omega
      · rw [upd_off _ _ _ e] at hi; rw [upd_off _ _ _ e2] at hj; exact h.dis i j q hi hj

theorem HS.number {w : World} {B n : Nat} {f : Nat → Nd} {v : Nat → Value} {R : Nat → Option Nat} {L : Nat → List Int} (h : HS w B n f v R L) {k q a : Nat} (hq : R k = some q) (ha : a < (L k).length) (z : Int) :
    HS (w.setCell ⟨q, a, none⟩ (.int .i64 z)) B n f v R (upd L k ((L k).set a z)) := by
  obtain ⟨g1, g2, g3⟩ := h.row k q hq
  refine ⟨by simpa [World.setCell] using h.hB, fun i hi => ?_, fun i hi => ?_, fun i q' hq' => ?_, h.dis⟩
  · exact (h.out i hi).same (fun j hj => cell_off (blk_ne (by omega))) (fun j _ => World.frozen?_setCell ..)
  · rw [cell_off (blk_ne (by omega)), World.frozen?_setCell]; exact h.who i hi
  · obtain ⟨h1, h2, h3⟩ := h.row i q' hq'
    refine ⟨h1, by simpa [World.setCell] using h2, ?_⟩
    by_cases e : i = k
    · subst e; rw [upd_at]
      rw [hq] at hq'; obtain rfl := Option.some.inj hq'
      exact h3.set a ha z
    · rw [upd_off _ _ _ e]
      exact h3.far (fun x => e (h.dis i k q (by rw [hq']; exact congrArg some x.symm) hq)) _

theorem HS.copy {w : World} {B n : Nat} {f : Nat → Nd} {v : Nat → Value} {R : Nat → Option Nat} {L : Nat → List Int} (h : HS w B n f v R L) {k q : Nat} (hq : R k = some q) (l : List Int) (hl : l.length ≤ (L k).length) :
    HS (w.setCells q 0 (l.map (Value.int .i64))) B n f v R (upd L k (l ++ (L k).drop l.length)) := by
  obtain ⟨g1, g2, g3⟩ := h.row k q hq
  have hfar : ∀ (b i : Nat), b ≠ q → (w.setCells q 0 (l.map (Value.int .i64))).cell? ⟨b, i, none⟩ = w.cell? ⟨b, i, none⟩ := fun b i hb => World.cell?_setCells_out q _ 0 w _ (fun e => absurd e hb)
  have hfz : ∀ a, (w.setCells q 0 (l.map (Value.int .i64))).frozen? a = w.frozen? a := fun a => World.frozen?_setCells q _ 0 w a
  have hsz : w.heap.size ≤ (w.setCells q 0 (l.map (Value.int .i64))).heap.size := (cells_below (B := 0) (b := q) (Nat.zero_le _) _ 0 w w (Below.refl _ _)).size
  have hB := h.hB
  refine ⟨by omega, fun i hi => ?_, fun i hi => ?_, fun i q' hq' => ?_, h.dis⟩
  · exact (h.out i hi).same (fun j hj => hfar _ _ (by omega)) (fun j _ => hfz _)
  · rw [hfar _ _ (by omega), hfz]; exact h.who i hi
  · obtain ⟨h1, h2, h3⟩ := h.row i q' hq'
    refine ⟨h1, by omega, ?_⟩
    by_cases e : i = k
    · subst e; rw [upd_at]
      rw [hq] at hq'; obtain rfl := Option.some.inj hq'
      intro j hj
      rw [hfz]
      have hlen : (l ++ (L i).drop l.length).length = (L i).length := by simp; omega
      rw [hlen] at hj
      refine ⟨?_, (h3 j hj).2⟩
      by_cases hj2 : j < l.length
      · have := World.cell?_setCells_in q (l.map (Value.int .i64)) 0 w (fun j hj => by rw [Nat.zero_add, (h3 j (by simp at hj; omega)).1]; rfl) j (by simpa using hj2)
        rw [Nat.zero_add] at this
        rw [this]
        simp [List.getD, List.getElem?_append, hj2]
      · rw [World.cell?_setCells_out q _ 0 w _ (fun _ _ => Or.inr (by simp; omega)), (h3 j hj).1]
        simp [List.getD, List.getElem?_append, hj2, show l.length + (j - l.length) = j by omega]
    · rw [upd_off _ _ _ e]
      intro j hj
      rw [hfar _ _ (fun x => e (h.dis i k q (by rw [hq', x]) hq)), hfz]; exact h3 j hj
end Go.Proofs.YtlhimdjkkiflhaaDoor

/- The law hands nodes over: copies, with room behind them. -/
namespace Go.Proofs.YtlhimdjkkiflhaaDoor
open Go.RowKit Go.Loop

theorem infoNode : (Tryd.prog.info? 26).map (fun i => (i.zero, i.size, i.bytes)) = some (some (.agg #[.int .i64 0, .string ⟨#[]⟩, .int .i64 0, .int .i64 0, .slice none 0 0]), 5, 64) := by kernel_rfl
theorem infoInts : (Tryd.prog.info? 24).map (fun i => (i.zero, i.size, i.bytes)) = some (some (.slice none 0 0), 1, 24) := by kernel_rfl

theorem infoNode5 : (Tryd.prog.info? 26).map (·.size) = some 5 := by kernel_rfl
theorem oneN (x : Nd) : (#[.int .i64 x.kind, .string ⟨⟨x.text⟩⟩, .int .i64 x.n, .int .i64 x.d, .slice x.sa x.subs.length x.cap] : Array Value).all (·.oneCell') = true := by simp [Value.oneCell']
theorem CellsN.there {w : World} {b o : Nat} {x : Nd} (h : CellsN w b o x) : w.there b o 5 := by
  intro j hj
  have : j = 0 ∨ j = 1 ∨ j = 2 ∨ j = 3 ∨ j = 4 := by omega
  rcases this with rfl | rfl | rfl | rfl | rfl
  · exact ⟨by rw [show o + 0 = o from rfl, h.c0]; rfl, h.f0⟩
  · exact ⟨by rw [h.c1]; rfl, h.f1⟩
  · exact ⟨by rw [h.c2]; rfl, h.f2⟩
  · exact ⟨by rw [h.c3]; rfl, h.f3⟩
  · exact ⟨by rw [h.c4]; rfl, h.f4⟩
theorem intSize : (Tryd.prog.info? 3).map (·.size) = some 1 := by kernel_rfl
theorem copy_ints {w : World} {ad : Addr} {sb : List Int} {q : Nat} (h : IntsAt w (some ad) sb) (cp : Nat) (ty : TypeId) (hd : ∀ j, j < sb.length + 8 → (w.cell? ⟨q, j, none⟩).isSome = true ∧ w.frozen? ⟨q, j, none⟩ = false) :
    (Builtin.copy_ #[24, 24] ty #[.slice (some ⟨q, 0, none⟩) (sb.length + 8) (sb.length + 8), .slice (some ad) sb.length cp]).run Tryd.prog w = .ok (goInt (sb.map (Value.int .i64)).length) (w.setCells q 0 (sb.map (Value.int .i64))) := by
  refine run_copy_cells w 24 24 ty 3 q 0 (sb.length + 8) (sb.length + 8) ad sb.length cp (sb.map (Value.int .i64)) Tryd.underlying24 intSize (by rw [List.length_map]; show _ = min _ _; omega) (fun j v hv => ?_) (fun j hj => ?_) (fun j hj => ?_) (fun v hv => ?_)
  · rcases h with rfl | ⟨b, o, e, hc⟩
    · simp at hv
    · obtain rfl := Option.some.inj e
      rw [List.getElem?_map] at hv
      obtain ⟨z, hz, rfl⟩ := Option.map_eq_some_iff.1 hv
      obtain ⟨hj, _⟩ := List.getElem?_eq_some_iff.1 hz
      rw [Addr.add_mid, hc j hj]
      simp [List.getD, hz]
  · rw [Nat.zero_add]; exact (hd j (by simp at hj; omega)).1
  · rw [Nat.zero_add]; exact (hd j (by simp at hj; omega)).2
  · obtain ⟨z, _, rfl⟩ := List.mem_map.1 hv; rfl
theorem mark_set (sb : List Int) (m : Nat) (hm : m < 8) : (sb ++ (List.replicate m (-77) ++ List.replicate (8 - m) 0)).set (sb.length + m) (-77) = sb ++ (List.replicate (m + 1) (-77) ++ List.replicate (8 - (m + 1)) 0) := by
  rw [List.set_append_right _ _ (by omega), show sb.length + m - sb.length = m by omega, List.set_append_right _ _ (by simp)]
  simp only [List.length_replicate, Nat.sub_self]
  rw [show 8 - m = (8 - (m + 1)) + 1 by omega, List.replicate_succ, List.set_cons_zero, List.replicate_succ']
  simp
/-- a node is stored -/
theorem store_node {ops : Array Oper} {rest : List Oper} {tx : TypeId} {pos : String} {after : Array Edge} {i j : Nat} {a : Act} {w : World} {Q : Exit → Act → World → Prop} (b o : Nat) (x : Nd) (ht : w.there b o 5)
    (hx : a.eval (.tmp i) = .pointer (some ⟨b, o, none⟩)) (hy : a.eval (.tmp j) = nodeV x) (h : wpList Tryd.prog ops Q rest a (setN w b o x)) :
    wpList Tryd.prog ops Q ({ dst := none, op := .store 26 (.tmp i) (.tmp j), type := tx, pos := pos, after := after, guard := none } :: rest) a w :=
  wpList_store_mid rfl 26 _ _ rfl b o _ hx hy ht infoNode5 (oneN x) h
theorem make_nodes (n : Nat) (hn : n ≤ 2199023255552) (w : World) : (Instr.makeSlice 22 (.int .i64 ((n : Int) + 8)) (.int .i64 ((n : Int) + 8))).run Tryd.prog w =
    .ok (.slice (some ⟨w.heap.size, 0, none⟩) (n + 8) (n + 8)) (w.alloc (.cells (madeCells #[.int .i64 0, .string ⟨#[]⟩, .int .i64 0, .int .i64 0, .slice none 0 0] ((n + 8) * 5)) 26)) := by
  obtain ⟨i, hi, hzz⟩ := Option.map_eq_some_iff.1 infoNode
  simp only [Prod.mk.injEq] at hzz
  obtain ⟨hz, hs, hb⟩ := hzz
  have h := run_make (P := Tryd.prog) w 22 26 i _ Tryd.underlying22 hi hz .i64 .i64 ((n : Int) + 8) ((n : Int) + 8) (by omega) (Int.le_refl _) (by rw [hb]; omega) (by omega)
  rw [h, hs, show ((n : Int) + 8).toNat = n + 8 by omega]
  rfl
theorem make_ints (n : Nat) (hn : n ≤ 17592186044416) (w : World) : (Instr.makeSlice 24 (.int .i64 ((n : Int) + 8)) (.int .i64 ((n : Int) + 8))).run Tryd.prog w =
    .ok (.slice (some ⟨w.heap.size, 0, none⟩) (n + 8) (n + 8)) (w.alloc (.cells (madeCells #[.int .i64 0] (n + 8)) 3)) := by
  have h := run_make_row' (P := Tryd.prog) 24 3 (.int .i64 0) 8 Tryd.underlying24 infoInt rfl .i64 .i64 (n + 8) (by omega) (by omega) w
  rw [show ((n + 8 : Nat) : Int) = (n : Int) + 8 by omega] at h
  exact h

/-- a node that is handed over -/
def hN (x : Nd) (p : Option Nat) : Nd := match p with | none => x | some q => { x with sa := some ⟨q, 0, none⟩, cap := x.subs.length + 8 }
def outN (G : List Nd) (R : Nat → Option Nat) (i : Nat) : Nd := match G[i]? with | some x => hN x (R i) | none => markN (-77)
def whV (G : List Nd) (R : Nat → Option Nat) (i : Nat) : Value := match G[i]?, R i with | some x, some q => .slice (some ⟨q, 0, none⟩) (x.subs.length + 8) (x.subs.length + 8) | _, _ => .slice none 0 0
def rowL (G : List Nd) (i : Nat) : List Int := match G[i]? with | some x => x.subs ++ List.replicate 8 (-77) | none => []
theorem outN_at (G : List Nd) (R : Nat → Option Nat) (i : Nat) (h : i < G.length) : outN G R i = hN G[i] (R i) := by unfold outN; rw [List.getElem?_eq_getElem h]
theorem outN_off (G : List Nd) (R : Nat → Option Nat) (i : Nat) (h : G.length ≤ i) : outN G R i = markN (-77) := by unfold outN; rw [List.getElem?_eq_none h]
theorem rowL_at (G : List Nd) (i : Nat) (h : i < G.length) : rowL G i = G[i].subs ++ List.replicate 8 (-77) := by unfold rowL; rw [List.getElem?_eq_getElem h]

/-- where a node has no list, none was made -/
def Fit (G : List Nd) (R : Nat → Option Nat) (k : Nat) : Prop := ∀ i (h : i < G.length), i < k → (R i = none → G[i].sa = none) ∧ (G[i].sa = none → R i = none)

theorem made_zero {w : World} {b n : Nat} {t : TypeId} (h : w.heap[b]? = some (.cells (madeCells #[.int .i64 0, .string ⟨#[]⟩, .int .i64 0, .int .i64 0, .slice none 0 0] (n * 5)) t (0, 0))) :
    ∀ i, i < n → CellsN w b (i * 5) zeroN := by
  intro i hi
  have hc : ∀ j, j < 5 → w.cell? ⟨b, i * 5 + j, none⟩ = some (#[.int .i64 0, .string ⟨#[]⟩, .int .i64 0, .int .i64 0, .slice none 0 0][j]!) := fun j hj => by
    unfold World.cell?; simp only [h]
    have e : (i * 5 + j) % 5 = j := by omega
    simp [madeCells, show i * 5 + j < n * 5 by omega, e]
  have hf : ∀ o, w.frozen? ⟨b, o, none⟩ = false := fun o => by unfold World.frozen?; simp only [h]; simp
  exact ⟨hc 0 (by omega), hc 1 (by omega), hc 2 (by omega), hc 3 (by omega), hc 4 (by omega), hf _, hf _, hf _, hf _, hf _⟩
theorem made_nil {w : World} {b n : Nat} {t : TypeId} (h : w.heap[b]? = some (.cells (madeCells #[.slice none 0 0] n) t (0, 0))) :
    ∀ i, i < n → w.cell? ⟨b, i, none⟩ = some (.slice none 0 0) ∧ w.frozen? ⟨b, i, none⟩ = false := by
  intro i hi
  refine ⟨?_, by unfold World.frozen?; simp only [h]; simp⟩
  unfold World.cell?; simp only [h]
  simp [madeCells, hi, Nat.mod_one]

/-- nothing was handed over yet -/
theorem hs_start (w : World) (n : Nat) (t1 t2 : TypeId) (L : Nat → List Int) : HS ((w.alloc (.cells (madeCells #[.int .i64 0, .string ⟨#[]⟩, .int .i64 0, .int .i64 0, .slice none 0 0] ((n + 8) * 5)) t1)).alloc (.cells (madeCells #[.slice none 0 0] n) t2))
    w.heap.size n (fun _ => zeroN) (fun _ => .slice none 0 0) (fun _ => none) L := by
  refine ⟨by simp, made_zero (t := t1) ?_, made_nil (t := t2) ?_, fun i q hq => by simp at hq, fun i j q hq => by simp at hq⟩
  · exact (Lib.alloc_old _ _ _ (by simp)).trans (heap_alloc_new w _)
  · have := heap_alloc_new (w.alloc (.cells (madeCells #[.int .i64 0, .string ⟨#[]⟩, .int .i64 0, .int .i64 0, .slice none 0 0] ((n + 8) * 5)) t1)) (.cells (madeCells #[.slice none 0 0] n) t2)
    rw [World.size_alloc] at this
    exact this

theorem handed_none {G : List Nd} {R : Nat → Option Nat} {w : World} {B k : Nat} {hk : k < G.length} {x : Nd} (hx : G[k] = x) (hR : R k = none)
    (h : HS w B G.length (upd (fun i => if i < k then outN G R i else zeroN) k x) (fun i => if i < k then whV G R i else .slice none 0 0) R (rowL G)) :
    HS w B G.length (fun i => if i < k + 1 then outN G R i else zeroN) (fun i => if i < k + 1 then whV G R i else .slice none 0 0) R (rowL G) := by
  refine h.congr (fun i hi => ?_) (fun i hi => ?_) (fun _ _ _ => rfl)
  · by_cases e : i = k
    · subst e; rw [upd_at, if_pos (by omega), outN_at G R i hk, hR, hx]; rfl
    · rw [upd_off _ _ _ e]
      by_cases h : i < k
      · rw [if_pos h, if_pos (by omega)]
      · rw [if_neg h, if_neg (by omega)]
  · by_cases e : i = k
    · subst e; rw [if_neg (by omega), if_pos (by omega)]; unfold whV; rw [hR]; cases G[i]? <;> rfl
    · by_cases h : i < k
      · rw [if_pos h, if_pos (by omega)]
      · rw [if_neg h, if_neg (by omega)]
theorem handed_some {G : List Nd} {R : Nat → Option Nat} {w : World} {B k q : Nat} {hk : k < G.length} {kd nn dd : Int} {tx : List UInt8} {sb : List Int} {ad : Addr} {cp : Nat} (hx : G[k] = ⟨kd, tx, nn, dd, sb, some ad, cp⟩)
    (h : HS w B G.length (upd (upd (fun i => if i < k then outN G R i else zeroN) k ⟨kd, tx, nn, dd, sb, some ad, cp⟩) k ⟨kd, tx, nn, dd, sb, some ⟨q, 0, none⟩, sb.length + 8⟩) (upd (fun i => if i < k then whV G R i else .slice none 0 0) k (.slice (some ⟨q, 0, none⟩) (sb.length + 8) (sb.length + 8))) (upd R k (some q)) (upd (rowL G) k (sb ++ (List.replicate 8 (-77) ++ List.replicate (8 - 8) 0)))) :
    HS w B G.length (fun i => if i < k + 1 then outN G (upd R k (some q)) i else zeroN) (fun i => if i < k + 1 then whV G (upd R k (some q)) i else .slice none 0 0) (upd R k (some q)) (rowL G) := by
  refine h.congr (fun i hi => ?_) (fun i hi => ?_) (fun i q' _ => ?_)
  · by_cases e : i = k
    · subst e; rw [upd_at, if_pos (by omega), outN_at G _ i hk, upd_at, hx]; rfl
    · rw [upd_off _ _ _ e, upd_off _ _ _ e]
      by_cases h : i < k
      · rw [if_pos h, if_pos (by omega)]; unfold outN; rw [upd_off _ _ _ e]
      · rw [if_neg h, if_neg (by omega)]
  · by_cases e : i = k
    · subst e; rw [upd_at, if_pos (by omega)]; unfold whV; rw [upd_at, List.getElem?_eq_getElem hk, hx]
    · rw [upd_off _ _ _ e]
      by_cases h : i < k
      · rw [if_pos h, if_pos (by omega)]; unfold whV; rw [upd_off _ _ _ e]
      · rw [if_neg h, if_neg (by omega)]
  · by_cases e : i = k
    · subst e; rw [upd_at, rowL_at G i hk, hx]; simp
    · rw [upd_off _ _ _ e]
theorem fit_some {G : List Nd} {R : Nat → Option Nat} {k q : Nat} (h : Fit G R k) (hk : k < G.length) (hs : G[k].sa ≠ none) : Fit G (upd R k (some q)) (k + 1) := fun i hi hi2 => by
  by_cases e : i = k
  · subst e; rw [upd_at]; exact ⟨fun h => by simp at h, fun h => absurd h hs⟩
  · rw [upd_off _ _ _ e]; exact h i hi (by omega)
theorem fit_next {G : List Nd} {R : Nat → Option Nat} {k : Nat} (h : Fit G R k) (hk : k < G.length) (hs : G[k].sa = none) (hR : R k = none) : Fit G R (k + 1) := fun i hi hi2 => by
  by_cases e : i = k
  · subst e; exact ⟨fun _ => hs, fun _ => hR⟩
  · exact h i hi (by omega)

set_option maxHeartbeats 1000000 in
set_option maxRecDepth 100000 in
theorem handed_any (G : List Nd) (b o cap : Nat) (w : World) (hG : GraphAt w b o G) (hn : G.length ≤ 2199023255552) (hsl : ∀ i (h : i < G.length), G[i].subs.length ≤ 17592186044416) :
    Calls Tryd.prog 6 #[.slice (some ⟨b, o, none⟩) G.length cap] w fun e w' => e = .returned (.tuple #[.slice (some ⟨w.heap.size, 0, none⟩) (G.length + 8) (G.length + 8), .slice (some ⟨w.heap.size + 1, 0, none⟩) G.length G.length]) ∧
      ∃ R, HS w' w.heap.size G.length (outN G R) (whV G R) R (rowL G) ∧ Fit G R G.length ∧ Below w.heap.size w w' := by
  have mkn := make_nodes G.length hn
  have mkw := run_make_row' (P := Tryd.prog) 30 24 (.slice none 0 0) 24 Tryd.underlying30 infoInts rfl .i64 .i64 G.length (by omega) (by omega)
  have eqn := fun w : World => Lib.run_eql_slice_nil (P := Tryd.prog) w 22 26 (some ⟨b, o, none⟩) G.length cap 0 0 Tryd.underlying22
  have HG : Hid _ := hG
  have HSL : Hid _ := hsl
  clear hG hsl
  have HST : Hid _ := hs_start w G.length 26 24 (rowL G)
  have HBS : Hid (Below w.heap.size w ((w.alloc (.cells (madeCells #[.int .i64 0, .string ⟨#[]⟩, .int .i64 0, .int .i64 0, .slice none 0 0] ((G.length + 8) * 5)) 26)).alloc (.cells (madeCells #[.slice none 0 0] G.length) 24))) := below_box.trans (below_box.mono (by simp))
  go_enter Tryd.func6, Tryd.ntmps6
  go_wp2_with fail
  go_loopw [7] (fun i wr => ∃ k R, k ≤ G.length ∧ i = .int .i64 k ∧ Hid (HS wr w.heap.size G.length (fun i => if i < k then outN G R i else zeroN) (fun i => if i < k then whV G R i else .slice none 0 0) R (rowL G)) ∧ Hid (Fit G R k) ∧ Hid (∀ i, k ≤ i → R i = none) ∧ Hid (Below w.heap.size w wr)) (fun i _ => G.length - (intOf i).toNat)
  case atStart => exact ⟨0, fun _ => none, Nat.zero_le _, rfl, HST.out.congr (by simp) (by simp) (by simp), fun i h hk => by omega, fun _ _ => rfl, HBS.out⟩
  case round =>
    obtain ⟨k, R, hk, rfl, hs, hfit, hR, hb⟩ := hrel
    clear mkn mkw HST HBS eqn
    by_cases hlt : k < G.length
    · obtain ⟨c0, c1, c2, c3, c4, hi, ht, hsl⟩ := (HG.out k hlt).below hb.out
      have hsk := HSL.out k hlt
      have hbl := cell_lt ((HG.out k hlt).kind)
      have hth : wr.there w.heap.size (k * 5) 5 := hs.out.out k (by omega) |>.there
      have HX : Hid (HS (setN wr w.heap.size (k * 5) G[k]) w.heap.size G.length _ _ R (rowL G)) := hs.out.node (k := k) (by omega) G[k]
      have HXB : Hid (Below w.heap.size w (setN wr w.heap.size (k * 5) G[k])) := setN_below hb.out (Nat.le_refl _)
      have n4 : (setN wr w.heap.size (k * 5) G[k]).cell? ⟨b, o + k * 5 + 4, none⟩ = some (.slice G[k].sa G[k].subs.length G[k].cap) := by
        rw [setN_cell (Or.inl (show b ≠ w.heap.size by change b < w.heap.size at hbl; omega))]; exact c4
      have HI : Hid (IntsAt w G[k].sa G[k].subs) := (HG.out k hlt).ints
      clear hi ht hsl hs hb hbl
      generalize hgx : G[k] = x at *
      have HGX : Hid (G[k] = x) := hgx
      clear hgx
      obtain ⟨kd, tx, nn, dd, sb, sa, cp⟩ := x
      simp only at c0 c1 c2 c3 c4 n4 hsk
      cases sa with
      | none =>
        have nqn := fun w : World => run_neq_slice_nil (P := Tryd.prog) w 24 3 none sb.length cp Tryd.underlying24
        go_wp2_with ((with_reducible refine store_node w.heap.size (k * 5) ⟨kd, tx, nn, dd, sb, none, cp⟩ hth ?_ ?_ ?_); rfl; rfl)
        go_roundw
        case rel => exact ⟨k + 1, R, by omega, by go_num, handed_none HGX.out (hR.out k (Nat.le_refl _)) HX.out, fit_next hfit.out hlt (by rw [HGX.out]) (by rw [hR.out k (Nat.le_refl _)]), fun i hi => hR.out i (by omega), HXB.out⟩
        case measure => simp [intOf]; omega
      | some ad =>
        have nqn := fun w : World => run_neq_slice_nil (P := Tryd.prog) w 24 3 (some ad) sb.length cp Tryd.underlying24
        have mki := make_ints sb.length hsk
        obtain ⟨w1, hw1⟩ : ∃ w1, Hid (w1 = setN wr w.heap.size (k * 5) ⟨kd, tx, nn, dd, sb, some ad, cp⟩) := ⟨_, rfl⟩
        rw [← hw1.out] at HX HXB n4
        go_upto_region 13 with ((with_reducible refine store_node w.heap.size (k * 5) ⟨kd, tx, nn, dd, sb, some ad, cp⟩ hth ?_ ?_ ?_); rfl; rfl; rw [← hw1.out])
        clear mki nqn c0 c1 c2 c3 c4 hth hw1 n4
        obtain ⟨q, hq⟩ : ∃ q, q = w1.heap.size := ⟨_, rfl⟩
        obtain ⟨w2, hw2⟩ : ∃ w2, w2 = w1.alloc (.cells (madeCells #[.int .i64 0] (sb.length + 8)) 3) := ⟨_, rfl⟩
        have HY : Hid _ := HX.out.fresh (k := k) (m := sb.length + 8) (t := 3)
        have HYB : Hid (Below w.heap.size w w2) := by show Below _ _ _; rw [hw2]; exact HXB.out.alloc HXB.out.size _
        rw [← hw2, ← hq] at HY
        rw [← hw2, ← hq]
        clear hw2 hq HX HXB
        have n42 : w2.cell? ⟨b, o + k * 5 + 4, none⟩ = some (.slice (some ad) sb.length cp) := by
          have := ((HG.out k hlt).below HYB.out).subs
          rw [HGX.out] at this; exact this
        have hqk : upd R k (some q) k = some q := upd_at _ _ _
        have cpy : ∀ ty, (Builtin.copy_ #[24, 24] ty #[.slice (some ⟨q, 0, none⟩) (sb.length + 8) (sb.length + 8), .slice (some ad) sb.length cp]).run Tryd.prog w2 = .ok (goInt (sb.map (Value.int .i64)).length) (w2.setCells q 0 (sb.map (Value.int .i64))) := fun ty =>
          copy_ints (HI.out.below HYB.out) cp ty (fun j hj => by
            have := (HY.out.row k q hqk).2.2 j (by rw [upd_at]; simpa using hj)
            rw [this.1]; exact ⟨rfl, this.2⟩)
        have HZ : Hid (HS (w2.setCells q 0 (sb.map (Value.int .i64))) w.heap.size G.length (upd (fun i => if i < k then outN G R i else zeroN) k ⟨kd, tx, nn, dd, sb, some ad, cp⟩) (fun i => if i < k then whV G R i else .slice none 0 0) (upd R k (some q)) (upd (rowL G) k (sb ++ (List.replicate 0 (-77) ++ List.replicate 8 0)))) := by
          refine (HY.out.copy hqk sb (by rw [upd_at]; simp)).congr (fun _ _ => rfl) (fun _ _ => rfl) (fun i q' _ => ?_)
          by_cases e : i = k
          · subst e; rw [upd_at, upd_at, upd_at]; simp
          · rw [upd_off _ _ _ e, upd_off _ _ _ e, upd_off _ _ _ e]
        have HZB : Hid (Below w.heap.size w (w2.setCells q 0 (sb.map (Value.int .i64)))) := cells_below (by have := (HY.out.row k q hqk).1; omega) _ _ _ _ HYB.out
        clear HY HYB
        go_wp2_with fail
        go_loopw [10] (fun i wq => ∃ m : Nat, m ≤ 8 ∧ i = .int .i64 ((sb.length : Int) + m) ∧ Hid (HS wq w.heap.size G.length (upd (fun i => if i < k then outN G R i else zeroN) k ⟨kd, tx, nn, dd, sb, some ad, cp⟩) (fun i => if i < k then whV G R i else .slice none 0 0) (upd R k (some q)) (upd (rowL G) k (sb ++ (List.replicate m (-77) ++ List.replicate (8 - m) 0)))) ∧ Hid (Below w.heap.size w wq)) (fun i _ => sb.length + 8 - (intOf i).toNat)
        case atStart => exact ⟨0, by omega, by simp, HZ.out, HZB.out⟩
        case round =>
          obtain ⟨m, hm, rfl, hz, hzb⟩ := hrel
          have hlk : upd (rowL G) k (sb ++ (List.replicate m (-77) ++ List.replicate (8 - m) 0)) k = sb ++ (List.replicate m (-77) ++ List.replicate (8 - m) 0) := upd_at _ _ _
          have hln : (sb ++ (List.replicate m (-77 : Int) ++ List.replicate (8 - m) 0)).length = sb.length + 8 := by simp; omega
          by_cases hm8 : m < 8
          · obtain ⟨e1, e2⟩ := (hz.out.row k q hqk).2.2 (sb.length + m) (by rw [hlk, hln]; omega)
            have HN : Hid (HS (wr.setCell ⟨q, sb.length + m, none⟩ (.int .i64 (-77))) w.heap.size G.length (upd (fun i => if i < k then outN G R i else zeroN) k ⟨kd, tx, nn, dd, sb, some ad, cp⟩) (fun i => if i < k then whV G R i else .slice none 0 0) (upd R k (some q)) (upd (rowL G) k (sb ++ (List.replicate (m + 1) (-77) ++ List.replicate (8 - (m + 1)) 0)))) := by
              refine (hz.out.number hqk (a := sb.length + m) (by rw [hlk, hln]; omega) (-77)).congr (fun _ _ => rfl) (fun _ _ => rfl) (fun i q' _ => ?_)
              by_cases e : i = k
              · subst e; rw [upd_at, upd_at, upd_at]; exact mark_set sb m hm8
              · rw [upd_off _ _ _ e, upd_off _ _ _ e, upd_off _ _ _ e]
            have HNB : Hid (Below w.heap.size w (wr.setCell ⟨q, sb.length + m, none⟩ (.int .i64 (-77)))) := hzb.out.setCell (p := ⟨q, sb.length + m, none⟩) (by have := (hz.out.row k q hqk).1; show w.heap.size ≤ q; omega) _
            have hcast : ((sb.length : Int) + m) = ((sb.length + m : Nat) : Int) := by omega
            rw [hcast]
            obtain ⟨j, hj⟩ : ∃ j, sb.length + m = j := ⟨_, rfl⟩
            rw [hj] at HN HNB e1 e2 ⊢
            have hj1 : (j : Int) < (sb.length : Int) + 8 := by omega
            have hj2 : j < sb.length + 8 := by omega
            have HJ : Hid (sb.length + m = j) := hj
            clear hz hzb hlk hln HZ HZB cpy hcast hj
            go_wp2_with fail
            go_roundw
            case rel => exact ⟨m + 1, by omega, by have := HJ.out; congr 1; omega, HN.out, HNB.out⟩
            case measure => have := HJ.out; simp [intOf]; omega
          · obtain rfl : m = 8 := by omega
            have HW : Hid (HS (wr.setCell ⟨w.heap.size + 1, k, none⟩ (.slice (some ⟨q, 0, none⟩) (sb.length + 8) (sb.length + 8))) w.heap.size G.length _ _ _ _) := hz.out.whole (k := k) hlt (.slice (some ⟨q, 0, none⟩) (sb.length + 8) (sb.length + 8))
            obtain ⟨e1, e2⟩ := hz.out.who k hlt
            have hc4 := (HW.out.out k (by omega)).c4
            have hf4 := (HW.out.out k (by omega)).f4
            have HL : Hid _ := HW.out.list (k := k) (by omega) (some ⟨q, 0, none⟩) (sb.length + 8)
            have HLB : Hid (Below w.heap.size w ((wr.setCell ⟨w.heap.size + 1, k, none⟩ (.slice (some ⟨q, 0, none⟩) (sb.length + 8) (sb.length + 8))).setCell ⟨w.heap.size, k * 5 + 4, none⟩ (.slice (some ⟨q, 0, none⟩) sb.length (sb.length + 8)))) :=
              (hzb.out.setCell (p := ⟨w.heap.size + 1, k, none⟩) (by show w.heap.size ≤ w.heap.size + 1; omega) _).setCell (p := ⟨w.heap.size, k * 5 + 4, none⟩) (Nat.le_refl _) _
            rw [upd_at] at hc4 HL
            simp only at hc4 HL
            have hcast : ((sb.length : Int) + (8 : Nat)) = ((sb.length + 8 : Nat) : Int) := by omega
            rw [hcast]
            clear hz hzb hlk hln HZ HZB cpy HW
            go_wp2_with fail
            go_roundw
            case rel => exact ⟨k + 1, upd R k (some q), by omega, by go_num, handed_some HGX.out HL.out, fit_some hfit.out hlt (by rw [HGX.out]; simp), fun i hi => by rw [upd_off _ _ _ (by omega)]; exact hR.out i (by omega), HLB.out⟩
            case measure => simp [intOf]; omega
    · obtain rfl : k = G.length := by omega
      have HH : Hid (HS wr w.heap.size G.length (fun i => if i < G.length + 0 then outN G R i else zeroN) (whV G R) R (rowL G)) := hs.out.congr (fun i hi => rfl) (fun i hi => by rw [if_pos hi]) (fun _ _ _ => rfl)
      clear hs HG HSL
      go_wp2_with fail
      go_loopw [11] (fun i wq => ∃ m : Nat, m ≤ 8 ∧ i = .int .i64 ((G.length : Int) + m) ∧ Hid (HS wq w.heap.size G.length (fun i => if i < G.length + m then outN G R i else zeroN) (whV G R) R (rowL G)) ∧ Hid (Below w.heap.size w wq)) (fun i _ => G.length + 8 - (intOf i).toNat)
      case atStart => exact ⟨0, by omega, by simp, HH.out, hb.out⟩
      case round =>
        obtain ⟨m, hm, rfl, hz, hzb⟩ := hrel
        have hcast : ((G.length : Int) + m) = ((G.length + m : Nat) : Int) := by omega
        by_cases hm8 : m < 8
        · have hth : wr.there w.heap.size ((G.length + m) * 5) 5 := hz.out.out (G.length + m) (by omega) |>.there
          have HN : Hid (HS (setN wr w.heap.size ((G.length + m) * 5) (markN (-77))) w.heap.size G.length (fun i => if i < G.length + (m + 1) then outN G R i else zeroN) (whV G R) R (rowL G)) := by
            refine (hz.out.node (k := G.length + m) (by omega) (markN (-77))).congr (fun i hi => ?_) (fun _ _ => rfl) (fun _ _ _ => rfl)
            by_cases e : i = G.length + m
            · rw [e, upd_at, if_pos (by omega), outN_off G R _ (by omega)]
            · rw [upd_off _ _ _ e]
              by_cases h : i < G.length + m
              · rw [if_pos h, if_pos (by omega)]
              · rw [if_neg h, if_neg (by omega)]
          have HNB : Hid (Below w.heap.size w (setN wr w.heap.size ((G.length + m) * 5) (markN (-77)))) := setN_below hzb.out (Nat.le_refl _)
          rw [hcast]
          obtain ⟨j, hj⟩ : ∃ j, G.length + m = j := ⟨_, rfl⟩
          rw [hj] at HN HNB hth ⊢
          have hj1 : (j : Int) < (G.length : Int) + 8 := by omega
          have hj2 : j < G.length + 8 := by omega
          have HJ : Hid (G.length + m = j) := hj
          clear hz hzb HH hb hcast hj
          go_wp2_with ((with_reducible refine store_node w.heap.size (j * 5) (markN (-77)) hth ?_ ?_ ?_); rfl; rfl)
          go_roundw
          case rel => exact ⟨m + 1, by omega, by have := HJ.out; congr 1; omega, HN.out, HNB.out⟩
          case measure => have := HJ.out; simp [intOf]; omega
        · obtain rfl : m = 8 := by omega
          have hcast8 : ((G.length : Int) + (8 : Nat)) = ((G.length + 8 : Nat) : Int) := by omega
          rw [hcast8]
          have HE : Hid (HS wr w.heap.size G.length (outN G R) (whV G R) R (rowL G)) := hz.out.congr (fun i hi => by rw [if_pos (by omega)]) (fun _ _ => rfl) (fun _ _ _ => rfl)
          clear hz HH hb
          go_wp2_with fail
          go_ret2
          exact ⟨rfl, R, HE.out, hfit.out, hzb.out⟩
end Go.Proofs.YtlhimdjkkiflhaaDoor
