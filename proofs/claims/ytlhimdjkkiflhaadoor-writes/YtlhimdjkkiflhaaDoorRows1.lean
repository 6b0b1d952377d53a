/- Rows of numbers and bools in memory; the one that goes through a graph. -/
import Derived.Test.YtlhimdjkkiflhaaDoorGraphB
import Derived.Test.YtlhimdjkkiflhaaDoorDfs
namespace Go.Proofs.YtlhimdjkkiflhaaDoor
open Go.RowKit Go.Loop

/-- a block that holds numbers, and may be written -/
def RowI (w : World) (b : Nat) (l : List Int) : Prop := ∀ i, i < l.length → w.cell? ⟨b, i, none⟩ = some (.int .i64 (l.getD i 0)) ∧ w.frozen? ⟨b, i, none⟩ = false
/-- a block that holds bools, and may be written -/
def RowB (w : World) (b : Nat) (l : List Bool) : Prop := ∀ i, i < l.length → w.cell? ⟨b, i, none⟩ = some (.bool (l.getD i false)) ∧ w.frozen? ⟨b, i, none⟩ = false

theorem cell_far {w : World} {p a : Addr} {v : Value} (h : p.block ≠ a.block) : (w.setCell p v).cell? a = w.cell? a := World.cell?_setCell_other w p a v (fun e => h (by rw [e]))
theorem RowI.set {w : World} {b : Nat} {l : List Int} (h : RowI w b l) (a : Nat) (ha : a < l.length) (v : Int) : RowI (w.setCell ⟨b, a, none⟩ (.int .i64 v)) b (l.set a v) := by
  intro i hi
  rw [List.length_set] at hi
  rw [getD_set _ _ _ _ _ ha, World.frozen?_setCell]
  refine ⟨?_, (h i hi).2⟩
  by_cases e : i = a
  · subst e; rw [if_pos rfl, World.cell?_setCell_same (h := (h i hi).1)]
  · rw [if_neg e, World.cell?_setCell_other (h := by intro x; cases x; exact e rfl)]; exact (h i hi).1
theorem RowB.set {w : World} {b : Nat} {l : List Bool} (h : RowB w b l) (a : Nat) (ha : a < l.length) (v : Bool) : RowB (w.setCell ⟨b, a, none⟩ (.bool v)) b (l.set a v) := by
  intro i hi
  rw [List.length_set] at hi
  rw [getD_set _ _ _ _ _ ha, World.frozen?_setCell]
  refine ⟨?_, (h i hi).2⟩
  by_cases e : i = a
  · subst e; rw [if_pos rfl, World.cell?_setCell_same (h := (h i hi).1)]
  · rw [if_neg e, World.cell?_setCell_other (h := by intro x; cases x; exact e rfl)]; exact (h i hi).1
theorem RowI.far {w : World} {b : Nat} {l : List Int} (h : RowI w b l) {p : Addr} (hp : p.block ≠ b) (v : Value) : RowI (w.setCell p v) b l := fun i hi => by
  rw [cell_far hp, World.frozen?_setCell]; exact h i hi
theorem RowB.far {w : World} {b : Nat} {l : List Bool} (h : RowB w b l) {p : Addr} (hp : p.block ≠ b) (v : Value) : RowB (w.setCell p v) b l := fun i hi => by
  rw [cell_far hp, World.frozen?_setCell]; exact h i hi
theorem RowI.drewN {w : World} {b : Nat} {l : List Int} (h : RowI w b l) (n : Nat) : RowI (w.drewN n) b l := h
theorem RowB.drewN {w : World} {b : Nat} {l : List Bool} (h : RowB w b l) (n : Nat) : RowB (w.drewN n) b l := h

/-- the nodes that a node holds -/
def subsN (G : List Nd) (x : Nat) : List Nat := match G[x]? with | some y => y.subs.map Int.toNat | none => []

/-- the program's walker, in memory: its four lists -/
structure WalkAt (w : World) (p bo bm bw n : Nat) (nv : Value) (s : WS) : Prop where
  c0 : w.cell? ⟨p, 0, none⟩ = some nv
  c1 : w.cell? ⟨p, 1, none⟩ = some (.slice (some ⟨bo, 0, none⟩) n n)
  c2 : w.cell? ⟨p, 2, none⟩ = some (.slice (some ⟨bm, 0, none⟩) n n)
  c3 : w.cell? ⟨p, 3, none⟩ = some (.slice (some ⟨bw, 0, none⟩) n n)
  rm : RowI w bm s.met
  rw : RowB w bw s.wi
  ro : RowB w bo s.op

/-- four blocks, none like another, none below B -/
structure Apart (B p bo bm bw : Nat) : Prop where
  hp : B ≤ p
  ho : B ≤ bo
  hm : B ≤ bm
  hw : B ≤ bw
  po : p ≠ bo
  pm : p ≠ bm
  pw : p ≠ bw
  om : bo ≠ bm
  ow : bo ≠ bw
  mw : bm ≠ bw

theorem WalkAt.hit {w : World} {p bo bm bw n : Nat} {nv : Value} {s : WS} {B : Nat} (h : WalkAt w p bo bm bw n nv s) (A : Apart B p bo bm bw) {a : Nat} (ha : a < s.met.length) :
    WalkAt (w.setCell ⟨bm, a, none⟩ (.int .i64 (s.met.getD a 0 + 1))) p bo bm bw n nv (s.hit a) := by
  have e := A.pm.symm
  exact ⟨by rw [cell_far e]; exact h.c0, by rw [cell_far e]; exact h.c1, by rw [cell_far e]; exact h.c2,
    by rw [cell_far e]; exact h.c3, h.rm.set a ha _, h.rw.far A.mw _, h.ro.far A.om.symm _⟩
theorem WalkAt.again {w : World} {p bo bm bw n : Nat} {nv : Value} {s : WS} {B : Nat} (h : WalkAt w p bo bm bw n nv s) (A : Apart B p bo bm bw) {a : Nat} (ha : a < s.wi.length) :
    WalkAt (w.setCell ⟨bw, a, none⟩ (.bool (s.wi.getD a false || s.op.getD a false))) p bo bm bw n nv (s.again a) := by
  have e := A.pw.symm
  exact ⟨by rw [cell_far e]; exact h.c0, by rw [cell_far e]; exact h.c1, by rw [cell_far e]; exact h.c2,
    by rw [cell_far e]; exact h.c3, h.rm.far A.mw.symm _, h.rw.set a ha _, h.ro.far A.ow.symm _⟩
theorem WalkAt.putOp {w : World} {p bo bm bw n : Nat} {nv : Value} {s : WS} {B : Nat} (h : WalkAt w p bo bm bw n nv s) (A : Apart B p bo bm bw) {a : Nat} (ha : a < s.op.length) (v : Bool) :
    WalkAt (w.setCell ⟨bo, a, none⟩ (.bool v)) p bo bm bw n nv { s with op := s.op.set a v } := by
  have e := A.po.symm
  exact ⟨by rw [cell_far e]; exact h.c0, by rw [cell_far e]; exact h.c1, by rw [cell_far e]; exact h.c2,
    by rw [cell_far e]; exact h.c3, h.rm.far A.om _, h.rw.far A.ow _, h.ro.set a ha _⟩
theorem WalkAt.drewN {w : World} {p bo bm bw n : Nat} {nv : Value} {s : WS} (h : WalkAt w p bo bm bw n nv s) (k : Nat) : WalkAt (w.drewN k) p bo bm bw n nv s := ⟨h.c0, h.c1, h.c2, h.c3, h.rm, h.rw, h.ro⟩
theorem WalkAt.drew {w : World} {p bo bm bw n : Nat} {nv : Value} {s : WS} (h : WalkAt w p bo bm bw n nv s) : WalkAt w.drew p bo bm bw n nv s := ⟨h.c0, h.c1, h.c2, h.c3, h.rm, h.rw, h.ro⟩
end Go.Proofs.YtlhimdjkkiflhaaDoor
