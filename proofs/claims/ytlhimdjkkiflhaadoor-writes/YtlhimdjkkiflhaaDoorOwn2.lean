/- The program's writer: put. -/
import Derived.Test.YtlhimdjkkiflhaaDoorOwn1
namespace Go.Proofs.YtlhimdjkkiflhaaDoor
open Go.RowKit Go.Loop

def TS.lay (t : TS) (a : Nat) : TS := { t with lab := t.lab.set a t.next, next := t.next + 1 }
theorem lay_add (t : TS) (a : Nat) : (TS.lay t a).add (35 :: (Lib.itoa t.next ++ [61])) = t.put a := by
  cases hl : t.long
  · by_cases h : 400 < t.out.length + (35 :: (Lib.itoa t.next ++ [61])).length
    · rw [add_over (t := TS.lay t a) hl h]; unfold TS.put; rw [add_over hl h]; rfl
    · rw [add_fits (t := TS.lay t a) hl (by show t.out.length + _ ≤ 400; omega)]; unfold TS.put; rw [add_fits hl (by omega)]; rfl
  · rw [add_long (t := TS.lay t a) hl]; unfold TS.put; rw [add_long hl]; rfl

theorem OwnW.lay {w : World} {B p bl bL n : Nat} {nv : Value} {t : TS} {v : Value} (h : OwnW w B p bl bL n nv t v) (hne : p ≠ bl) {a : Nat} (ha : a < t.lab.length) :
    OwnW ((w.setCell ⟨bl, a, none⟩ (.int .i64 t.next)).setCell ⟨p, 3, none⟩ (.int .i64 (t.next + 1))) B p bl bL n nv (TS.lay t a) v := by
  obtain ⟨q, hq, hb⟩ := h.blk
  have hn := Lib.ownBlock_ne h.own hb wT
  have hb1 : (w.setCell ⟨bl, a, none⟩ (.int .i64 t.next)).heap[p]? = some (.cells #[nv, .slice (some ⟨bL, 0, none⟩) n n, .slice (some ⟨bl, 0, none⟩) n n, .int .i64 t.next, q, v, .bool t.long] 60 (0, 0)) :=
    (Below.heap_setCell _ _ _ _ hne).trans hb
  have o1 := h.own.kept (w' := w.setCell ⟨bl, a, none⟩ (.int .i64 t.next)) (row := some bl) ⟨rfl, rfl, rfl, by simp [World.setCell], fun k _ hk => Below.heap_setCell _ _ _ _ (fun e => hk (by simp [e]))⟩ (Or.inr h.nb)
  refine ⟨h.hB, ⟨q, hq, ?_⟩, ?_, ?_, h.nb, h.ol, ?_⟩
  · have := heap_setCell_same (w.setCell ⟨bl, a, none⟩ (.int .i64 t.next)) p 3 _ _ (.int .i64 (t.next + 1)) hb1
    exact this
  · exact o1.kept (row := some p) ⟨rfl, rfl, rfl, by simp [World.setCell], fun k _ hk => Below.heap_setCell _ _ _ _ (fun e => hk (by simp [e]))⟩ (Or.inr hn)
  · exact (h.rl.set a ha t.next).of_block (Below.heap_setCell _ _ _ _ (fun e => hne e.symm))
  · have := h.bl; simpa [World.setCell] using this

/-- the table, whatever is written from B on -/
def PowB (B : Nat) (w : World) : Prop := ∀ w', Below B w w' → Pow w'
theorem PowB.on {B : Nat} {w w' : World} (h : PowB B w) (hb : Below B w w') : PowB B w' := fun x hx => h x (hb.trans hx)
theorem PowB.here {B : Nat} {w : World} (h : PowB B w) : Pow w := h w (Below.refl _ _)
theorem OwnW.drew {w : World} {B p bl bL n : Nat} {nv : Value} {t : TS} {v : Value} (h : OwnW w B p bl bL n nv t v) : OwnW w.drew B p bl bL n nv t v := ⟨h.hB, h.blk, h.own, h.rl, h.nb, h.ol, h.bl⟩
theorem OwnW.lt {w : World} {B p bl bL n : Nat} {nv : Value} {t : TS} {v : Value} (h : OwnW w B p bl bL n nv t v) : p < w.heap.size := by
  obtain ⟨q, hq, hb⟩ := h.blk
  exact (Array.getElem?_eq_some_iff.1 hb).1
theorem OwnW.below {w w' : World} {B p bl bL n : Nat} {nv : Value} {t : TS} {v : Value} (h : OwnW w B p bl bL n nv t v) (hb : Below w.heap.size w w') : OwnW w' B p bl bL n nv t v := by
  obtain ⟨q, hq, hk⟩ := h.blk
  refine ⟨h.hB, ⟨q, hq, (hb.block p h.lt).trans hk⟩, ?_, h.rl.of_block (hb.block bl h.bl), h.nb, h.ol, Nat.lt_of_lt_of_le h.bl hb.size⟩
  exact h.own.kept (row := none) ⟨hb.os, hb.tape, hb.output, hb.size, fun k hk _ => hb.block k hk⟩ (by cases v.ownBlock <;> simp)

set_option maxHeartbeats 1000000 in
set_option maxRecDepth 100000 in
theorem put_any {w : World} {B p bl bL n : Nat} {nv : Value} {t : TS} {v : Value} (h : OwnW w B p bl bL n nv t v) (hne : p ≠ bl) (hBw : B ≤ w.heap.size) (hn : t.lab.length = n) (hnx : t.next ≤ 401) (a : Nat) (ha : a < n) (hBl : B ≤ bl) (hp : PowB B w) :
    Calls Tryd.prog 40 #[.pointer (some ⟨p, 0, none⟩), .int .i64 a] w fun e w' => e = .returned (.tuple #[]) ∧ ∃ v', OwnW w' B p bl bL n nv (t.put a) v' ∧ KeptO w w' p bl v v' := by
  have HL : Hid _ := h.lay hne (a := a) (by omega)
  have HKL : Hid (KeptO w ((w.setCell ⟨bl, a, none⟩ (.int .i64 t.next)).setCell ⟨p, 3, none⟩ (.int .i64 (t.next + 1))) p bl v v) :=
    (KeptO.set (x := ⟨bl, a, none⟩) (Or.inr rfl) _).trans (KeptO.set (x := ⟨p, 3, none⟩) (Or.inl rfl) _)
  obtain ⟨q, hq, hb⟩ := h.blk
  have c2 : w.cell? ⟨p, 2, none⟩ = some (.slice (some ⟨bl, 0, none⟩) n n) := Lib.cell_of_heap hb 2
  have c3 : w.cell? ⟨p, 3, none⟩ = some (.int .i64 t.next) := Lib.cell_of_heap hb 3
  have f3 : w.frozen? ⟨p, 3, none⟩ = false := Lib.frozen_of_heap hb 3
  obtain ⟨ca, fa⟩ := h.rl a (by omega)
  have HP : Hid (PowB B w) := hp
  have HLW : Hid (OwnW w B p bl bL n nv t v) := h
  have hlen := itoa_len t.next (by omega) (by omega)
  have ks := str_app
  clear hp hb hq h
  go_enter Tryd.func40, Tryd.ntmps40
  go_wp2_with fail
  go_region
  all_goals
    go_wp2_with (go_at_call 39; refine (itoa_any t.next _ (by omega) (by omega) (HP.out _ (HKL.out.below hBw HLW.out.hB hBl HLW.out.ownB).drew)).mono ?_)
    rintro e w1 ⟨rfl, hb1⟩
    have HB1 : Hid (OwnW w1 B p bl bL n nv (TS.lay t a) v) := HL.out.drew.below hb1
    have HK1 : Hid (KeptO w w1 p bl v v) := HKL.out.trans (KeptO.of_below (((Below.refl _ _).drew).trans hb1))
    clear hb1
    go_wp2_with (go_at_call 38; refine (add_any HB1.out hne (Nat.le_trans hBw HK1.out.size) (35 :: (Lib.itoa t.next ++ [61]))).mono ?_)
    rintro e w2 ⟨rfl, v', h2, h3⟩
    have H2 : Hid (OwnW w2 B p bl bL n nv (t.put a) v') := by rw [lay_add] at h2; exact h2
    have H3 : Hid (KeptO w w2 p bl v v') := HK1.out.trans h3
    clear h2 h3
    go_wp2_with fail
    go_end0
    exact ⟨rfl, v', H2.out, H3.out⟩
end Go.Proofs.YtlhimdjkkiflhaaDoor
