/- The program's writer: Write. -/
import Derived.Test.YtlhimdjkkiflhaaDoorOwn5
import Derived.Test.YtlhimdjkkiflhaaDoorRefTopA
import Derived.Test.YtlhimdjkkiflhaaDoorThroughB
namespace Go.Proofs.YtlhimdjkkiflhaaDoor
open Go.RowKit Go.Loop

/-- what the writer gives -/
def outL (t : TS) : List UInt8 := if t.long then [] else t.out
def okL (t : TS) : Bool := !t.long

def labsTo (n k : Nat) : List Int := List.replicate k (-1) ++ List.replicate (n - k) 0
theorem labsTo_len (n k : Nat) (h : k ≤ n) : (labsTo n k).length = n := by simp [labsTo]; omega
theorem labsTo_set (n k : Nat) (h : k < n) : (labsTo n k).set k (-1) = labsTo n (k + 1) := by
  apply List.ext_getElem?
  intro i
  unfold labsTo
  rw [List.getElem?_set]
  simp only [List.getElem?_append, List.getElem?_replicate, List.length_append, List.length_replicate]
  repeat' split
  all_goals first | rfl | omega | (simp; omega)
theorem labsTo_all (n : Nat) : labsTo n n = List.replicate n (-1) := by simp [labsTo]

theorem OwnW.setLab {w : World} {B p bl bL n : Nat} {nv : Value} {t : TS} {v : Value} (h : OwnW w B p bl bL n nv t v) (hne : p ≠ bl) {a : Nat} (ha : a < t.lab.length) (z : Int) :
    OwnW (w.setCell ⟨bl, a, none⟩ (.int .i64 z)) B p bl bL n nv { t with lab := t.lab.set a z } v := by
  obtain ⟨q, hq, hb⟩ := h.blk
  refine ⟨h.hB, ⟨q, hq, (Below.heap_setCell _ _ _ _ hne).trans hb⟩, ?_, h.rl.set a ha z, h.nb, h.ol, ?_⟩
  · exact h.own.kept (row := some bl) ⟨rfl, rfl, rfl, by simp [World.setCell], fun k _ hk => Below.heap_setCell _ _ _ _ (fun e => hk (by simp [e]))⟩ (Or.inr h.nb)
  · have := h.bl; simpa [World.setCell] using this

set_option maxHeartbeats 1000000 in
set_option maxRecDepth 100000 in
theorem writerWrite_any (G : List Nd) (b o cap : Nat) (W : World) (bL : Nat) (L : Nat → Bool) (Rc : Nat → Prop) (rk : Nat → Nat) (C : ∀ p bl, W.heap.size ≤ p → W.heap.size ≤ bl → p ≠ bl → OCtx G b o W p bl bL L Rc rk) (h0 : Rc 0) (hn0 : 0 < G.length) (hn : G.length ≤ 150) (F : Nat) (hF : 403 ≤ F) (hout : (WF (kindN G) (subsN G) (atN G) L F false (startT G.length) 0).long = false → (WF (kindN G) (subsN G) (atN G) L F false (startT G.length) 0).out ≠ []) :
    Calls Tryd.prog 12 #[.slice (some ⟨b, o, none⟩) G.length cap, .slice (some ⟨bL, 0, none⟩) G.length G.length] W fun e w' =>
      e = .returned (.tuple #[.string ⟨⟨outL (WF (kindN G) (subsN G) (atN G) L F false (startT G.length) 0)⟩⟩, .bool (okL (WF (kindN G) (subsN G) (atN G) L F false (startT G.length) 0))]) ∧ Below W.heap.size W w' := by
  obtain ⟨tf, htf⟩ : ∃ tf, Hid (tf = WF (kindN G) (subsN G) (atN G) L F false (startT G.length) 0) := ⟨_, rfl⟩
  rw [← htf.out] at hout ⊢
  have HC : Hid _ := C
  clear C
  have mki := run_make_row' (P := Tryd.prog) 24 3 (.int .i64 0) 8 Tryd.underlying24 infoInt rfl .i64 .i64 G.length (by omega) (by omega)
  go_enter Tryd.func12, Tryd.ntmps12
  have HS : Hid (OwnW ((W.alloc (Obj.cells (madeCells #[Value.int IntKind.i64 0] G.length) 3)).alloc (Obj.cells #[.slice (some ⟨b, o, none⟩) G.length cap, .slice (some ⟨bL, 0, none⟩) G.length G.length, .slice (some ⟨W.heap.size, 0, none⟩) G.length G.length, .int .i64 0, .pointer none, .slice none 0 0, .bool false] 60))
      W.heap.size (W.heap.size + 1) W.heap.size bL G.length (.slice (some ⟨b, o, none⟩) G.length cap) ⟨labsTo G.length 0, 0, [], false⟩ (.slice none 0 0)) := by
    have hz : labsTo G.length 0 = List.replicate G.length 0 := by simp [labsTo]
    refine ⟨by omega, ⟨_, Or.inl rfl, ?_⟩, World.ownsRow_nil _ _ _ _, ?_, by simp [Value.ownBlock], by simp, by simp; omega⟩
    · have := heap_alloc_new (W.alloc (Obj.cells (madeCells #[Value.int IntKind.i64 0] G.length) 3)) (Obj.cells #[.slice (some ⟨b, o, none⟩) G.length cap, .slice (some ⟨bL, 0, none⟩) G.length G.length, .slice (some ⟨W.heap.size, 0, none⟩) G.length G.length, .int .i64 0, .pointer none, .slice none 0 0, .bool false] 60)
      rw [World.size_alloc] at this
      exact this
    · show RowI _ _ (labsTo G.length 0)
      rw [hz]
      exact rowI_made ((Lib.alloc_old _ _ _ (by simp)).trans (heap_alloc_new W _))
  have HSB : Hid (Below W.heap.size W ((W.alloc (Obj.cells (madeCells #[Value.int IntKind.i64 0] G.length) 3)).alloc (Obj.cells #[.slice (some ⟨b, o, none⟩) G.length cap, .slice (some ⟨bL, 0, none⟩) G.length G.length, .slice (some ⟨W.heap.size, 0, none⟩) G.length G.length, .int .i64 0, .pointer none, .slice none 0 0, .bool false] 60))) :=
    ((Below.refl _ _).alloc (Nat.le_refl _) _).alloc (by simp) _
  go_wp2_with fail
  go_loopw [20] (fun i wr => ∃ k : Nat, k ≤ G.length ∧ i = .int .i64 k ∧ Hid (OwnW wr W.heap.size (W.heap.size + 1) W.heap.size bL G.length (.slice (some ⟨b, o, none⟩) G.length cap) ⟨labsTo G.length k, 0, [], false⟩ (.slice none 0 0)) ∧ Hid (Below W.heap.size W wr)) (fun i _ => G.length - (intOf i).toNat)
  case atStart => exact ⟨0, Nat.zero_le _, rfl, HS.out, HSB.out⟩
  case round =>
    obtain ⟨k, hk, rfl, hwk, hbk⟩ := hrel
    obtain ⟨c0, c1, c2, c6⟩ := hwk.out.cells
    by_cases hlt : k < G.length
    · obtain ⟨hl1, hl2⟩ := hwk.out.rl k (by show k < (labsTo G.length k).length; rw [labsTo_len _ _ hk]; exact hlt)
      have HN : Hid _ := hwk.out.setLab (by omega) (a := k) (by show k < (labsTo G.length k).length; rw [labsTo_len _ _ hk]; exact hlt) (-1)
      have HNB : Hid (Below W.heap.size W (wr.setCell ⟨W.heap.size, k, none⟩ (.int .i64 (-1)))) := hbk.out.setCell (p := ⟨W.heap.size, k, none⟩) (Nat.le_refl _) _
      simp only [labsTo_set _ _ hlt] at HN
      go_wp2_with fail
      go_roundw
      case rel => exact ⟨k + 1, by omega, by go_num, HN, HNB⟩
      case measure => simp [intOf]; omega
    · have hkl : k = G.length := by omega
      have HW0 : Hid (OwnW wr W.heap.size (W.heap.size + 1) W.heap.size bL G.length (.slice (some ⟨b, o, none⟩) G.length cap) (startT G.length) (.slice none 0 0)) := by
        have := hwk.out; rw [hkl, labsTo_all] at this; exact this
      have HCC : Hid _ := HC.out (W.heap.size + 1) W.heap.size (by omega) (Nat.le_refl _) (by omega)
      clear c0 c1 c2 c6 hwk mki
      go_wp2_with fail
      refine (node_all (cap := cap) HCC.out F F (Nat.le_refl _) (startT G.length) 0 _ _ (startT_ok _ _) (by omega) (by omega) h0 (by show need (startT G.length) ≤ F; unfold need startT; simp; omega) hbk.out HW0.out).mono ?_
      rintro e w2 ⟨rfl, v2, hw2, hk2⟩
      have hw2' : OwnW w2 W.heap.size (W.heap.size + 1) W.heap.size bL G.length (.slice (some ⟨b, o, none⟩) G.length cap) tf v2 := by rw [htf.out]; exact hw2
      obtain ⟨d0, d1, d2, d6⟩ := hw2'.cells
      have HW2 : Hid _ := hw2'
      have HB2 : Hid (Below W.heap.size W w2) := hbk.out.trans (hk2.below hbk.out.size (by omega) (Nat.le_refl _) (by simp [Value.ownBlock]))
      clear hw2 hw2' hk2 d0 d1 d2
      cases hlong : tf.long
      · rw [hlong] at d6
        have HL1 : Hid (outL tf = tf.out) := by show _ = _; unfold outL; rw [hlong]; rfl
        have HL2 : Hid (okL tf = true) := by show _ = _; unfold okL; rw [hlong]; rfl
        obtain ⟨q, hq, hbld⟩ := HW2.out.bld
        have HO : Hid _ := hout hlong
        have HBD : Hid _ := hbld
        clear hbld
        go_wp2_with fail
        refine (bldString_any HBD.out HO.out).mono ?_
        rintro e w3 ⟨rfl, h3⟩
        have HB3 : Hid (Below W.heap.size W w3) := HB2.out.trans (h3.below HB2.out.size (by omega) HW2.out.ownB)
        clear h3
        go_wp2_with fail
        go_ret2
        exact ⟨by rw [HL1.out, HL2.out]; rfl, HB3.out⟩
      · rw [hlong] at d6
        have HL1 : Hid (outL tf = []) := by show _ = _; unfold outL; rw [hlong]; rfl
        have HL2 : Hid (okL tf = false) := by show _ = _; unfold okL; rw [hlong]; rfl
        go_wp2_with fail
        go_ret2
        exact ⟨by rw [HL1.out, HL2.out]; rfl, HB2.out⟩
end Go.Proofs.YtlhimdjkkiflhaaDoor
