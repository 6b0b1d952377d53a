/- The program's quoted: a builder of its own. -/
import Derived.Test.YtlhimdjkkiflhaaDoorBld
import Derived.Test.YtlhimdjkkiflhaaDoorRefAtom
namespace Go.Proofs.YtlhimdjkkiflhaaDoor
open Go.RowKit Go.Loop

/-- a builder of the call's own, which holds these bytes; W is the world at the call -/
def OwnB (W w : World) (l : List UInt8) : Prop := ∃ cs v, cs.size = 2 ∧ BldAt w 58 0 W.heap.size W.heap.size cs v (Lib.byteCells l) ∧ Below W.heap.size W w

theorem OwnB.start (W : World) : OwnB W (W.alloc (.cells #[.pointer none, .slice none 0 0] 58)) [] :=
  ⟨_, _, rfl, ⟨Nat.le_refl _, heap_alloc_new W _, Or.inl rfl, rfl, World.ownsRow_nil _ _ _ _⟩, (Below.refl _ _).alloc (Nat.le_refl _) _⟩
theorem bT : 58 ≠ 5 := by decide
theorem BldAt.toB {w : World} {T : TypeId} {off B b : Nat} {cs : Array Value} {v : Value} {bs : List Value} (h : BldAt w T off B b cs v bs) : ∀ k, v.ownBlock = some k → B ≤ k := fun k hk => (h.own.lt k hk).1

theorem OwnB.writeByte {W w : World} {l : List UInt8} (h : OwnB W w l) (c : UInt8) (hl : l.length ≤ 100000) :
    Calls Tryd.prog 74 #[.pointer (some ⟨W.heap.size, 0, none⟩), .int .u8 c.toNat] w fun e w' => e = .returned .nilIface ∧ OwnB W w' (l ++ [c]) := by
  obtain ⟨cs, v, hs, hb, hw⟩ := h
  have hsz := hw.size
  refine (writeByte_any (hs ▸ lies_own) bT hb c.toNat (by rw [Lib.byteCells_length]; omega) hsz).mono ?_
  rintro e w' ⟨rfl, v', h1, h2⟩
  refine ⟨rfl, _, v', ?_, by rw [Lib.byteCells_append]; exact h1, hw.trans (h2.below hsz (Nat.le_refl _) hb.toB)⟩
  simp [usedC, hs]

theorem OwnB.writeString {W w : World} {l : List UInt8} (h : OwnB W w l) (s : List UInt8) (hl : l.length + s.length ≤ 100000) :
    Calls Tryd.prog 55 #[.pointer (some ⟨W.heap.size, 0, none⟩), .string ⟨⟨s⟩⟩] w fun e w' => e = .returned (.tuple #[.int .i64 s.length, .nilIface]) ∧ OwnB W w' (l ++ s) := by
  obtain ⟨cs, v, hs, hb, hw⟩ := h
  have hsz := hw.size
  refine (writeString_any (hs ▸ lies_own) bT hb ⟨⟨s⟩⟩ (by rw [Lib.byteCells_length]; show l.length + s.length ≤ _; omega) hsz).mono ?_
  rintro e w' ⟨rfl, v', h1, h2⟩
  refine ⟨rfl, _, v', ?_, by rw [Lib.byteCells_append]; exact h1, hw.trans (h2.below hsz (Nat.le_refl _) hb.toB)⟩
  simp [usedC, hs]

theorem OwnB.string {W w : World} {l : List UInt8} (h : OwnB W w l) (h0 : l ≠ []) :
    Calls Tryd.prog 24 #[.pointer (some ⟨W.heap.size, 0, none⟩)] w fun e w' => e = .returned (.string ⟨⟨l⟩⟩) ∧ Below W.heap.size W w' := by
  obtain ⟨cs, v, hs, hb, hw⟩ := h
  refine (bldString_any hb h0).mono ?_
  rintro e w' ⟨rfl, h2⟩
  exact ⟨rfl, hw.trans (h2.below hw.size (Nat.le_refl _) hb.toB)⟩

section
attribute [local go_sem] ba_get
set_option maxHeartbeats 1000000 in
set_option maxRecDepth 100000 in
theorem quoted_any (l : List UInt8) (w : World) (hl : l.length ≤ 400) :
    Calls Tryd.prog 57 #[.string ⟨⟨l⟩⟩] w fun e w' => e = .returned (.string ⟨⟨quoteL l⟩⟩) ∧ Below w.heap.size w w' := by
  have H0 : Hid (OwnB w (w.alloc (.cells #[.pointer none, .slice none 0 0] 58)) []) := OwnB.start w
  go_enter Tryd.func57, Tryd.ntmps57
  go_wp2_with (go_at_call 74; refine (H0.out.writeByte 34 (by simp)).mono ?_)
  rintro e w1 ⟨rfl, h1⟩
  have H1 : Hid (OwnB w w1 ([] ++ [34])) := h1
  clear h1 H0
  go_wp2_with fail
  go_loopw [9] (fun i wr => ∃ (k : Nat) (o : List UInt8), k ≤ l.length ∧ i = .int .i64 k ∧ o.length ≤ 1 + 2 * k ∧ Hid (OwnB w wr o) ∧ Hid (o = 34 :: (l.take k).flatMap escL)) (fun i _ => l.length - (intOf i).toNat)
  case atStart => exact ⟨0, [34], Nat.zero_le _, rfl, by simp, H1.out, rfl⟩
  case round =>
    obtain ⟨k, o, hk, rfl, hlo, H2, hle⟩ := hrel
    by_cases hlt : k < l.length
    · have HS : Hid _ := esc_snoc l k hlt
      cases e92 : ((l[k].toNat : Int) == 92)
      · cases e34 : ((l[k].toNat : Int) == 34)
        · cases e10 : ((l[k].toNat : Int) == 10)
          · cases e9 : ((l[k].toNat : Int) == 9)
            · have HE : Hid (escL l[k] = [l[k]]) := by
                show _ = _; rw [beq_eq_false_iff_ne] at e92 e34 e10 e9; unfold escL; rw [if_neg (by omega), if_neg (by omega), if_neg (by omega), if_neg (by omega)]
              go_wp2_with (go_at_call 74; refine (H2.out.writeByte l[k] (by first | omega | (simp; omega))).mono ?_)
              rintro e w2 ⟨rfl, h2⟩
              have H3 : Hid (OwnB w w2 (o ++ [l[k]])) := h2
              clear h2 H2
              go_wp2_with fail
              go_roundw
              case rel => exact ⟨k + 1, _, by omega, by go_num, by simp; omega, H3.out, by show _ = _; rw [HS.out, HE.out, hle.out]; simp⟩
              case measure => simp [intOf]; omega
            · have HE : Hid (escL l[k] = [92, 116]) := by
                show _ = _; rw [beq_eq_false_iff_ne] at e92 e34 e10; rw [beq_iff_eq] at e9; unfold escL; rw [if_neg (by omega), if_neg (by omega), if_neg (by omega), if_pos (by omega)]
              go_wp2_with (go_at_call 55; refine (H2.out.writeString [92, 116] (by first | omega | (simp; omega))).mono ?_)
              rintro e w2 ⟨rfl, h2⟩
              have H3 : Hid (OwnB w w2 (o ++ [92, 116])) := h2
              clear h2 H2
              go_wp2_with fail
              go_roundw
              case rel => exact ⟨k + 1, _, by omega, by go_num, by simp; omega, H3.out, by show _ = _; rw [HS.out, HE.out, hle.out]; simp⟩
              case measure => simp [intOf]; omega
          · have HE : Hid (escL l[k] = [92, 110]) := by
              show _ = _; rw [beq_eq_false_iff_ne] at e92 e34; rw [beq_iff_eq] at e10; unfold escL; rw [if_neg (by omega), if_neg (by omega), if_pos (by omega)]
            go_wp2_with (go_at_call 55; refine (H2.out.writeString [92, 110] (by first | omega | (simp; omega))).mono ?_)
            rintro e w2 ⟨rfl, h2⟩
            have H3 : Hid (OwnB w w2 (o ++ [92, 110])) := h2
            clear h2 H2
            go_wp2_with fail
            go_roundw
            case rel => exact ⟨k + 1, _, by omega, by go_num, by simp; omega, H3.out, by show _ = _; rw [HS.out, HE.out, hle.out]; simp⟩
            case measure => simp [intOf]; omega
        · have HE : Hid (escL l[k] = [92, 34]) := by
            show _ = _; rw [beq_eq_false_iff_ne] at e92; rw [beq_iff_eq] at e34; unfold escL; rw [if_neg (by omega), if_pos (by omega)]
          have HC : Hid (l[k] = 34) := by
            rw [beq_iff_eq] at e34; exact UInt8.toNat_inj.1 (by have : (34 : UInt8).toNat = 34 := rfl; omega)
          go_wp2_with (go_at_call 74; refine (H2.out.writeByte 92 (by first | omega | (simp; omega))).mono ?_)
          rintro e w2 ⟨rfl, h2⟩
          have HA : Hid (OwnB w w2 (o ++ [92])) := h2
          clear h2 H2
          go_wp2_with (go_at_call 74; refine (HA.out.writeByte l[k] (by first | omega | (simp; omega))).mono ?_)
          rintro e w3 ⟨rfl, h3⟩
          have H3 : Hid (OwnB w w3 (o ++ [92] ++ [l[k]])) := h3
          clear h3 HA
          go_wp2_with fail
          go_roundw
          case rel => exact ⟨k + 1, _, by omega, by go_num, by simp; omega, H3.out, by show _ = _; rw [HS.out, HE.out, hle.out]; simp [HC.out]⟩
          case measure => simp [intOf]; omega
      · have HE : Hid (escL l[k] = [92, 92]) := by
          show _ = _; rw [beq_iff_eq] at e92; unfold escL; rw [if_pos (by omega)]
        have HC : Hid (l[k] = 92) := by
          rw [beq_iff_eq] at e92; exact UInt8.toNat_inj.1 (by have : (92 : UInt8).toNat = 92 := rfl; omega)
        go_wp2_with (go_at_call 74; refine (H2.out.writeByte 92 (by first | omega | (simp; omega))).mono ?_)
        rintro e w2 ⟨rfl, h2⟩
        have HA : Hid (OwnB w w2 (o ++ [92])) := h2
        clear h2 H2
        go_wp2_with (go_at_call 74; refine (HA.out.writeByte l[k] (by first | omega | (simp; omega))).mono ?_)
        rintro e w3 ⟨rfl, h3⟩
        have H3 : Hid (OwnB w w3 (o ++ [92] ++ [l[k]])) := h3
        clear h3 HA
        go_wp2_with fail
        go_roundw
        case rel => exact ⟨k + 1, _, by omega, by go_num, by simp; omega, H3.out, by show _ = _; rw [HS.out, HE.out, hle.out]; simp [HC.out]⟩
        case measure => simp [intOf]; omega
    · go_wp2_with (go_at_call 74; refine (H2.out.writeByte 34 (by first | omega | (simp; omega))).mono ?_)
      rintro e w2 ⟨rfl, h2⟩
      have H3 : Hid (OwnB w w2 (o ++ [34])) := h2
      clear h2 H2
      go_wp2_with (go_at_call 24; refine (H3.out.string (by simp)).mono ?_)
      rintro e w3 ⟨rfl, hb⟩
      have HB : Hid (Below w.heap.size w w3) := hb
      clear hb
      go_wp2_with fail
      go_ret
      refine ⟨ret_strl ?_, HB.out⟩
      rw [hle.out, List.take_of_length_le (by omega)]; simp [quoteL]
end
end Go.Proofs.YtlhimdjkkiflhaaDoor
