/- The law looks whether what it handed over is as it was, and writes it over. -/
import Derived.Test.YtlhimdjkkiflhaaDoorHand
import Derived.Deep.DeepCutAuto
namespace Go.Proofs.YtlhimdjkkiflhaaDoor
open Go.RowKit Go.Loop

/-- what a node of those that are looked at must read like -/
def wantN (G : List Nd) (i : Nat) : Nd := match G[i]? with | some x => x | none => markN (-77)
theorem wantN_at (G : List Nd) (i : Nat) (h : i < G.length) : wantN G i = G[i] := by unfold wantN; rw [List.getElem?_eq_getElem h]
theorem wantN_off (G : List Nd) (i : Nat) (h : G.length ≤ i) : wantN G i = markN (-77) := by unfold wantN; rw [List.getElem?_eq_none h]
theorem same_out (G : List Nd) (R : Nat → Option Nat) (i : Nat) : sameB (outN G R i) (wantN G i) = true := by
  unfold outN wantN
  cases h : G[i]? with
  | none => simp [sameB]
  | some x =>
    cases R i <;> simp [hN, sameB]

/-- the nodes below k are written over -/
def overN (G : List Nd) (R : Nat → Option Nat) (k i : Nat) : Nd := if i < k then markN (-99) else outN G R i

/-- the lists below k, and so many numbers of list k, are written over -/
def rowO (G : List Nd) (k m i : Nat) : List Int := if i < k then List.replicate (rowL G i).length (-99) else if i = k then List.replicate m (-99) ++ (rowL G i).drop m else rowL G i
theorem rowO_0 (G : List Nd) (i : Nat) : rowO G 0 0 i = rowL G i := by
  unfold rowO; rw [if_neg (by omega)]; split <;> simp
/-- how long list k is, as a whole -/
def lenW (G : List Nd) (R : Nat → Option Nat) (k : Nat) : Nat := match R k with | some _ => (rowL G k).length | none => 0
theorem row_get (G : List Nd) (k m : Nat) (hk : k < G.length) (hm : m < G[k].subs.length + 8) : (rowO G k m k).getD m 0 = if m < G[k].subs.length then G[k].subs.getD m 0 else -77 := by
  unfold rowO
  rw [if_neg (by omega), if_pos rfl, rowL_at G k hk]
  simp only [List.getD, List.getElem?_append, List.length_replicate, Nat.lt_irrefl, if_false, Nat.sub_self, List.getElem?_drop, Nat.add_zero]
  by_cases h : m < G[k].subs.length
  · rw [if_pos h, if_pos h]
  · rw [if_neg h, if_neg h, List.getElem?_replicate, if_pos (by omega)]; rfl
theorem row_none {G : List Nd} {R : Nat → Option Nat} {w : World} {B k : Nat} {f : Nat → Nd} {v : Nat → Value} (hR : R k = none) (h : HS w B G.length f v R (rowO G k 0)) : HS w B G.length f v R (rowO G (k + 1) 0) := by
  refine h.congr (fun _ _ => rfl) (fun _ _ => rfl) (fun i q hq => ?_)
  have e : i ≠ k := fun e => by rw [e, hR] at hq; simp at hq
  unfold rowO
  by_cases h1 : i < k
  · rw [if_pos h1, if_pos (by omega)]
  · rw [if_neg h1, if_neg e, if_neg (by omega)]
    split <;> simp
theorem row_next {G : List Nd} {R : Nat → Option Nat} {w : World} {B k : Nat} {f : Nat → Nd} {v : Nat → Value} (h : HS w B G.length f v R (rowO G k (rowL G k).length)) : HS w B G.length f v R (rowO G (k + 1) 0) := by
  refine h.congr (fun _ _ => rfl) (fun _ _ => rfl) (fun i q hq => ?_)
  unfold rowO
  by_cases h1 : i < k
  · rw [if_pos h1, if_pos (by omega)]
  · rw [if_neg h1]
    by_cases e : i = k
    · subst e; rw [if_pos rfl, if_pos (by omega)]; simp
    · rw [if_neg e, if_neg (by omega)]
      split <;> simp
theorem row_step {G : List Nd} {R : Nat → Option Nat} {w : World} {B k m : Nat} {f : Nat → Nd} {v : Nat → Value} (h : HS w B G.length f v R (upd (rowO G k m) k ((rowO G k m k).set m (-99)))) (hm : m < (rowL G k).length) : HS w B G.length f v R (rowO G k (m + 1)) := by
  refine h.congr (fun _ _ => rfl) (fun _ _ => rfl) (fun i q hq => ?_)
  by_cases e : i = k
  · subst e; rw [upd_at]; unfold rowO
    rw [if_neg (by omega), if_pos rfl, if_neg (by omega), if_pos rfl, List.set_append_right _ _ (by simp)]
    simp only [List.length_replicate, Nat.sub_self]
    rw [List.drop_eq_getElem_cons hm, List.set_cons_zero, List.replicate_succ']
    simp
  · rw [upd_off _ _ _ e]; unfold rowO; rw [if_neg e, if_neg e]
theorem ints_mark (w : World) (z : Int) : IntsAt w (markN z).sa (markN z).subs := Or.inl rfl

/-- a node is laid behind all that was there -/
theorem HS.above {w wa : World} {B n : Nat} {f : Nat → Nd} {v : Nat → Value} {R : Nat → Option Nat} {L : Nat → List Int} (h : HS w B n f v R L) (hb : Below w.heap.size w wa) (x : Nd) : HS (setN wa w.heap.size 0 x) B n f v R L :=
  h.same (setN_below hb (Nat.le_refl _))
theorem over_next {G : List Nd} {R : Nat → Option Nat} {w : World} {B k : Nat} {v : Nat → Value} {L : Nat → List Int} (h : HS w B G.length (upd (overN G R k) k (markN (-99))) v R L) : HS w B G.length (overN G R (k + 1)) v R L := by
  refine h.congr (fun i _ => ?_) (fun _ _ => rfl) (fun _ _ _ => rfl)
  unfold overN
  by_cases e : i = k
  · subst e; rw [upd_at, if_pos (by omega)]
  · rw [upd_off _ _ _ e]
    by_cases h : i < k
    · rw [if_pos h, if_pos (by omega)]
    · rw [if_neg h, if_neg (by omega)]
theorem want_len {G : List Nd} {w0 : World} {b o : Nat} (hG : GraphAt w0 b o G) (k : Nat) : (wantN G k).subs.length ≤ maxLen := by
  by_cases h : k < G.length
  · rw [wantN_at G k h]; exact (hG k h).slen
  · rw [wantN_off G k (by omega)]; simp [markN]
theorem out_len (G : List Nd) (R : Nat → Option Nat) (k : Nat) : (outN G R k).subs.length = (wantN G k).subs.length := by
  unfold outN wantN
  cases G[k]? with
  | none => rfl
  | some x => cases R k <;> rfl
theorem want_ints {G : List Nd} {w0 w : World} {b o : Nat} (hG : GraphAt w0 b o G) (hb : Below w0.heap.size w0 w) (k : Nat) : IntsAt w (wantN G k).sa (wantN G k).subs := by
  by_cases h : k < G.length
  · rw [wantN_at G k h]; exact ((hG k h).below hb).ints
  · rw [wantN_off G k (by omega)]; exact ints_mark _ _
theorem out_ints {G : List Nd} {w0 w : World} {b o : Nat} {R : Nat → Option Nat} {f : Nat → Nd} {v : Nat → Value} (hG : GraphAt w0 b o G) (_hf : Fit G R G.length) (h : HS w w0.heap.size G.length f v R (rowL G)) (hb : Below w0.heap.size w0 w) (k : Nat) : IntsAt w (outN G R k).sa (outN G R k).subs := by
  by_cases hk : k < G.length
  · rw [outN_at G R k hk]
    cases hR : R k with
    | none => exact ((hG k hk).below hb).ints
    | some q =>
      have hr := (h.row k q hR).2.2
      rw [rowL_at G k hk] at hr
      refine Or.inr ⟨q, 0, rfl, fun j hj => ?_⟩
      change j < G[k].subs.length at hj
      rw [Nat.zero_add, (hr j (by simp; omega)).1]
      show some (Value.int .i64 ((G[k].subs ++ List.replicate 8 (-77)).getD j 0)) = some (Value.int .i64 (G[k].subs.getD j 0))
      simp only [List.getD, List.getElem?_append, if_pos hj]
  · rw [outN_off G R k (by omega)]; exact ints_mark _ _

set_option maxHeartbeats 2000000 in
set_option maxRecDepth 100000 in
theorem still_any (G : List Nd) (b o cap : Nat) (w0 w : World) (R : Nat → Option Nat) (hG : GraphAt w0 b o G) (hn : G.length ≤ 2199023255552) (hsl : ∀ i (h : i < G.length), G[i].subs.length ≤ 17592186044416) (hf : Fit G R G.length)
    (hb : Below w0.heap.size w0 w) (hs : HS w w0.heap.size G.length (outN G R) (whV G R) R (rowL G)) :
    Calls Tryd.prog 7 #[.slice (some ⟨w0.heap.size, 0, none⟩) (G.length + 8) (G.length + 8), .slice (some ⟨w0.heap.size + 1, 0, none⟩) G.length G.length, .slice (some ⟨b, o, none⟩) G.length cap] w
      fun e w' => e = .returned (.bool true) ∧ Below w0.heap.size w0 w' := by
  have HG : Hid _ := hG
  have HSL : Hid _ := hsl
  have HF : Hid _ := hf
  have HB : Hid _ := hb
  have HH : Hid _ := hs
  clear hG hsl hf hb hs
  go_enter Tryd.func7, Tryd.ntmps7
  go_wp2_with fail
  go_loopw [7] (fun i wr => ∃ k : Nat, k ≤ G.length + 8 ∧ i = .int .i64 k ∧ Hid (HS wr w0.heap.size G.length (overN G R k) (whV G R) R (rowL G)) ∧ Hid (Below w0.heap.size w0 wr)) (fun i _ => G.length + 8 - (intOf i).toNat)
  case atStart => exact ⟨0, by omega, rfl, HH.out.congr (fun i _ => by simp [overN]) (fun _ _ => rfl) (fun _ _ _ => rfl), HB.out⟩
  case round =>
    obtain ⟨k, hk, rfl, hs, hb⟩ := hrel
    clear HH HB
    by_cases hlt : k < G.length + 8
    · obtain ⟨wa, hwa⟩ : ∃ wa, Hid (wa = wr.alloc (.cells #[.int .i64 (-77), .string ⟨#[]⟩, .int .i64 0, .int .i64 0, .slice none 0 0] 26)) := ⟨_, rfl⟩
      have hxa : Below wr.heap.size wr wa := by rw [hwa.out]; exact below_box
      have hca : CellsN wa wr.heap.size 0 (markN (-77)) := by
        have hcl : ∀ j, wa.cell? ⟨wr.heap.size, j, none⟩ = (#[.int .i64 (-77), .string ⟨#[]⟩, .int .i64 0, .int .i64 0, .slice none 0 0] : Array Value)[j]? := fun j => by rw [hwa.out, World.cell?_alloc_at _ _ _ _ rfl]
        have hfl : ∀ j, wa.frozen? ⟨wr.heap.size, j, none⟩ = false := fun j => by rw [hwa.out, World.frozen?_alloc_at _ _ _ _ rfl]
        exact ⟨hcl 0, hcl 1, hcl 2, hcl 3, hcl 4, hfl _, hfl _, hfl _, hfl _, hfl _⟩
      have HSA : Hid _ := hs.out.same hxa
      have HW2 : Hid (w0.heap.size + 2 ≤ wr.heap.size) := hs.out.hB
      have HW0 : Hid (w0.heap.size ≤ wr.heap.size) := hb.out.size
      have HBA : Hid (Below w0.heap.size w0 wa) := hb.out.trans (hxa.mono hb.out.size)
      have HIO : Hid (∀ wx, HS wx w0.heap.size G.length (overN G R k) (whV G R) R (rowL G) → Below w0.heap.size w0 wx → IntsAt wx (outN G R k).sa (outN G R k).subs) := fun wx h1 h2 => out_ints HG.out HF.out h1 h2 k
      have HIW : Hid (∀ wx, Below w0.heap.size w0 wx → IntsAt wx (wantN G k).sa (wantN G k).subs) := fun wx h2 => want_ints HG.out h2 k
      have HWL : Hid ((wantN G k).subs.length ≤ maxLen) := want_len HG.out k
      have HOL : Hid ((outN G R k).subs.length ≤ maxLen) := by show _ ≤ _; rw [out_len]; exact HWL.out
      have hkI : (k : Int) < (G.length : Int) + 8 := by omega
      have hs0 : Hid _ := hs.out
      have hxa0 : Hid _ := hxa
      clear hxa hs hb
      by_cases hkn : k < G.length
      · obtain ⟨c0, c1, c2, c3, c4, ci, _, _⟩ := (HG.out k hkn).below HBA.out
        have hth : wa.there wr.heap.size 0 5 := hca.there
        obtain ⟨wb, hwb⟩ : ∃ wb, Hid (wb = setN wa wr.heap.size 0 G[k]) := ⟨setN wa wr.heap.size 0 G[k], show _ = _ from rfl⟩
        have hcb : CellsN wb wr.heap.size 0 (wantN G k) := by rw [hwb.out, wantN_at G k hkn]; exact hca.setAt _
        have HSB : Hid (HS wb w0.heap.size G.length (overN G R k) (whV G R) R (rowL G)) := by
          show HS _ _ _ _ _ _ _; rw [hwb.out]; exact HS.above hs0.out hxa0.out G[k]
        have HBB : Hid (Below w0.heap.size w0 wb) := by show Below _ _ _; rw [hwb.out]; exact setN_below HBA.out HW0.out
        clear hca HSA HBA ci
        go_upto_region 5 with fail
        rw [← hwa.out]
        go_upto_region 7 with ((with_reducible refine store_node wr.heap.size 0 G[k] hth ?_ ?_ ?_); rfl; rfl; rw [← hwb.out])
        obtain ⟨e0, e1, e2, e3, e4, _, _, _, _, _⟩ := hcb
        have e1' : wb.cell? ⟨wr.heap.size, 1, none⟩ = some (.string ⟨⟨(wantN G k).text⟩⟩) := e1
        have e2' : wb.cell? ⟨wr.heap.size, 2, none⟩ = some (.int .i64 (wantN G k).n) := e2
        have e3' : wb.cell? ⟨wr.heap.size, 3, none⟩ = some (.int .i64 (wantN G k).d) := e3
        have e4' : wb.cell? ⟨wr.heap.size, 4, none⟩ = some (.slice (wantN G k).sa (wantN G k).subs.length (wantN G k).cap) := e4
        obtain ⟨d0, d1, d2, d3, d4, _, _, _, _, _⟩ := HSB.out.out k hlt
        have HO : Hid (overN G R k k = outN G R k) := by show _ = _; unfold overN; rw [if_neg (by omega)]
        rw [HO.out] at d0 d1 d2 d3 d4
        have hwl : (wantN G k).subs.length ≤ maxLen := HWL.out
        have hol : (outN G R k).subs.length ≤ maxLen := HOL.out
        have HSN : ∀ m, Hid _ := fun m => sameNode_any (outN G R k) (wantN G k) (wb.drewN m) (HIO.out wb HSB.out HBB.out) (HIW.out wb HBB.out) hol hwl
        rw [same_out] at HSN
        clear e1 e2 e3 e4
        go_cut [9] (fun x9 wc => x9 = .bool true ∧ Hid (Below wb.heap.size wb wc))
        case first =>
          go_region_with (go_at_call 14; refine Calls.mono (HSN 1).out ?_; rintro e w' ⟨rfl, hb'⟩)
          all_goals
            have HBW : Hid (Below wb.heap.size wb w') := (below_drewN (Below.refl _ _) 1).trans hb'
            clear hb' HSN
            go_wp2_with fail
            go_meet
            case rel => exact ⟨rfl, HBW.out⟩
        case rest =>
          obtain ⟨rfl, hwc⟩ := hcut
          have HSC : Hid _ := HSB.out.same hwc.out
          have HBC : Hid (Below w0.heap.size w0 wc) := HBB.out.trans (hwc.out.mono HBB.out.size)
          have hth2 : wc.there w0.heap.size (k * 5) 5 := (HSC.out.out k hlt).there
          have HSD : Hid (HS (setN wc w0.heap.size (k * 5) (markN (-99))) w0.heap.size G.length (overN G R (k + 1)) (whV G R) R (rowL G)) := over_next (HSC.out.node (k := k) hlt (markN (-99)))
          have HBD : Hid (Below w0.heap.size w0 (setN wc w0.heap.size (k * 5) (markN (-99)))) := setN_below HBC.out (Nat.le_refl _)
          clear hwc HSC HSN d0 d1 d2 d3 d4 e0 e1' e2' e3' e4'
          go_wp2_with ((with_reducible refine store_node w0.heap.size (k * 5) (markN (-99)) hth2 ?_ ?_ ?_); rfl; rfl)
          go_roundw
          case rel => exact ⟨k + 1, by omega, by go_num, HSD.out, HBD.out⟩
          case measure => simp [intOf]; omega
      · obtain ⟨wb, hwb⟩ : ∃ wb, Hid (wb = wa) := ⟨_, rfl⟩
        have hcb : CellsN wb wr.heap.size 0 (wantN G k) := by rw [hwb.out, wantN_off G k (by omega)]; exact hca
        have HSB : Hid (HS wb w0.heap.size G.length (overN G R k) (whV G R) R (rowL G)) := by show HS _ _ _ _ _ _ _; rw [hwb.out]; exact HSA.out
        have HBB : Hid (Below w0.heap.size w0 wb) := by show Below _ _ _; rw [hwb.out]; exact HBA.out
        clear hca HSA HBA
        go_upto_region 5 with fail
        rw [← hwa.out, ← hwb.out]
        go_upto_region 7 with fail
        obtain ⟨e0, e1, e2, e3, e4, _, _, _, _, _⟩ := hcb
        have e1' : wb.cell? ⟨wr.heap.size, 1, none⟩ = some (.string ⟨⟨(wantN G k).text⟩⟩) := e1
        have e2' : wb.cell? ⟨wr.heap.size, 2, none⟩ = some (.int .i64 (wantN G k).n) := e2
        have e3' : wb.cell? ⟨wr.heap.size, 3, none⟩ = some (.int .i64 (wantN G k).d) := e3
        have e4' : wb.cell? ⟨wr.heap.size, 4, none⟩ = some (.slice (wantN G k).sa (wantN G k).subs.length (wantN G k).cap) := e4
        obtain ⟨d0, d1, d2, d3, d4, _, _, _, _, _⟩ := HSB.out.out k hlt
        have HO : Hid (overN G R k k = outN G R k) := by show _ = _; unfold overN; rw [if_neg (by omega)]
        rw [HO.out] at d0 d1 d2 d3 d4
        have hwl : (wantN G k).subs.length ≤ maxLen := HWL.out
        have hol : (outN G R k).subs.length ≤ maxLen := HOL.out
        have HSN : ∀ m, Hid _ := fun m => sameNode_any (outN G R k) (wantN G k) (wb.drewN m) (HIO.out wb HSB.out HBB.out) (HIW.out wb HBB.out) hol hwl
        rw [same_out] at HSN
        clear e1 e2 e3 e4
        go_cut [9] (fun x9 wc => x9 = .bool true ∧ Hid (Below wb.heap.size wb wc))
        case first =>
          go_region_with (go_at_call 14; refine Calls.mono (HSN 1).out ?_; rintro e w' ⟨rfl, hb'⟩)
          all_goals
            have HBW : Hid (Below wb.heap.size wb w') := (below_drewN (Below.refl _ _) 1).trans hb'
            clear hb' HSN
            go_wp2_with fail
            go_meet
            case rel => exact ⟨rfl, HBW.out⟩
        case rest =>
          obtain ⟨rfl, hwc⟩ := hcut
          have HSC : Hid _ := HSB.out.same hwc.out
          have HBC : Hid (Below w0.heap.size w0 wc) := HBB.out.trans (hwc.out.mono HBB.out.size)
          have hth2 : wc.there w0.heap.size (k * 5) 5 := (HSC.out.out k hlt).there
          have HSD : Hid (HS (setN wc w0.heap.size (k * 5) (markN (-99))) w0.heap.size G.length (overN G R (k + 1)) (whV G R) R (rowL G)) := over_next (HSC.out.node (k := k) hlt (markN (-99)))
          have HBD : Hid (Below w0.heap.size w0 (setN wc w0.heap.size (k * 5) (markN (-99)))) := setN_below HBC.out (Nat.le_refl _)
          clear hwc HSC HSN d0 d1 d2 d3 d4 e0 e1' e2' e3' e4'
          go_wp2_with ((with_reducible refine store_node w0.heap.size (k * 5) (markN (-99)) hth2 ?_ ?_ ?_); rfl; rfl)
          go_roundw
          case rel => exact ⟨k + 1, by omega, by go_num, HSD.out, HBD.out⟩
          case measure => simp [intOf]; omega
    · obtain rfl : k = G.length + 8 := by omega
      have HH : Hid (HS wr w0.heap.size G.length (overN G R (G.length + 8)) (whV G R) R (rowO G 0 0)) := hs.out.congr (fun _ _ => rfl) (fun _ _ => rfl) (fun i q hq => by rw [rowO_0])
      have HB : Hid (Below w0.heap.size w0 wr) := hb.out
      clear hs hb
      go_wp2_with fail
      go_loopw [10] (fun i wr => ∃ k : Nat, k ≤ G.length ∧ i = .int .i64 k ∧ Hid (HS wr w0.heap.size G.length (overN G R (G.length + 8)) (whV G R) R (rowO G k 0)) ∧ Hid (Below w0.heap.size w0 wr)) (fun i _ => G.length - (intOf i).toNat)
      case atStart => exact ⟨0, by omega, rfl, HH.out, HB.out⟩
      case round =>
        obtain ⟨k, hk, rfl, hs, hb⟩ := hrel
        clear HH HB
        by_cases hlt : k < G.length
        · have c4 := ((HG.out k hlt).below hb.out).subs
          have hsk := HSL.out k hlt
          have HS0 : Hid (HS wr w0.heap.size G.length (overN G R (G.length + 8)) (whV G R) R (rowO G k 0)) := hs.out
          go_wp2_with fail
          go_loopw [12] (fun i wr => ∃ m : Nat, m ≤ lenW G R k ∧ i = .int .i64 m ∧ Hid (HS wr w0.heap.size G.length (overN G R (G.length + 8)) (whV G R) R (rowO G k m)) ∧ Hid (Below w0.heap.size w0 wr)) (fun i _ => lenW G R k - (intOf i).toNat)
          case atStart => exact ⟨0, by omega, rfl, hs.out, hb.out⟩
          case round =>
            obtain ⟨m, hm, rfl, hs, hb⟩ := hrel
            obtain ⟨e1, _⟩ := hs.out.who k hlt
            have c4 := ((HG.out k hlt).below hb.out).subs
            have HIN : Hid _ := ((HG.out k hlt).below hb.out).ints
            cases hR : R k with
            | none =>
              have hv : whV G R k = .slice none 0 0 := by unfold whV; rw [hR]; cases G[k]? <;> rfl
              have hl0 : lenW G R k = 0 := by unfold lenW; rw [hR]
              rw [hv] at e1
              obtain rfl : m = 0 := by omega
              have HNX : Hid _ := row_none hR hs.out
              have HHB : Hid _ := hb.out
              clear hs hb hm HIN hv hl0 HS0
              go_wp2_with fail
              go_roundw
              case rel => exact ⟨k + 1, by omega, by go_num, HNX.out, HHB.out⟩
              case measure => simp [intOf]; omega
            | some q =>
              have hrl : (rowL G k).length = G[k].subs.length + 8 := by rw [rowL_at G k hlt]; simp
              have hv : whV G R k = .slice (some ⟨q, 0, none⟩) (G[k].subs.length + 8) (G[k].subs.length + 8) := by unfold whV; rw [hR, List.getElem?_eq_getElem hlt]
              have hl0 : lenW G R k = G[k].subs.length + 8 := by unfold lenW; rw [hR]; exact hrl
              rw [hv] at e1
              rw [hl0] at hm ⊢
              by_cases hm8 : m < G[k].subs.length + 8
              · have hrow : rowO G k m k = List.replicate m (-99) ++ (rowL G k).drop m := by unfold rowO; rw [if_neg (by omega), if_pos rfl]
                have hrlen : (rowO G k m k).length = G[k].subs.length + 8 := by rw [hrow]; simp [hrl]; omega
                obtain ⟨g1, g2⟩ := (hs.out.row k q hR).2.2 m (by rw [hrlen]; exact hm8)
                have hget : (rowO G k m k).getD m 0 = if m < G[k].subs.length then G[k].subs.getD m 0 else -77 := row_get G k m hlt hm8
                rw [hget] at g1
                have HNX : Hid _ := row_step (hs.out.number hR (a := m) (by rw [hrlen]; exact hm8) (-99)) (by omega)
                have HHB : Hid (Below w0.heap.size w0 (wr.setCell ⟨q, m, none⟩ (.int .i64 (-99)))) := hb.out.setCell (p := ⟨q, m, none⟩) (by have := (hs.out.row k q hR).1; show w0.heap.size ≤ q; omega) _
                have HHD : Hid _ := hl0
                clear hs hb hv hl0 hrow hrlen hget HS0 hrl
                by_cases hml : m < G[k].subs.length
                · rw [if_pos hml] at g1
                  obtain ⟨b2, o2, hsa, hci⟩ := IntsAt.some HIN.out hml
                  have ci := hci m hml
                  rw [hsa] at c4
                  generalize G[k].subs.getD m 0 = z at *
                  generalize hsb : G[k].subs.length = n at *
                  generalize G[k].cap = cp at *
                  clear hci hsa HIN
                  have hmI : (m : Int) < (n : Int) := by omega
                  have hge : decide (n ≤ m) = false := decide_eq_false (by omega)
                  have hmI8 : (m : Int) < (n : Int) + 8 := by omega
                  go_wp2_with fail
                  go_quiet (fail)
                  go_wp2_with fail
                  go_roundw
                  case rel => exact ⟨m + 1, by first | omega | (rw [HHD.out]; omega), by go_num, HNX.out.same (below_drewN (Below.refl _ _) _), below_drewN HHB.out _⟩
                  case measure => simp [intOf]; omega
                · rw [if_neg hml] at g1
                  generalize hsb : G[k].subs.length = n at *
                  generalize G[k].cap = cp at *
                  generalize G[k].sa = sa at *
                  clear HIN
                  have hmI : decide ((m : Int) < (n : Int)) = false := decide_eq_false (by omega)
                  have hmI2 : (n : Int) ≤ (m : Int) := by omega
                  have hmI8 : (m : Int) < (n : Int) + 8 := by omega
                  go_wp2_with fail
                  go_quiet (fail)
                  go_wp2_with fail
                  go_roundw
                  case rel => exact ⟨m + 1, by first | omega | (rw [HHD.out]; omega), by go_num, HNX.out.same (below_drewN (Below.refl _ _) _), below_drewN HHB.out _⟩
                  case measure => simp [intOf]; omega
              · obtain rfl : m = G[k].subs.length + 8 := by omega
                have HNX : Hid (HS wr w0.heap.size G.length (overN G R (G.length + 8)) (whV G R) R (rowO G (k + 1) 0)) := row_next (by rw [hrl]; exact hs.out)
                have HHB : Hid _ := hb.out
                clear hs hb hm HIN hv HS0 hrl hm8
                generalize hsb : G[k].subs.length = n at *
                generalize G[k].cap = cp at *
                generalize G[k].sa = sa at *
                go_wp2_with fail
                go_roundw
                case rel => exact ⟨k + 1, by omega, by go_num, HNX.out, HHB.out⟩
                case measure => simp [intOf]; omega
        · go_wp2_with fail
          go_ret
          exact ⟨rfl, hb.out⟩
end Go.Proofs.YtlhimdjkkiflhaaDoor
