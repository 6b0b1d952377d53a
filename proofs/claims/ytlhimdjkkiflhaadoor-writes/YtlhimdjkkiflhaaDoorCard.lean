/-
  Every Write of the program, at whatever nodes and whatever mode it is called with, answers as the document's Write does; what is handed over, and what lies in the spare room behind it, is as it was. Its conditions: those of the form alone (no string and no slice beyond the reach); the tables of strconv and of math/bits hold what the program's text lays.
-/
import Derived.Test.YtlhimdjkkiflhaaDoorLaw4
import Derived.Deep.Slices
import Derived.Lib.LaidTab
import Derived.SizedLaws
import Derived.OpenShut
import Derived.ProofKit
import Derived.WideShapes
import Derived.Test.YtlhimdjkkiflhaaDoorCards
import Derived.Test.YtlhimdjkkiflhaaDoorTie
import Derived.WalkKit
import Derived.Deep.DeepHandedRow
import Derived.Carry
namespace Go.Proofs.YtlhimdjkkiflhaaDoor
open Go.ChangeShapes Go.WideShapes Go.ChangeAt Go.RowKit Go.Loop Go.Deep

theorem gPow : Tryd.prog.globalNamed "internal/strconv.uint64pow10" = some 0 := by kernel_rfl
theorem gPowType : (Tryd.prog.globals[0]?).map (·.type) = some 114 := by kernel_rfl
theorem cellsPow : Tryd.prog.cellsOf 114 = 20 := by kernel_rfl
theorem cellsU64 : Tryd.prog.cellsOf 107 = 1 := by kernel_rfl
theorem cellsInt : Tryd.prog.cellsOf 3 = 1 := by kernel_rfl
theorem cellsStr : Tryd.prog.cellsOf 9 = 1 := by kernel_rfl
theorem cellsInts : Tryd.prog.cellsOf 24 = 1 := by kernel_rfl
theorem cellsNode : Tryd.prog.cellsOf 26 = 5 := by kernel_rfl
theorem bytesInt : Tryd.prog.bytesOf 3 = 8 := by kernel_rfl
theorem bytesNode : Tryd.prog.bytesOf 26 = 64 := by kernel_rfl

/-- the table of powers, out of what the row lists -/
theorem pow_of_laid {W : World} (h : laidMetH Tryd.prog Rows.writesRow.laid W) : Pow W := by
  have h' : laidMet Tryd.prog Rows.writesRow.laid W := h
  obtain ⟨ps, hl, _, _⟩ := h'
  obtain ⟨_, _, _, _, _, _, _, _, _, _, hl2, _⟩ := hl
  obtain ⟨_, _, _, _, _, _, _, _, _, _, hl3, _⟩ := hl2
  obtain ⟨g', t', cs, fuel, p, q, hg', ht', hvar, hd, _, _⟩ := hl3
  obtain rfl := Option.some.inj (gPow.symm.trans hg')
  obtain rfl := Option.some.inj (gPowType.symm.trans ht')
  show Lib.TabIs _ _ _ _ _
  unfold Lib.TabIs
  rw [hvar, ← Lib.cells_of_tab (k := .u64) (zs := Lib.pow10Tab) Tryd.underlying114 Tryd.underlying107 cellsU64 cellsPow hd]

section
variable {H : Type} {enc : TypeId × Value → H} {W : World}

theorem five {α : Type} : ∀ (l : List α), l.length = 5 → ∃ a b c d e, l = [a, b, c, d, e]
  | [a, b, c, d, e], _ => ⟨a, b, c, d, e, rfl⟩
set_option maxRecDepth 100000 in
/-- a node that was read -/
theorem node_read {n : Nat} {b o : Nat} {cs : List Value} {d : DataW H} {pl : List MemPlace} (hc : W.cells? 0 ⟨b, o, none⟩ 5 = some cs) (h : DataW.trod enc Tryd.prog W 0 (fun _ => true) true n 26 cs = some (d, pl))
    (hw : (d.weights Tryd.prog 26).all (· ≤ reachBytes) = true) : ∃ x : Nd, NodeAt W b o x ∧ x.subs.length ≤ 17592186044416 ∧ x.text.length ≤ 140737488355328 := by
  obtain ⟨_, hlen, hcell⟩ := World.cells?_some hc
  obtain ⟨xs, m, rfl, hx, _, hxl, hf⟩ := DataW.trod_struct Tryd.underlying26 h
  obtain ⟨v0, v1, v2, v3, v4, rfl⟩ := five cs hlen
  obtain ⟨x0, x1, x2, x3, x4, rfl⟩ := five xs hxl
  · have f0 : DataW.trod enc Tryd.prog W 0 (fun _ => true) true m 3 (([v0, v1, v2, v3, v4].drop 0).take (Tryd.prog.cellsOf 3)) = some x0 := hf 0 _ rfl
    have f1 : DataW.trod enc Tryd.prog W 0 (fun _ => true) true m 9 (([v0, v1, v2, v3, v4].drop 1).take (Tryd.prog.cellsOf 9)) = some x1 := hf 1 _ rfl
    have f2 : DataW.trod enc Tryd.prog W 0 (fun _ => true) true m 3 (([v0, v1, v2, v3, v4].drop 2).take (Tryd.prog.cellsOf 3)) = some x2 := hf 2 _ rfl
    have f3 : DataW.trod enc Tryd.prog W 0 (fun _ => true) true m 3 (([v0, v1, v2, v3, v4].drop 3).take (Tryd.prog.cellsOf 3)) = some x3 := hf 3 _ rfl
    have f4 : DataW.trod enc Tryd.prog W 0 (fun _ => true) true m 24 (([v0, v1, v2, v3, v4].drop 4).take (Tryd.prog.cellsOf 24)) = some x4 := hf 4 _ rfl
    rw [cellsInt] at f0 f2 f3
    rw [cellsStr] at f1
    rw [cellsInts] at f4
    change DataW.trod enc Tryd.prog W 0 (fun _ => true) true m 3 [v0] = some x0 at f0
    change DataW.trod enc Tryd.prog W 0 (fun _ => true) true m 9 [v1] = some x1 at f1
    change DataW.trod enc Tryd.prog W 0 (fun _ => true) true m 3 [v2] = some x2 at f2
    change DataW.trod enc Tryd.prog W 0 (fun _ => true) true m 3 [v3] = some x3 at f3
    change DataW.trod enc Tryd.prog W 0 (fun _ => true) true m 24 [v4] = some x4 at f4
    obtain ⟨k, e0, _, _⟩ := DataW.trod_int Tryd.underlying3 f0
    obtain ⟨s, e1, y1, hs⟩ := DataW.trod_string Tryd.underlying9 f1
    obtain ⟨nn, e2, _, _⟩ := DataW.trod_int Tryd.underlying3 f2
    obtain ⟨dd, e3, _, _⟩ := DataW.trod_int Tryd.underlying3 f3
    simp only [List.cons.injEq, and_true] at e0 e1 e2 e3
    subst e0 e1 e2 e3
    have g : ∀ i, i < 5 → W.cell? ⟨b, o + i, none⟩ = [Value.int .i64 k, .string s, .int .i64 nn, .int .i64 dd, v4][i]? := fun i hi => by
      have := hcell i hi; rw [Addr.add_mid] at this; exact this
    have hd : d = .agg ([x0, x1, x2, x3, x4].map (·.1)) := (Prod.mk.inj hx).1
    have hall : ∀ z ∈ d.weights Tryd.prog 26, z ≤ reachBytes := fun z hz => by simpa using List.all_eq_true.1 hw z hz
    have hmem : ∀ (j : Nat) (t : TypeId) (y : DataW H), [3, 9, 3, 3, 24][j]? = some t → ([x0, x1, x2, x3, x4].map (·.1))[j]? = some y → ∀ z ∈ y.weights Tryd.prog t, z ≤ reachBytes := fun j t y ht hy z hz => by
      refine hall z ?_
      rw [hd]
      simp only [DataW.weights, Tryd.underlying26]
      exact DataW.weights_mem_each (ts := [3, 9, 3, 3, 24]) ht hy z hz
    have htx : s.data.toList.length ≤ reachBytes := by
      refine hmem 1 9 x1.1 rfl rfl _ ?_
      rw [y1]; simp [DataW.weights]
    have hr : reachBytes = 140737488351232 := rfl
    rcases open_ints Tryd.underlying24 Tryd.underlying3 cellsInt f4 with ⟨hcs, _⟩ | ⟨a, len, cap, zs, hcs, _, hl, hm, hz, hx4, hcl, _⟩
    · simp only [List.cons.injEq, and_true] at hcs
      subst hcs
      exact ⟨⟨k, s.data.toList, nn, dd, [], none, 0⟩, ⟨g 0 (by omega), g 1 (by omega), g 2 (by omega), g 3 (by omega), g 4 (by omega), Or.inl rfl, hs, by show 0 ≤ _; omega⟩, by show 0 ≤ _; omega, by show s.data.toList.length ≤ _; omega⟩
    · simp only [List.cons.injEq, and_true] at hcs
      subst hcs
      simp only [if_true] at hz
      have htl : (zs.take len).length = len := by rw [List.length_take]; omega
      have hb8 : (len + (cap - len)) * 8 ≤ reachBytes := by
        refine hmem 4 24 x4.1 rfl rfl _ ?_
        rw [hx4]
        simp only [DataW.weights, Tryd.underlying24, bytesInt]
        simp [lits, hz]
        left
        rw [Nat.min_eq_left hl]
      refine ⟨⟨k, s.data.toList, nn, dd, zs.take len, some a, cap⟩, ⟨g 0 (by omega), g 1 (by omega), g 2 (by omega), g 3 (by omega), ?_, ?_, hs, ?_⟩, ?_, by show s.data.toList.length ≤ _; omega⟩
      · show _ = some (Value.slice (some a) (zs.take len).length cap)
        rw [htl]; exact g 4 (by omega)
      · by_cases h0 : len = 0
        · left; subst h0; rfl
        · right
          obtain ⟨b', o', sp⟩ := a
          have hsp : sp = none := by simpa [Addr.add] using World.cell?_spot (hcl 0 (by omega))
          subst hsp
          refine ⟨b', o', rfl, fun j hj => ?_⟩
          change j < (zs.take len).length at hj
          rw [htl] at hj
          have := hcl j (by omega)
          rw [Addr.add_mid] at this
          rw [this]
          show some (Value.int .i64 (zs.getD j 0)) = some (Value.int .i64 ((zs.take len).getD j 0))
          simp only [List.getD, List.getElem?_take, if_pos hj]
      · show (zs.take len).length ≤ _; rw [htl]; omega
      · show (zs.take len).length ≤ _; rw [htl]; omega

theorem weights_all {e : TypeId} : ∀ {l : List (DataW H)} {d : DataW H}, d ∈ l → ∀ z ∈ d.weights Tryd.prog e, z ∈ DataW.weightsAll Tryd.prog e l
  | x :: r, d, hd, z, hz => by
    simp only [DataW.weightsAll, List.mem_append]
    rcases List.mem_cons.1 hd with rfl | h
    · exact Or.inl hz
    · exact Or.inr (weights_all h z hz)

set_option maxRecDepth 100000 in
/-- the nodes that were read -/
theorem nodes_read {v : Value} {d : DataW H} {ps : List MemPlace} {base : Nat} (hv : Value.okWide Tryd.prog W .any base 22 v) (h : DataW.Trod enc Tryd.prog W 0 (fun _ => true) true 22 v d ps)
    (hw : (d.weights Tryd.prog 22).all (· ≤ reachBytes) = true) :
    v = .slice none 0 0 ∨ ∃ (b o cap : Nat) (G : List Nd), v = .slice (some ⟨b, o, none⟩) G.length cap ∧ GraphAt W b o G ∧ G.length ≤ 2199023255552 ∧ (∀ i (h : i < G.length), G[i].subs.length ≤ 17592186044416) ∧ (∀ i (h : i < G.length), G[i].text.length ≤ 140737488355328) := by
  obtain ⟨fuel, hf⟩ := h
  obtain ⟨a0, l0, c0, rfl⟩ := okWide_slice Tryd.underlying22 hv
  rcases open_slice Tryd.underlying22 hf with ⟨hcs, _⟩ | ⟨a, len, cap, m, n, D, Pl, hcs, _, hl, hm, hmm, hx, hel⟩
  · left
    simpa [Value.cells] using hcs
  · right
    simp [Value.cells] at hcs
    obtain ⟨rfl, rfl, rfl⟩ := hcs
    simp only [if_true] at hmm
    subst hmm
    obtain ⟨b, o, sp⟩ := a
    have hsp : sp = none := by
      simp only [Value.okWide, Cell.okWide, Cell.ok, Tryd.underlying22] at hv
      exact hv.2.2.2.1
    subst hsp
    have hd : d = .slice ((List.range l0).map D) ((List.range (m - l0)).map fun j => D (l0 + j)) := (Prod.mk.inj hx).1
    have hr : reachBytes = 140737488351232 := rfl
    have hall : ∀ z ∈ d.weights Tryd.prog 22, z ≤ reachBytes := fun z hz => by simpa using List.all_eq_true.1 hw z hz
    have h64 : (l0 + (m - l0)) * 64 ≤ reachBytes := by
      refine hall _ ?_
      rw [hd]; simp [DataW.weights, Tryd.underlying22, bytesNode]
    have each : ∀ i, i < l0 → ∃ x : Nd, NodeAt W b (o + i * 5) x ∧ x.subs.length ≤ 17592186044416 ∧ x.text.length ≤ 140737488355328 := fun i hi => by
      obtain ⟨cs', h1, h2⟩ := hel i (by omega)
      rw [cellsNode, Addr.add_mid] at h1
      refine node_read h1 h2 ?_
      rw [List.all_eq_true]
      intro z hz
      have : z ≤ reachBytes := by
        refine hall z ?_
        rw [hd]
        simp only [DataW.weights, Tryd.underlying22, List.mem_cons, List.mem_append]
        exact Or.inr (Or.inl (weights_all (List.mem_map.2 ⟨i, List.mem_range.2 hi, rfl⟩) z hz))
      simpa using this
    have inh : Inhabited Nd := ⟨zeroN⟩
    obtain ⟨f, hfn⟩ := choose_lt (α := Nd) each
    refine ⟨b, o, m, (List.range l0).map f, by simp, fun i hi => ?_, by simp; omega, fun i hi => ?_, fun i hi => ?_⟩
    · have : i < l0 := by simpa using hi
      simpa using (hfn i this).1
    · have : i < l0 := by simpa using hi
      simpa using (hfn i this).2.1
    · have : i < l0 := by simpa using hi
      simpa using (hfn i this).2.2
end
end Go.Proofs.YtlhimdjkkiflhaaDoor

namespace Go.Proofs.YtlhimdjkkiflhaaDoor
open Go.ChangeShapes Go.WideShapes Go.ChangeAt Go.RowKit Go.Loop

theorem own : ownKnob Tryd.prog.godebug = none := by kernel_rfl
theorem laidOut : laidOutB Tryd.prog = true := by kernel_rfl

set_option maxRecDepth 100000 in
/-- what the walk gives, for every argument -/
theorem contract (H : Type) (enc : TypeId × Value → H) (W : World) (base : Nat) (args : Array Value) (ds gs : List (DataW H)) (before : List MemPlace)
    (hval : ∀ (j : Nat) t v, Tryd.f3.params[j]? = some t → args[j]? = some v → Value.okWide Tryd.prog W .any base t v)
    (hW : DataW.Whole enc Tryd.prog Tryd.f3.params.toList Rows.writesSpec.vars false W args.toList ds gs before)
    (hwt : (DataW.weightsEach Tryd.prog (Tryd.f3.params.toList ++ (OpenSpec.ofChange Rows.writesSpec).bare.plain.varTypes Tryd.prog) (ds ++ gs)).all (· ≤ reachBytes) = true)
    (hL : laidMetH Tryd.prog Rows.writesRow.laid W) :
    Calls Tryd.prog 3 args W fun e W' => ∃ v, e = .returned v ∧ Rows.writesSpec.post enc Tryd.prog Tryd.f3 false true false false W args v W' := by
  have hW' := hW
  obtain ⟨p, q, hA0, hV, rfl, hfz, hnd⟩ := hW
  have hA : DataW.TrodAll enc Tryd.prog W 0 (fun _ => true) true Tryd.f3.params.toList args.toList ds p := hA0
  rw [Tryd.params3] at hA hval hwt
  obtain ⟨v0, v1, d0, d1, p0, p1, rfl, rfl, rfl, h0, h1⟩ := trodAll_two hA
  obtain ⟨rfl, rfl⟩ := trodVars_none hV
  have h0k := h0
  have h1k := h1
  have hv0 := hval 0 22 v0 rfl rfl
  obtain ⟨mode, rfl, rfl, rfl, hwf⟩ := open_int Tryd.underlying3 (hval 1 3 v1 rfl rfl) h1
  simp only [List.append_nil] at hW'
  have hlt : ∀ x ∈ p0, x.block < W.heap.size := fun x hx => by simpa using hW'.lt x (by simp [hx])
  have hw0 : (d0.weights Tryd.prog 22).all (· ≤ reachBytes) = true := by
    rw [List.all_eq_true] at hwt ⊢
    intro z hz
    exact hwt z (DataW.weights_mem_each (j := 0) rfl rfl z hz)
  have hp : Pow W := pow_of_laid hL
  have hv : ∃ a n c, v0 = .slice a n c := okWide_slice Tryd.underlying22 hv0
  have hs : LawSaid v0 mode W := by
    rcases nodes_read hv0 h0 hw0 with rfl | ⟨b, o, cap, G, rfl, hG, hn, hsl, htx⟩
    · exact fun w1 hb => (write_nil mode w1).mono fun e w' ⟨he, hw⟩ => ⟨he, by rw [hw]; exact Below.refl _ _⟩
    · exact fun w1 hb => write_any G b o cap mode w1 (hG.below hb) (hp.on hb) hn hsl htx
  refine (writes_any v0 hv mode W hp hs).mono fun e W' ⟨he, hb⟩ => ?_
  subst he
  refine ⟨_, rfl, ?_⟩
  have hargs : DataW.TrodAll enc Tryd.prog W' 0 (fun b => decide (b < W.heap.size)) true [22, 3] [v0, .int .i64 mode] [d0, .lit (.int .i64 mode)] p0 := by
    have := trodAll_mk2 (Below.trod laidOut (by kernel_rfl) (of_decide_eq_true (by kernel_rfl)) h0k hb hlt) (shut_int Tryd.underlying3 hwf)
    rwa [List.append_nil] at this
  exact ⟨_, _, _, [], p0, [], hW', trodAll_mk1 (shut_bool Tryd.underlying4 _), hargs, rfl, hb.frame _, fun h => by cases h⟩

def tab32 : List Int := [0, 1, 28, 2, 29, 14, 24, 3, 30, 22, 20, 15, 25, 17, 4, 8, 31, 27, 13, 23, 21, 19, 16, 7, 26, 12, 18, 6, 11, 5, 10, 9]
def tab64 : List Int := [0, 1, 56, 2, 57, 49, 28, 3, 61, 58, 42, 50, 38, 29, 17, 4, 62, 47, 59, 36, 45, 43, 51, 22, 53, 39, 33, 30, 24, 18, 12, 5, 63, 55, 48, 27, 60, 41, 37, 16, 46, 35, 44, 21, 52, 32, 23, 11, 54, 26, 40, 15, 34, 20, 31, 10, 25, 14, 19, 9, 13, 8, 7, 6]
def putCells (cs : Array Value) : Obj → Obj
  | .cells _ t frozen => .cells cs t frozen
  | o => o
theorem laid_met (os : Os) : laidMet Tryd.prog Rows.writesRow.laid (({ World.holding Tryd.prog os ⟨#[], #[], []⟩ with heap := (((World.holding Tryd.prog os ⟨#[], #[], []⟩).heap.modify 0 (putCells (Lib.pow10Tab.map (Value.int .u64)).toArray)).modify 2 (putCells (tab32.map (Value.int .u8)).toArray)).modify 3 (putCells (tab64.map (Value.int .u8)).toArray) } : World).forCall (fun _ _ => 0) ⟨#[], #[.slice none 0 0, .int .i64 0], []⟩).memory :=
  laidMet_of_run' 8 (by kernel_rfl) (by kernel_rfl)
theorem reads (os : Os) {H : Type} (enc : TypeId × Value → H) : ∃ places, DataW.whole enc Tryd.prog (({ World.holding Tryd.prog os ⟨#[], #[], []⟩ with heap := (((World.holding Tryd.prog os ⟨#[], #[], []⟩).heap.modify 0 (putCells (Lib.pow10Tab.map (Value.int .u64)).toArray)).modify 2 (putCells (tab32.map (Value.int .u8)).toArray)).modify 3 (putCells (tab64.map (Value.int .u8)).toArray) } : World).forCall (fun _ _ => 0) ⟨#[], #[.slice none 0 0, .int .i64 0], []⟩).memory Tryd.f3.params.toList Rows.writesSpec.vars false #[Value.slice none 0 0, .int .i64 0].toList 8 = some ([.nil, .lit (.int .i64 0)], [], places) :=
  ⟨[], by kernel_rfl⟩

set_option maxRecDepth 100000 in
theorem lifted (os : Os) (started : os.Started) (H : Type) (enc : TypeId × Value → H) (F : Stop.Interp) :
    ReturnsInHanded {} Tryd.checked os 3 .any ((OpenSpec.ofChange Rows.writesSpec).preRow enc Tryd.prog Tryd.f3 Rows.writesRow.domain false Rows.writesRow.laid) (((OpenSpec.ofChange Rows.writesSpec).at F).post enc Tryd.prog Tryd.f3 false true false false) := by
  obtain ⟨places, hx⟩ := reads os enc
  refine returnsInHanded_of_row (C := Tryd.checked) (s := OpenSpec.ofChange Rows.writesSpec) own started (by kernel_rfl) Tryd.func3
    (witness_row_at (enc := enc) (C := Tryd.checked) false ({ World.holding Tryd.prog os ⟨#[], #[], []⟩ with heap := (((World.holding Tryd.prog os ⟨#[], #[], []⟩).heap.modify 0 (putCells (Lib.pow10Tab.map (Value.int .u64)).toArray)).modify 2 (putCells (tab32.map (Value.int .u8)).toArray)).modify 3 (putCells (tab64.map (Value.int .u8)).toArray) } : World) #[.slice none 0 0, .int .i64 0] rfl (by kernel_rfl) (by kernel_rfl) (by kernel_rfl)
      (OpenSpec.preRow_of_cond 8 hx (by kernel_rfl) (fun k hk => by cases hk) (by kernel_rfl) (laid_met os))) ?_
  intro W base args ds gs before hval hW _ _ hwt hL _ _
  exact contract H enc W base args ds gs before hval hW hwt hL

theorem said : Rows.WritesSaid :=
  OpenClaim.holds_of_cond 3 Tryd.f3 rfl rfl rfl rfl rfl rfl rfl ⟨rfl, rfl, rfl, rfl, rfl⟩ rfl rfl rfl rfl rfl (by kernel_rfl) Tryd.func3 (by kernel_rfl)
    (of_decide_eq_true (by kernel_rfl)) (by unfold Func.isWrapper; first | (rw [if_pos (by decide +kernel)]; kernel_rfl) | (rw [if_neg (by decide +kernel)]; exact ⟨rfl, rfl⟩))
    (fun os started H enc _ F => by rw [OpenClaim.pre_eq_preRow]; exact lifted os started H enc F)

theorem plain (f : FuncId) (fn : Func) (hf : Tryd.pinned.checked.prog.funcNamed "looptext/looptextlaw.Writes" = some f) (hfn : Tryd.pinned.checked.prog.funcs[f]? = some fn) :
    false = Tryd.pinned.checked.prog.looks [] ∧ ∀ (j : Nat) t, fn.params[j]? = some t → Tryd.pinned.checked.prog.wantsStandIn t = false := by
  obtain rfl : f = 3 := Option.some.inj ((show Tryd.prog.funcNamed "looptext/looptextlaw.Writes" = some 3 by kernel_rfl).symm.trans hf) |>.symm
  obtain rfl : fn = Tryd.f3 := (Option.some.inj (Tryd.func3.symm.trans hfn)).symm
  refine ⟨by kernel_rfl, fun j t ht => ?_⟩
  rw [Tryd.params3] at ht
  have hm : t ∈ [22, 3] := by simpa using Array.mem_of_getElem? ht
  have hall : ([22, 3].all fun u => !Tryd.prog.wantsStandIn u) = true := by kernel_rfl
  exact (show Tryd.prog.wantsStandIn t = false by simpa using List.all_eq_true.1 hall t hm)

/-- the card -/
theorem writes_card : Rows.WritesCardSaid :=
  Claim7.holds_tied_plain_at .later [] _ _ _ _ said (fun _ h => by cases h) (by kernel_rfl) (fun _ h => by cases h) writes_row_tie rfl ⟨rfl, rfl⟩ (by kernel_rfl) rfl plain (by kernel_rfl)
#print axioms writes_card
end Go.Proofs.YtlhimdjkkiflhaaDoor
