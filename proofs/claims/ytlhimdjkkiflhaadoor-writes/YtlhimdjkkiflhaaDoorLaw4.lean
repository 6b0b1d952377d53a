/- The law's write: the program's answer is the document's; what was handed over is as it was. -/
import Derived.Test.YtlhimdjkkiflhaaDoorLaw3
import Derived.Test.YtlhimdjkkiflhaaDoorOwnTop
import Derived.Test.YtlhimdjkkiflhaaDoorRank
namespace Go.Proofs.YtlhimdjkkiflhaaDoor
open Go.RowKit Go.Loop

/-- the nodes that were handed over -/
def handG (G : List Nd) (R : Nat → Option Nat) : List Nd := (List.range G.length).map (outN G R)
theorem handG_len (G : List Nd) (R : Nat → Option Nat) : (handG G R).length = G.length := by simp [handG]
theorem handG_get (G : List Nd) (R : Nat → Option Nat) (i : Nat) (h : i < (handG G R).length) : (handG G R)[i] = outN G R i := by simp [handG]
theorem handG_bare (G : List Nd) (R : Nat → Option Nat) : (handG G R).map bareN = G.map bareN := by
  apply List.ext_getElem
  · simp [handG]
  · intro i h1 h2
    simp only [List.getElem_map]
    rw [handG_get]
    rw [outN_at G R i (by simpa using h2)]
    cases R i <;> rfl
theorem handG_at {G : List Nd} {R : Nat → Option Nat} {w0 w : World} {b o : Nat} {v : Nat → Value} (hG : GraphAt w0 b o G) (hf : Fit G R G.length) (h : HS w w0.heap.size G.length (outN G R) v R (rowL G)) (hb : Below w0.heap.size w0 w) :
    GraphAt w w0.heap.size 0 (handG G R) := by
  intro i hi
  have hi' : i < G.length := by rw [handG_len] at hi; exact hi
  rw [handG_get, Nat.zero_add]
  obtain ⟨c0, c1, c2, c3, c4, _, _, _, _, _⟩ := h.out i (by omega)
  refine ⟨c0, c1, c2, c3, c4, out_ints hG hf h hb i, ?_, ?_⟩
  · rw [outN_at G R i hi']; have := (hG i hi').tlen; cases R i <;> exact this
  · rw [out_len, wantN_at G i hi']; exact (hG i hi').slen

set_option maxHeartbeats 2000000 in
set_option maxRecDepth 100000 in
theorem write_any (G : List Nd) (b o cap : Nat) (mode : Int) (w : World) (hG : GraphAt w b o G) (hp : Pow w) (hn : G.length ≤ 2199023255552) (hsl : ∀ i (h : i < G.length), G[i].subs.length ≤ 17592186044416) (htx : ∀ i (h : i < G.length), G[i].text.length ≤ 140737488355328) :
    Calls Tryd.prog 4 #[.slice (some ⟨b, o, none⟩) G.length cap, .int .i64 mode] w fun e w' => e = .returned (.bool true) ∧ Below w.heap.size w w' := by
  have HG : Hid _ := hG
  have HP : Hid _ := hp
  have HSL : Hid _ := hsl
  have HTX : Hid _ := htx
  have HML : Hid (G.length ≤ maxLen) := by show _ ≤ _; unfold maxLen; omega
  clear hG hp hsl htx
  go_enter Tryd.func4, Tryd.ntmps4
  go_wp2_with fail
  refine (handed_any G b o cap _ HG.out hn HSL.out).mono ?_
  rintro e w1 ⟨rfl, R, hs1, hf1, hb1⟩
  have HS1 : Hid _ := hs1
  have HF1 : Hid _ := hf1
  have HB1 : Hid _ := hb1
  have HGH : Hid (GraphAt w1 w.heap.size 0 (handG G R)) := handG_at HG.out hf1 hs1 hb1
  have HOW : Hid _ := ownWrite_any (handG G R) w.heap.size 0 (G.length + 8) mode 403 (Nat.le_refl _) w1 (by rw [handG_len]; exact HML.out) HGH.out (Pow.on HP.out hb1)
  rw [handG_len, writeP_same _ _ (handG_bare G R)] at HOW
  clear hs1 hf1 hb1 HGH
  go_wp2_with fail
  refine Calls.mono HOW.out ?_
  rintro e w2 ⟨rfl, hb2⟩
  have HS2 : Hid _ := HS1.out.same hb2
  have HB2 : Hid (Below w.heap.size w w2) := HB1.out.trans (hb2.mono HB1.out.size)
  clear hb2 HOW HS1
  go_wp2_with fail
  refine Calls.mono (still_any G b o cap w w2 R HG.out hn HSL.out HF1.out HB2.out HS2.out) ?_
  rintro e w3 ⟨rfl, hb3⟩
  have HB3 : Hid _ := hb3
  clear hb3 HS2
  go_wp2_with fail
  refine Calls.mono (refWriteTop_any G b o cap mode 403 (Nat.le_refl _) w3 HML.out (GraphAt.below HG.out HB3.out) HTX.out) ?_
  rintro e w4 ⟨rfl, hb4⟩
  have HB4 : Hid (Below w.heap.size w w4) := HB3.out.trans (hb4.mono HB3.out.size)
  clear hb4
  generalize (writeP G mode 403).1 = s at *
  generalize (writeP G mode 403).2 = z at *
  go_wp2_with fail
  go_ret
  exact ⟨rfl, HB4.out⟩
end Go.Proofs.YtlhimdjkkiflhaaDoor

/- No nodes at all (nil): the program, the document, the law. -/
namespace Go.Proofs.YtlhimdjkkiflhaaDoor
open Go.RowKit Go.Loop

/-- what Write gives of nil -/
def nilZ (mode : Int) : Int := if mode < 0 ∨ 2 < mode then 1 else 8

set_option maxHeartbeats 1000000 in
theorem right_nil (w : World) : Calls Tryd.prog 9 #[.slice none 0 0] w fun e w' => e = .returned (.bool false) ∧ w' = w := by
  go_enter Tryd.func9, Tryd.ntmps9
  go_wp2_with fail
  go_ret
  exact ⟨rfl, rfl⟩
set_option maxHeartbeats 1000000 in
theorem refGraph_nil (w : World) : Calls Tryd.prog 15 #[.slice none 0 0] w fun e w' => e = .returned (.bool false) ∧ w' = w := by
  go_enter Tryd.func15, Tryd.ntmps15
  go_wp2_with fail
  go_ret
  exact ⟨rfl, rfl⟩

set_option maxHeartbeats 1000000 in
theorem ownWrite_nil (mode : Int) (w : World) : Calls Tryd.prog 5 #[.slice none 0 0, .int .i64 mode] w fun e w' => e = .returned (.tuple #[.string ⟨#[]⟩, .int .i64 (nilZ mode)]) ∧ w' = w := by
  by_cases hm : mode < 0 ∨ 2 < mode
  · have HV : Hid (nilZ mode = 1) := by show _ = _; unfold nilZ; rw [if_pos hm]
    have m0 : (mode != 0) = true := by simp; omega
    have m1 : (mode != 1) = true := by simp; omega
    have m2 : (mode != 2) = true := by simp; omega
    go_enter Tryd.func5, Tryd.ntmps5
    go_wp2_with fail
    go_ret2
    exact ⟨ret_two (a := []) (a' := []) rfl (by rw [HV.out]), rfl⟩
  · have HV : Hid (nilZ mode = 8) := by show _ = _; unfold nilZ; rw [if_neg hm]
    have hmode : mode = 0 ∨ mode = 1 ∨ mode = 2 := by omega
    rcases hmode with rfl | rfl | rfl
    all_goals
      go_enter Tryd.func5, Tryd.ntmps5
      go_wp2_with (go_at_call 9; refine (right_nil _).mono ?_; rintro e w' ⟨rfl, rfl⟩)
      go_ret2
      exact ⟨ret_two (a := []) (a' := []) rfl (by rw [HV.out]), rfl⟩

set_option maxHeartbeats 1000000 in
theorem refWrite_nil (mode : Int) (w : World) : Calls Tryd.prog 8 #[.slice none 0 0, .int .i64 mode] w fun e w' => e = .returned (.tuple #[.string ⟨#[]⟩, .int .i64 (nilZ mode)]) ∧ w' = w := by
  by_cases hm : mode < 0 ∨ 2 < mode
  · have HV : Hid (nilZ mode = 1) := by show _ = _; unfold nilZ; rw [if_pos hm]
    go_enter Tryd.func8, Tryd.ntmps8
    go_wp2_with fail
    all_goals first
      | (exfalso; omega)
      | (go_ret2; exact ⟨ret_two (a := []) (a' := []) rfl (by rw [HV.out]), rfl⟩)
  · have HV : Hid (nilZ mode = 8) := by show _ = _; unfold nilZ; rw [if_neg hm]
    have m1 : 0 ≤ mode := by omega
    have m2 : mode ≤ 2 := by omega
    clear hm
    go_enter Tryd.func8, Tryd.ntmps8
    go_wp2_with (go_at_call 15; refine (refGraph_nil _).mono ?_; rintro e w' ⟨rfl, rfl⟩)
    go_ret2
    exact ⟨ret_two (a := []) (a' := []) rfl (by rw [HV.out]), rfl⟩

set_option maxHeartbeats 1000000 in
theorem handed_nil (w : World) : Calls Tryd.prog 6 #[.slice none 0 0] w fun e w' => e = .returned (.tuple #[.slice none 0 0, .slice none 0 0]) ∧ w' = w := by
  have eqn := fun w : World => Lib.run_eql_slice_nil (P := Tryd.prog) w 22 26 none 0 0 0 0 Tryd.underlying22
  go_enter Tryd.func6, Tryd.ntmps6
  go_wp2_with fail
  go_ret2
  exact ⟨rfl, rfl⟩
set_option maxHeartbeats 1000000 in
theorem still_nil (w : World) : Calls Tryd.prog 7 #[.slice none 0 0, .slice none 0 0, .slice none 0 0] w fun e w' => e = .returned (.bool true) ∧ w' = w := by
  go_enter Tryd.func7, Tryd.ntmps7
  go_wp2_with fail
  go_loopw [7] (fun i wr => i = .int .i64 0 ∧ wr = w) (fun _ _ => 0)
  case atStart => exact ⟨rfl, rfl⟩
  case round =>
    obtain ⟨rfl, rfl⟩ := hrel
    go_wp2_with fail
    go_loopw [10] (fun i wx => i = .int .i64 0 ∧ wx = wr) (fun _ _ => 0)
    case atStart => exact ⟨rfl, rfl⟩
    case round =>
      obtain ⟨rfl, rfl⟩ := hrel
      go_wp2_with fail
      go_ret
      exact ⟨rfl, rfl⟩
set_option maxHeartbeats 1000000 in
theorem write_nil (mode : Int) (w : World) : Calls Tryd.prog 4 #[.slice none 0 0, .int .i64 mode] w fun e w' => e = .returned (.bool true) ∧ w' = w := by
  go_enter Tryd.func4, Tryd.ntmps4
  go_wp2_with fail
  refine (handed_nil _).mono ?_
  rintro e w' ⟨rfl, rfl⟩
  go_wp2_with fail
  refine (ownWrite_nil mode _).mono ?_
  rintro e w' ⟨rfl, rfl⟩
  go_wp2_with fail
  refine (still_nil _).mono ?_
  rintro e w' ⟨rfl, rfl⟩
  go_wp2_with fail
  refine (refWrite_nil mode _).mono ?_
  rintro e w' ⟨rfl, rfl⟩
  generalize nilZ mode = z at *
  go_wp2_with fail
  go_ret
  exact ⟨rfl, rfl⟩
end Go.Proofs.YtlhimdjkkiflhaaDoor

/- The law Writes, for every argument. -/
namespace Go.Proofs.YtlhimdjkkiflhaaDoor
open Go.RowKit Go.Loop

/-- the first graph of the law: a pair that is its own first, with a symbol as its rest -/
def lawG (q : Nat) : List Nd := [⟨1, [], 0, 0, [0, 1], some ⟨q, 0, none⟩, 2⟩, ⟨4, [97], 0, 0, [], none, 0⟩]
/-- the second: a pair that is its own first and rest -/
def lawH (q : Nat) : List Nd := [⟨1, [], 0, 0, [0, 0], some ⟨q, 0, none⟩, 2⟩]

theorem lawH_bare (q : Nat) : (lawH q).map bareN = [⟨1, [], 0, 0, [0, 0], none, 0⟩] := rfl
set_option maxRecDepth 100000 in
theorem lawH_said (q : Nat) : writeP (lawH q) 1 403 = ([35, 48, 61, 40, 35, 48, 35, 32, 46, 32, 35, 48, 35, 41], 0) := by
  rw [writeP_same (lawH q) [⟨1, [], 0, 0, [0, 0], none, 0⟩] rfl]
  decide +kernel

theorem lawG_at {w : World} {q p : Nat} {t1 t2 : TypeId} (h1 : w.heap[q]? = some (.cells #[.int .i64 0, .int .i64 1] t1 (0, 0)))
    (h2 : w.heap[p]? = some (.cells #[.int .i64 1, .string ⟨#[]⟩, .int .i64 0, .int .i64 0, .slice (some ⟨q, 0, none⟩) 2 2, .int .i64 4, .string ⟨#[97]⟩, .int .i64 0, .int .i64 0, .slice none 0 0] t2 (0, 0))) : GraphAt w p 0 (lawG q) := by
  have c1 : ∀ j, w.cell? ⟨q, j, none⟩ = (#[.int .i64 0, .int .i64 1] : Array Value)[j]? := fun j => by unfold World.cell?; simp only [h1]; rw [if_neg (by simp)]
  have c2 : ∀ j, w.cell? ⟨p, j, none⟩ = (#[.int .i64 1, .string ⟨#[]⟩, .int .i64 0, .int .i64 0, .slice (some ⟨q, 0, none⟩) 2 2, .int .i64 4, .string ⟨#[97]⟩, .int .i64 0, .int .i64 0, .slice none 0 0] : Array Value)[j]? := fun j => by unfold World.cell?; simp only [h2]; rw [if_neg (by simp)]
  intro i hi
  have : i = 0 ∨ i = 1 := by simp [lawG] at hi; omega
  rcases this with rfl | rfl
  · refine ⟨c2 0, c2 1, c2 2, c2 3, c2 4, Or.inr ⟨q, 0, rfl, fun j hj => ?_⟩, by show 0 ≤ _; simp, by show 2 ≤ _; simp [maxLen]⟩
    have : j = 0 ∨ j = 1 := by simp [lawG] at hj; omega
    rcases this with rfl | rfl
    · exact c1 0
    · exact c1 1
  · exact ⟨c2 5, c2 6, c2 7, c2 8, c2 9, Or.inl rfl, by show 1 ≤ _; simp [maxLen], by show 0 ≤ _; simp⟩
theorem lawH_at {w : World} {q p : Nat} {t1 t2 : TypeId} (h1 : w.heap[q]? = some (.cells #[.int .i64 0, .int .i64 0] t1 (0, 0)))
    (h2 : w.heap[p]? = some (.cells #[.int .i64 1, .string ⟨#[]⟩, .int .i64 0, .int .i64 0, .slice (some ⟨q, 0, none⟩) 2 2] t2 (0, 0))) : GraphAt w p 0 (lawH q) := by
  have c1 : ∀ j, w.cell? ⟨q, j, none⟩ = (#[.int .i64 0, .int .i64 0] : Array Value)[j]? := fun j => by unfold World.cell?; simp only [h1]; rw [if_neg (by simp)]
  have c2 : ∀ j, w.cell? ⟨p, j, none⟩ = (#[.int .i64 1, .string ⟨#[]⟩, .int .i64 0, .int .i64 0, .slice (some ⟨q, 0, none⟩) 2 2] : Array Value)[j]? := fun j => by unfold World.cell?; simp only [h2]; rw [if_neg (by simp)]
  intro i hi
  obtain rfl : i = 0 := by simp [lawH] at hi; omega
  refine ⟨c2 0, c2 1, c2 2, c2 3, c2 4, Or.inr ⟨q, 0, rfl, fun j hj => ?_⟩, by show 0 ≤ _; simp, by show 2 ≤ _; simp [maxLen]⟩
  have : j = 0 ∨ j = 1 := by simp [lawH] at hj; omega
  rcases this with rfl | rfl
  · exact c1 0
  · exact c1 1

/-- the law's own call, of whatever nodes it was given -/
def LawSaid (v : Value) (mode : Int) (w : World) : Prop :=
  ∀ w1, Below w.heap.size w w1 → Calls Tryd.prog 4 #[v, .int .i64 mode] w1 fun e w' => e = .returned (.bool true) ∧ Below w1.heap.size w1 w'

set_option maxHeartbeats 2000000 in
set_option maxRecDepth 100000 in
theorem writes_any (v : Value) (hv : ∃ a n c, v = .slice a n c) (mode : Int) (w : World) (hp : Pow w) (hs : LawSaid v mode w) :
    Calls Tryd.prog 3 #[v, .int .i64 mode] w fun e w' => e = .returned (.bool true) ∧ Below w.heap.size w w' := by
  obtain ⟨a, n, c, rfl⟩ := hv
  have HP : Hid _ := hp
  have HS : Hid _ := hs
  clear hp hs
  go_enter Tryd.func3, Tryd.ntmps3
  go_wp2_with fail
  have HB0 : Hid (Below w.heap.size w ((w.alloc (.cells #[.int .i64 0, .int .i64 1] 3)).alloc (.cells #[.int .i64 1, .string ⟨#[]⟩, .int .i64 0, .int .i64 0, .slice (some ⟨w.heap.size, 0, none⟩) 2 2, .int .i64 4, .string ⟨#[97]⟩, .int .i64 0, .int .i64 0, .slice none 0 0] 26))) := below_box.trans (below_box.mono (by simp))
  have HG0 : Hid (GraphAt ((w.alloc (.cells #[.int .i64 0, .int .i64 1] 3)).alloc (.cells #[.int .i64 1, .string ⟨#[]⟩, .int .i64 0, .int .i64 0, .slice (some ⟨w.heap.size, 0, none⟩) 2 2, .int .i64 4, .string ⟨#[97]⟩, .int .i64 0, .int .i64 0, .slice none 0 0] 26)) (w.heap.size + 1) 0 (lawG w.heap.size)) := by
    refine lawG_at (t1 := 3) (t2 := 26) ((Lib.alloc_old _ _ _ (by simp)).trans (heap_alloc_new w _)) ?_
    have := heap_alloc_new (w.alloc (.cells #[.int .i64 0, .int .i64 1] 3)) (.cells #[.int .i64 1, .string ⟨#[]⟩, .int .i64 0, .int .i64 0, .slice (some ⟨w.heap.size, 0, none⟩) 2 2, .int .i64 4, .string ⟨#[97]⟩, .int .i64 0, .int .i64 0, .slice none 0 0] 26)
    rw [World.size_alloc] at this
    exact this
  refine Calls.mono (write_any (lawG w.heap.size) (w.heap.size + 1) 0 2 2 _ HG0.out (Pow.on HP.out HB0.out) (by show 2 ≤ _; omega) ?_ ?_) ?_
  · intro i hi
    have : i = 0 ∨ i = 1 := by simp [lawG] at hi; omega
    rcases this with rfl | rfl
    · show 2 ≤ _; omega
    · show 0 ≤ _; omega
  · intro i hi
    have : i = 0 ∨ i = 1 := by simp [lawG] at hi; omega
    rcases this with rfl | rfl
    · show 0 ≤ _; omega
    · show 1 ≤ _; omega
  rintro e w1 ⟨rfl, hb1⟩
  have HB1 : Hid (Below w.heap.size w w1) := HB0.out.trans (hb1.mono HB0.out.size)
  clear hb1 HB0 HG0
  go_wp2_with fail
  have HB2 : Hid (Below w.heap.size w ((w1.alloc (.cells #[.int .i64 0, .int .i64 0] 3)).alloc (.cells #[.int .i64 1, .string ⟨#[]⟩, .int .i64 0, .int .i64 0, .slice (some ⟨w1.heap.size, 0, none⟩) 2 2] 26))) := HB1.out.trans ((below_box.trans (below_box.mono (by simp))).mono HB1.out.size)
  have HG2 : Hid (GraphAt ((w1.alloc (.cells #[.int .i64 0, .int .i64 0] 3)).alloc (.cells #[.int .i64 1, .string ⟨#[]⟩, .int .i64 0, .int .i64 0, .slice (some ⟨w1.heap.size, 0, none⟩) 2 2] 26)) (w1.heap.size + 1) 0 (lawH w1.heap.size)) := by
    refine lawH_at (t1 := 3) (t2 := 26) ((Lib.alloc_old _ _ _ (by simp)).trans (heap_alloc_new w1 _)) ?_
    have := heap_alloc_new (w1.alloc (.cells #[.int .i64 0, .int .i64 0] 3)) (.cells #[.int .i64 1, .string ⟨#[]⟩, .int .i64 0, .int .i64 0, .slice (some ⟨w1.heap.size, 0, none⟩) 2 2] 26)
    rw [World.size_alloc] at this
    exact this
  have HOW : Hid _ := ownWrite_any (lawH w1.heap.size) (w1.heap.size + 1) 0 1 1 403 (Nat.le_refl _) _ (by show 1 ≤ _; simp [maxLen]) HG2.out (Pow.on HP.out HB2.out)
  rw [lawH_said] at HOW
  clear HG2
  refine Calls.mono HOW.out ?_
  rintro e w3 ⟨rfl, hb3⟩
  have HB3 : Hid (Below w.heap.size w w3) := HB2.out.trans (hb3.mono HB2.out.size)
  clear hb3 HB2 HOW
  go_wp2_with fail
  refine Calls.mono (HS.out w3 HB3.out) ?_
  rintro e w4 ⟨rfl, hb4⟩
  have HB4 : Hid (Below w.heap.size w w4) := HB3.out.trans (hb4.mono HB3.out.size)
  clear hb4
  go_wp2_with fail
  go_ret
  exact ⟨rfl, HB4.out⟩
end Go.Proofs.YtlhimdjkkiflhaaDoor
