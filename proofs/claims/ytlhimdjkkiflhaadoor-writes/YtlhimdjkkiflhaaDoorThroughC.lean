/- The document goes through a graph: from its beginning. -/
import Derived.Test.YtlhimdjkkiflhaaDoorThrough
import Derived.Test.YtlhimdjkkiflhaaDoorThroughB
namespace Go.Proofs.YtlhimdjkkiflhaaDoor
open Go.RowKit Go.Loop

theorem rwalk_made {w : World} {p bo bm bw bl n : Nat} {nv v5 v6 : Value} {t1 t2 t3 t4 t5 : TypeId}
    (hp : w.heap[p]? = some (.cells #[nv, .slice (some ⟨bm, 0, none⟩) n n, .slice (some ⟨bw, 0, none⟩) n n, .slice (some ⟨bo, 0, none⟩) n n, .slice (some ⟨bl, 0, none⟩) n n, v5, v6] t1))
    (ho : w.heap[bo]? = some (.cells (madeCells #[.bool false] n) t2)) (hm : w.heap[bm]? = some (.cells (madeCells #[.int .i64 0] n) t3)) (hw : w.heap[bw]? = some (.cells (madeCells #[.bool false] n) t4)) (hl : w.heap[bl]? = some (.cells (madeCells #[.int .i64 0] n) t5)) :
    RWalkAt w p bo bm bw bl n nv v5 v6 (List.replicate n 0) (WS.start n) := by
  refine ⟨?_, ?_, ?_, ?_, ?_, ?_, ?_, rowI_made hm, rowB_made hw, rowB_made ho, rowI_made hl, ?_, ?_⟩
  all_goals first | (unfold World.cell?; simp [hp]; done) | (unfold World.frozen?; simp [hp]; done)

set_option maxHeartbeats 4000000 in
theorem refThroughTop_any (G : List Nd) (b o cap : Nat) (w : World) (hG : GraphAt w b o G) (hn : G.length ≤ 150) (h1 : 1 ≤ G.length) (hsub : ∀ x (h : x < G.length), subsB G[x].subs G.length = true) (h20 : ∀ x, (subsN G x).length ≤ 20) :
    Calls Tryd.prog 16 #[.slice (some ⟨b, o, none⟩) G.length cap] w fun e w' => ∃ p bo bm bw bl, e = .returned (.pointer (some ⟨p, 0, none⟩)) ∧ Apart5 w.heap.size p bo bm bw bl ∧
      RWalkAt w' p bo bm bw bl G.length (.slice (some ⟨b, o, none⟩) G.length cap) (.int .i64 0) (.string ⟨#[]⟩) (List.replicate G.length 0) (walkS (subsN G) G.length) ∧ Below w.heap.size w w' := by
  have HG : Hid (GraphAt w b o G) := hG
  have HS : Hid (∀ x (h : x < G.length), subsB G[x].subs G.length = true) := hsub
  clear hG hsub
  have mkb := run_make_row' (P := Tryd.prog) 35 4 (.bool false) 1 Tryd.underlying35 infoBool rfl .i64 .i64 G.length (by omega) (by omega)
  have mki := run_make_row' (P := Tryd.prog) 24 3 (.int .i64 0) 8 Tryd.underlying24 infoInt rfl .i64 .i64 G.length (by omega) (by omega)
  go_enter Tryd.func16, Tryd.ntmps16
  go_upto_region 2 with fail
  go_cut [4, 9, 11, 13, 15] (fun x4 x9 x11 x13 x15 wc => ∃ p bo bm bw bl : Nat, x4 = .pointer (some ⟨p, 0, none⟩) ∧ x9 = .slice (some ⟨bm, 0, none⟩) G.length G.length ∧ x11 = .slice (some ⟨bw, 0, none⟩) G.length G.length ∧ x13 = .slice (some ⟨bo, 0, none⟩) G.length G.length ∧ x15 = .slice (some ⟨bl, 0, none⟩) G.length G.length ∧
      Hid (Apart5 w.heap.size p bo bm bw bl ∧ RWalkAt wc p bo bm bw bl G.length (.slice (some ⟨b, o, none⟩) G.length cap) (.int .i64 0) (.string ⟨#[]⟩) (List.replicate G.length 0) (WS.start G.length) ∧ Below w.heap.size w wc))
  case first =>
    go_region
    all_goals
      go_wp2_with fail
      go_meet
      case rel =>
        refine ⟨_, _, _, _, _, rfl, rfl, rfl, rfl, rfl, ?_⟩
        refine ⟨⟨⟨by omega, by omega, by omega, by omega, by omega, by omega, by omega, by omega, by omega, by omega⟩, by omega, by omega, by omega, by omega, by omega⟩, rwalk_made (t1 := 47) (t2 := 4) (t3 := 3) (t4 := 4) (t5 := 3) ?_ ?_ ?_ ?_ ?_, ?_⟩
        · rw [drew_heap]; simp only [alloc_heap, World.size_alloc]; repeat' (first | rfl | (exfalso; omega) | split)
        · rw [drew_heap]; simp only [alloc_heap, World.size_alloc]; repeat' (first | rfl | (exfalso; omega) | split)
        · rw [drew_heap]; simp only [alloc_heap, World.size_alloc]; repeat' (first | rfl | (exfalso; omega) | split)
        · rw [drew_heap]; simp only [alloc_heap, World.size_alloc]; repeat' (first | rfl | (exfalso; omega) | split)
        · rw [drew_heap]; simp only [alloc_heap, World.size_alloc]; repeat' (first | rfl | (exfalso; omega) | split)
        · exact ((((((Below.refl _ _).alloc (Nat.le_refl _) _).alloc (by simp <;> omega) _).alloc (by simp <;> omega) _).alloc (by simp <;> omega) _).alloc (by simp <;> omega) _).drew
  case rest =>
    obtain ⟨p, bo, bm, bw, bl, rfl, rfl, rfl, rfl, rfl, hcu⟩ := hcut
    have HA : Hid (Apart5 w.heap.size p bo bm bw bl) := hcu.out.1
    have HW : Hid (RWalkAt wc p bo bm bw bl G.length (.slice (some ⟨b, o, none⟩) G.length cap) (.int .i64 0) (.string ⟨#[]⟩) (List.replicate G.length 0) (WS.start G.length)) := hcu.out.2.1
    have HB : Hid (Below w.heap.size w wc) := hcu.out.2.2
    have hpot := start_pot (subsN G) 20 h20 G.length
    have HP : Hid ((WS.start G.length).pot (fun x => (subsN G x).length) + 1 ≤ 1000000) := by show _ ≤ _; omega
    clear hcu mkb mki hpot h20
    go_wp2_with fail
    refine (refThrough_any G b o cap _ HG hn HS p bo bm bw bl HA.out _ _ _ (G.length + 1) (WS.start G.length) 0 wc _
      (start_ok _) (by omega) (by omega) (by show potL (fun _ => 1) 0 (List.replicate G.length 0) < _; rw [potL_one]; omega) (start_bd _ _) HP.out HB.out HW.out).mono ?_
    rintro e w2 ⟨rfl, hw2, hb2⟩
    have HW2 : Hid _ := hw2
    clear hw2
    go_wp2_with fail
    go_ret
    exact ⟨p, bo, bm, bw, bl, rfl, HA.out, HW2.out, hb2⟩
end Go.Proofs.YtlhimdjkkiflhaaDoor
