/- The document's tokens: a text. -/
import Derived.Test.YtlhimdjkkiflhaaDoorRefTokB
namespace Go.Proofs.YtlhimdjkkiflhaaDoor
open Go.RowKit Go.Loop

/-- 'string([]byte{c})' -/
theorem conv1 (w : World) (c : UInt8) : (convert 56 9 (.slice (some ⟨w.heap.size, 0, none⟩) 1 1)).run Tryd.prog (w.alloc (.cells #[.int .u8 (c.toNat : Int)] 5)) = .ok (.string ⟨⟨[c]⟩⟩) (w.alloc (.cells #[.int .u8 (c.toNat : Int)] 5)) :=
  run_convert_bytes_back (P := Tryd.prog) _ _ _ _ ⟨w.heap.size, 0, none⟩ 1 [c] Tryd.underlying56 Tryd.underlying5 Tryd.underlying9 (fun j hj => by
    have : j = 0 := by simpa using hj
    subst this
    exact World.cell?_alloc_at _ _ _ _ rfl)
theorem str_app (a b : List UInt8) : (ByteArray.mk (Array.mk a)) ++ (ByteArray.mk (Array.mk b)) = ⟨⟨a ++ b⟩⟩ := by
  apply ByteArray.ext; simp

/-- a token stored into the result's own block -/
theorem below_tok {w wr : World} {o : Obj} (h : Below (w.heap.size + 1) (w.alloc o) wr) (a b c d e f : Value) :
    Below w.heap.size w ((((((wr.setCell ⟨w.heap.size, 0, none⟩ a).setCell ⟨w.heap.size, 1, none⟩ b).setCell ⟨w.heap.size, 2, none⟩ c).setCell ⟨w.heap.size, 3, none⟩ d).setCell ⟨w.heap.size, 4, none⟩ e).setCell ⟨w.heap.size, 5, none⟩ f) := by
  have h0 : Below w.heap.size w wr := ((Below.refl _ _).alloc (Nat.le_refl _) o).trans (h.mono (by omega))
  exact (((((h0.setCell (Nat.le_refl _) _).setCell (Nat.le_refl _) _).setCell (Nat.le_refl _) _).setCell (Nat.le_refl _) _).setCell (Nat.le_refl _) _).setCell (Nat.le_refl _) _

set_option maxHeartbeats 1000000 in
set_option maxRecDepth 10000 in
theorem refText_any (s : ByteArray) (a : Nat) (w : World) (hs : s.size ≤ 1000000) (ha : a + 1 ≤ s.size) :
    Calls Tryd.prog 62 #[.string s, .int .i64 a] w fun e w' => TokOk w e w' := by
  go_enter Tryd.func62, Tryd.ntmps62
  go_wp2_with fail
  go_loopw [5, 6] (fun o i wr => ∃ (k : Nat) (l : List UInt8), a + 1 ≤ k ∧ k ≤ s.size ∧ i = .int .i64 k ∧ o = .string ⟨⟨l⟩⟩ ∧ l.length ≤ k ∧ w.heap.size + 1 ≤ wr.heap.size ∧ Hid (Below (w.heap.size + 1) (w.alloc (.cells #[.int .u8 0, .int .i64 0, .int .i64 0, .string ⟨#[]⟩, .int .i64 0, .int .i64 0] 76)) wr)) (fun _ i _ => s.size - (intOf i).toNat)
  case atStart => exact ⟨a + 1, [], Nat.le_refl _, ha, by go_num, rfl, by simp, by simp, Below.refl _ _⟩
  case round =>
    obtain ⟨k, l, hk0, hk, rfl, rfl, hl, hz, hb⟩ := hrel
    have hcell : ∀ o, wr.cell? ⟨w.heap.size, o, none⟩ = (#[.int .u8 0, .int .i64 0, .int .i64 0, .string ⟨#[]⟩, .int .i64 0, .int .i64 0] : Array Value)[o]? := by
      intro o; rw [hb.out.cell (by simp), World.cell?_alloc_at _ _ _ _ rfl]
    have hfz : ∀ o, wr.frozen? ⟨w.heap.size, o, none⟩ = false := by
      intro o; rw [hb.out.frozen (by simp), World.frozen?_alloc_at _ _ _ _ rfl]
    have kc := conv1
    have kc10 : ∀ w : World, (convert 56 9 (.slice (some ⟨w.heap.size, 0, none⟩) 1 1)).run Tryd.prog (w.alloc (.cells #[.int .u8 10] 5)) = .ok (.string ⟨⟨[10]⟩⟩) (w.alloc (.cells #[.int .u8 10] 5)) := fun w => conv1 w 10
    have kc9 : ∀ w : World, (convert 56 9 (.slice (some ⟨w.heap.size, 0, none⟩) 1 1)).run Tryd.prog (w.alloc (.cells #[.int .u8 9] 5)) = .ok (.string ⟨⟨[9]⟩⟩) (w.alloc (.cells #[.int .u8 9] 5)) := fun w => conv1 w 9
    have ks := str_app
    have kc10h : Hid _ := kc10
    have kc9h : Hid _ := kc9
    by_cases hlt : k < s.size
    · cases h34 : ((s[k].toNat : Int) == 34)
      · cases h92 : ((s[k].toNat : Int) == 92)
        · go_wp2_with fail
          go_roundw
          case rel => exact ⟨k + 1, l ++ [s[k]], by omega, by omega, by go_num, rfl, by simp; omega, by simp; omega, hb.out.alloc (by omega) _⟩
          case measure => simp [intOf]; omega
        · by_cases hlast : k + 1 < s.size
          · clear kc10 kc9
            cases e92 : ((s[k + 1].toNat : Int) == 92)
            · cases e34 : ((s[k + 1].toNat : Int) == 34)
              · cases e110 : ((s[k + 1].toNat : Int) == 110)
                · cases e116 : ((s[k + 1].toNat : Int) == 116)
                  · go_wp2_with fail
                    refine bodyPost_ret (by simp [results, Tryd.results62, go_sem, hcell]; rfl) rfl ?_
                    exact ⟨_, _, _, _, _, _, rfl, by omega, below_tok hb.out _ _ _ _ _ _⟩
                  · have kc9 := kc9h.out
                    go_wp2_with fail
                    go_roundw
                    case rel => exact ⟨k + 2, l ++ [9], by omega, by omega, by go_num, rfl, by simp; omega, by simp; omega, hb.out.alloc (by omega) _⟩
                    case measure => simp [intOf]; omega
                · have kc10 := kc10h.out
                  go_wp2_with fail
                  go_roundw
                  case rel => exact ⟨k + 2, l ++ [10], by omega, by omega, by go_num, rfl, by simp; omega, by simp; omega, hb.out.alloc (by omega) _⟩
                  case measure => simp [intOf]; omega
              · go_wp2_with fail
                go_roundw
                case rel => exact ⟨k + 2, l ++ [s[k + 1]], by omega, by omega, by go_num, rfl, by simp; omega, by simp; omega, hb.out.alloc (by omega) _⟩
                case measure => simp [intOf]; omega
            · go_wp2_with fail
              go_roundw
              case rel => exact ⟨k + 2, l ++ [s[k + 1]], by omega, by omega, by go_num, rfl, by simp; omega, by simp; omega, hb.out.alloc (by omega) _⟩
              case measure => simp [intOf]; omega
          · clear kc10 kc9
            go_wp2_with fail
            go_roundw
            case rel => exact ⟨k + 1, l ++ [s[k]], by omega, by omega, by go_num, rfl, by simp; omega, by simp; omega, hb.out.alloc (by omega) _⟩
            case measure => simp [intOf]; omega
      · go_wp2_with fail
        refine bodyPost_ret (by simp [results, Tryd.results62, go_sem, hcell]; rfl) rfl ?_
        exact ⟨_, _, _, _, _, _, rfl, by omega, below_tok hb.out _ _ _ _ _ _⟩
    · go_wp2_with fail
      refine bodyPost_ret (by simp [results, Tryd.results62, go_sem, hcell]; rfl) rfl ?_
      exact ⟨_, _, _, _, _, _, rfl, by omega, below_tok hb.out _ _ _ _ _ _⟩
end Go.Proofs.YtlhimdjkkiflhaaDoor
