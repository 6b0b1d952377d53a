/- The document's tokens: what begins with a number sign. -/
import Derived.Test.YtlhimdjkkiflhaaDoorRefTokC
import Derived.Test.YtlhimdjkkiflhaaDoorRefTokT
import Derived.Deep.DeepCutAuto
namespace Go.Proofs.YtlhimdjkkiflhaaDoor
open Go.RowKit Go.Loop

theorem res_cells {w w1 : World} {c : Array Value} {t : TypeId} (hb : Below (w.alloc (.cells c t)).heap.size (w.alloc (.cells c t)) w1) :
    (∀ o, w1.cell? ⟨w.heap.size, o, none⟩ = c[o]?) ∧ (∀ o, w1.frozen? ⟨w.heap.size, o, none⟩ = false) ∧ Below (w.heap.size + 1) (w.alloc (.cells c t)) w1 := by
  refine ⟨fun o => ?_, fun o => ?_, hb.mono (by simp)⟩
  · rw [hb.cell (by simp), World.cell?_alloc_at _ _ _ _ rfl]
  · rw [hb.frozen (by simp), World.frozen?_alloc_at _ _ _ _ rfl]

set_option maxHeartbeats 2000000 in
set_option maxRecDepth 10000 in
theorem refHash_any (s : ByteArray) (a : Nat) (w : World) (hs : s.size ≤ 1000000) (ha : a + 1 ≤ s.size) :
    Calls Tryd.prog 63 #[.string s, .int .i64 a] w fun e w' => TokOk w e w' := by
  have h2 : (a + 1 < s.size ∧ ∃ h : a + 1 < s.size, ((s[a + 1].toNat : Int) == 40) = true) ∨ (a + 1 < s.size ∧ ∃ h : a + 1 < s.size, ((s[a + 1].toNat : Int) == 40) = false ∧ ((s[a + 1].toNat : Int) == 59) = true) ∨ (a + 1 < s.size ∧ ∃ h : a + 1 < s.size, ((s[a + 1].toNat : Int) == 40) = false ∧ ((s[a + 1].toNat : Int) == 59) = false ∧ ((s[a + 1].toNat : Int) == 92) = true)
      ∨ (a + 1 < s.size ∧ ∃ h : a + 1 < s.size, ((s[a + 1].toNat : Int) == 40) = false ∧ ((s[a + 1].toNat : Int) == 59) = false ∧ ((s[a + 1].toNat : Int) == 92) = false) ∨ ¬ a + 1 < s.size := by
    by_cases h : a + 1 < s.size
    · cases h1 : ((s[a + 1].toNat : Int) == 40)
      · cases h2 : ((s[a + 1].toNat : Int) == 59)
        · cases h3 : ((s[a + 1].toNat : Int) == 92)
          · exact Or.inr (Or.inr (Or.inr (Or.inl ⟨h, h, h1, h2, h3⟩)))
          · exact Or.inr (Or.inr (Or.inl ⟨h, h, h1, h2, h3⟩))
        · exact Or.inr (Or.inl ⟨h, h, h1, h2⟩)
      · exact Or.inl ⟨h, h, h1⟩
    · exact Or.inr (Or.inr (Or.inr (Or.inr h)))
  rcases h2 with ⟨hlt, _, h40⟩ | ⟨hlt, _, h40, h59⟩ | ⟨hlt, _, h40, h59, h92⟩ | h2
  · go_enter Tryd.func63, Tryd.ntmps63
    go_wp2_with fail
    refine bodyPost_ret (by simp [results, Tryd.results63, go_sem]; rfl) rfl ?_
    exact ⟨_, _, _, _, _, _, rfl, by omega, (Below.refl _ _).alloc (Nat.le_refl _) _⟩
  · go_enter Tryd.func63, Tryd.ntmps63
    go_wp2_with fail
    refine bodyPost_ret (by simp [results, Tryd.results63, go_sem]; rfl) rfl ?_
    exact ⟨_, _, _, _, _, _, rfl, by omega, (Below.refl _ _).alloc (Nat.le_refl _) _⟩
  · go_enter Tryd.func63, Tryd.ntmps63
    go_wp2_with fail
    refine (refChar_any _ _ _ hs (by omega)).mono ?_
    rintro e w1 ⟨kk, f, t, l, n, d, rfl, hk, hb⟩
    have HK : Hid _ := hk
    clear hk
    obtain ⟨hcell, hfz, hb2⟩ := res_cells hb
    have HB : Hid _ := hb2
    clear hb hb2
    simp only [tokV]
    go_wp2_with fail
    refine bodyPost_ret (by simp [results, Tryd.results63, go_sem, hcell]; rfl) rfl ?_
    exact ⟨_, _, _, _, _, _, rfl, HK.out, below_tok HB.out _ _ _ _ _ _⟩
  · rcases h2 with ⟨hlt, _, h40, h59, h92⟩ | hge
    all_goals
      go_enter Tryd.func63, Tryd.ntmps63
      go_wp2_with fail
      refine (refDigits_i _ _ _ hs (by omega) (by omega)).mono ?_
      rintro e w1 ⟨⟨n, k, rfl, hn, hk0, hk⟩, rfl⟩
      go_upto_region 10 with fail
      go_cut [6, 57] (fun x c wc => x = .int .i64 k ∧ (∃ b : Bool, c = .bool b ∧ (b = true → k < s.size)) ∧ wc = w.alloc (.cells #[.int .u8 0, .int .i64 0, .int .i64 0, .string ⟨#[]⟩, .int .i64 0, .int .i64 0] 76))
      case first =>
        go_wp2_with fail
        all_goals
          go_meet
          case rel => exact ⟨rfl, ⟨_, rfl, by simp; try omega⟩, rfl⟩
      case rest =>
        obtain ⟨rfl, ⟨b, rfl, hbb⟩, rfl⟩ := hcut
        cases b
        · clear hbb
          go_wp2_with fail
          go_loop [7] (fun i => ∃ k : Nat, a + 1 ≤ k ∧ k ≤ s.size ∧ i = .int .i64 k) (fun i => s.size - (intOf i).toNat)
          case atStart => exact ⟨a + 1, Nat.le_refl _, ha, by go_num⟩
          case round =>
            obtain ⟨m, hm0, hm, rfl⟩ := hrel
            by_cases hml : m < s.size
            · cases hw : wordB (s[m].toNat : Int)
              · go_wp2_with fail
                refine (refWord_any _ _).mono ?_
                rw [hw]; rintro e w' ⟨rfl, rfl⟩
                clear hw
                go_wp2_with fail
                all_goals
                  refine bodyPost_ret (by simp [results, Tryd.results63, go_sem]; rfl) rfl ?_
                  exact ⟨_, _, _, _, _, _, rfl, by omega, (Below.refl _ _).alloc (Nat.le_refl _) _⟩
              · go_wp2_with fail
                refine (refWord_any _ _).mono ?_
                rw [hw]; rintro e w' ⟨rfl, rfl⟩
                go_wp2_with fail
                go_round
                case rel => exact ⟨m + 1, by omega, by omega, by go_num⟩
                case measure => simp [intOf]; omega
            · go_wp2_with fail
              all_goals
                refine bodyPost_ret (by simp [results, Tryd.results63, go_sem]; rfl) rfl ?_
                exact ⟨_, _, _, _, _, _, rfl, by omega, (Below.refl _ _).alloc (Nat.le_refl _) _⟩
        · have hks := hbb rfl
          clear hbb
          by_cases hq : a + 1 < s.size
          · cases e61 : ((s[k].toNat : Int) == 61)
            · cases e35 : ((s[k].toNat : Int) == 35)
              · first
                | (exfalso; omega)
                | skip
                all_goals go_wp2_with fail
                all_goals go_loop [7] (fun i => ∃ k : Nat, a + 1 ≤ k ∧ k ≤ s.size ∧ i = .int .i64 k) (fun i => s.size - (intOf i).toNat)
                all_goals try (case atStart => exact ⟨a + 1, Nat.le_refl _, ha, by go_num⟩)
                all_goals
                  obtain ⟨m, hm0, hm, rfl⟩ := hrel
                  by_cases hml : m < s.size
                  · cases hw : wordB (s[m].toNat : Int)
                    · go_wp2_with fail
                      refine (refWord_any _ _).mono ?_
                      rw [hw]; rintro e w' ⟨rfl, rfl⟩
                      clear hw
                      go_wp2_with fail
                      all_goals
                        refine bodyPost_ret (by simp [results, Tryd.results63, go_sem]; rfl) rfl ?_
                        exact ⟨_, _, _, _, _, _, rfl, by omega, (Below.refl _ _).alloc (Nat.le_refl _) _⟩
                    · go_wp2_with fail
                      refine (refWord_any _ _).mono ?_
                      rw [hw]; rintro e w' ⟨rfl, rfl⟩
                      go_wp2_with fail
                      go_round
                      case rel => exact ⟨m + 1, by omega, by omega, by go_num⟩
                      case measure => simp [intOf]; omega
                  · go_wp2_with fail
                    all_goals
                      refine bodyPost_ret (by simp [results, Tryd.results63, go_sem]; rfl) rfl ?_
                      exact ⟨_, _, _, _, _, _, rfl, by omega, (Below.refl _ _).alloc (Nat.le_refl _) _⟩
              · first
                | (exfalso; omega)
                | (go_wp2_with fail
                   refine bodyPost_ret (by simp [results, Tryd.results63, go_sem]; rfl) rfl ?_
                   exact ⟨_, _, _, _, _, _, rfl, by omega, (Below.refl _ _).alloc (Nat.le_refl _) _⟩)
            · first
              | (exfalso; omega)
              | (go_wp2_with fail
                 refine bodyPost_ret (by simp [results, Tryd.results63, go_sem]; rfl) rfl ?_
                 exact ⟨_, _, _, _, _, _, rfl, by omega, (Below.refl _ _).alloc (Nat.le_refl _) _⟩)
          · exfalso; omega
end Go.Proofs.YtlhimdjkkiflhaaDoor
