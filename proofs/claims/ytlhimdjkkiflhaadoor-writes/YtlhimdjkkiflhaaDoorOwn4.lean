/- The program's writer: pairs, and the loop over their rests. -/
import Derived.Test.YtlhimdjkkiflhaaDoorOwn3
namespace Go.Proofs.YtlhimdjkkiflhaaDoor
open Go.RowKit Go.Loop

theorem rest_round {K : Nat → Int} {S : Nat → List Nat} {At : Nat → List UInt8} {L : Nat → Bool} {g m : Nat} {t : TS} (ho : t.long = false → t.out.length ≤ 400) (hg : need t ≤ g) (hk : K m = 1) (hL : L m = false) :
    ∃ g', g' ≤ g ∧ need (t.add [32]) ≤ g' ∧ WF K S At L g true t m = WF K S At L g' true (WF K S At L g' false (t.add [32]) ((S m).getD 0 0)) ((S m).getD 1 0) := by
  cases hl : t.long
  · have h1 := need_lt hl (ho hl) (p := [32]) (by simp)
    have h2 := need_pos (t.add [32])
    obtain ⟨g', rfl⟩ : ∃ g', g = g' + 1 := ⟨g - 1, by omega⟩
    refine ⟨g', by omega, by omega, ?_⟩
    conv => lhs; rw [WF]
    rw [if_pos ⟨hk, hL⟩]
  · refine ⟨g, Nat.le_refl _, by rw [add_long hl]; exact hg, ?_⟩
    rw [add_long hl, WF_long g true t m hl, WF_long g false t _ hl, WF_long g true t _ hl]

theorem rest_end {K : Nat → Int} {S : Nat → List Nat} {At : Nat → List UInt8} {L : Nat → Bool} {g m : Nat} {t : TS} (ho : t.long = false → t.out.length ≤ 400) (hg : need t ≤ g) (hn : ¬ (K m = 1 ∧ L m = false)) (hk : K m ≠ 0) :
    ∃ g', g' ≤ g ∧ need (t.add [32, 46, 32]) ≤ g' ∧ WF K S At L g true t m = (WF K S At L g' false (t.add [32, 46, 32]) m).add [41] := by
  cases hl : t.long
  · have h1 := need_lt hl (ho hl) (p := [32, 46, 32]) (by simp)
    have h2 := need_pos (t.add [32, 46, 32])
    obtain ⟨g', rfl⟩ : ∃ g', g = g' + 1 := ⟨g - 1, by omega⟩
    refine ⟨g', by omega, by omega, ?_⟩
    conv => lhs; rw [WF]
    rw [if_neg hn, if_neg hk]
  · refine ⟨g, Nat.le_refl _, by rw [add_long hl]; exact hg, ?_⟩
    rw [add_long hl, WF_long g true t m hl, WF_long g false t _ hl, add_long hl]

theorem rest_nil {K : Nat → Int} {S : Nat → List Nat} {At : Nat → List UInt8} {L : Nat → Bool} {g m : Nat} {t : TS} (hg : need t ≤ g) (hk : K m = 0) : WF K S At L g true t m = t.add [41] := by
  have h2 := need_pos t
  obtain ⟨g', rfl⟩ : ∃ g', g = g' + 1 := ⟨g - 1, by omega⟩
  rw [WF, if_neg (by omega), if_pos hk]

/-- how far the loop over rests can go -/
def restMu (K : Nat → Int) (L : Nat → Bool) (rk : Nat → Nat) (m : Nat) : Nat := if K m = 1 ∧ L m = false then rk m + 1 else 0
theorem restMu_lt {K : Nat → Int} {L : Nat → Bool} {rk : Nat → Nat} {m z : Nat} (hm : K m = 1 ∧ L m = false) (h : K z = 1 → L z = false → rk z < rk m) : restMu K L rk z < restMu K L rk m := by
  unfold restMu
  rw [if_pos hm]
  split
  · rename_i hz; have := h hz.1 hz.2; omega
  · omega

theorem OwnW.cells {w : World} {B p bl bL n : Nat} {nv : Value} {t : TS} {v : Value} (h : OwnW w B p bl bL n nv t v) :
    w.cell? ⟨p, 0, none⟩ = some nv ∧ w.cell? ⟨p, 1, none⟩ = some (.slice (some ⟨bL, 0, none⟩) n n) ∧ w.cell? ⟨p, 2, none⟩ = some (.slice (some ⟨bl, 0, none⟩) n n) ∧ w.cell? ⟨p, 6, none⟩ = some (.bool t.long) := by
  obtain ⟨q, hq, hb⟩ := h.blk
  exact ⟨Lib.cell_of_heap hb 0, Lib.cell_of_heap hb 1, Lib.cell_of_heap hb 2, Lib.cell_of_heap hb 6⟩

set_option maxHeartbeats 1000000 in
set_option maxRecDepth 100000 in
theorem pair_step (G : List Nd) (b o cap : Nat) (W0 : World) (p bl bL : Nat) (L : Nat → Bool) (Rc : Nat → Prop) (rk : Nat → Nat) (C : OCtx G b o W0 p bl bL L Rc rk) (f : Nat) (IA : Hid (∀ g, g ≤ f → NSaid G b o cap W0 p bl bL L Rc g))
    (n : Nat) (han : n < G.length) (hrc : Rc n) (k1 : G[n].kind = 1) (t : TS) (w : World) (v : Value) (ht : t.Ok G.length L) (hf : need (t.add [40]) ≤ f) (hb : Below W0.heap.size W0 w)
    (hw : OwnW w W0.heap.size p bl bL G.length (.slice (some ⟨b, o, none⟩) G.length cap) t v) :
    Calls Tryd.prog 41 #[.pointer (some ⟨p, 0, none⟩), nodeV G[n]] w fun e w' => e = .returned (.tuple #[]) ∧
      ∃ v', OwnW w' W0.heap.size p bl bL G.length (.slice (some ⟨b, o, none⟩) G.length cap) (WF (kindN G) (subsN G) (atN G) L f true (WF (kindN G) (subsN G) (atN G) L f false (t.add [40]) ((subsN G n).getD 0 0)) ((subsN G n).getD 1 0)) v' ∧ KeptO w w' p bl v v' := by
  have HC : Hid (OCtx G b o W0 p bl bL L Rc rk) := C
  have HSLT : Hid (∀ y, y < G.length → ∀ z ∈ subsN G y, z < G.length) := subsN_lt G C.hs
  have HS2 : Hid (∀ y, y < G.length → kindN G y = 1 → (subsN G y).length = 2) := fun y hy hk => pair_two G y hy (C.hk y hy) hk
  have hl2 : G[n].subs.length = 2 := by have := HS2.out n han (by rw [kindN_at G n han]; exact k1); rw [subsN_at G n han] at this; simpa using this
  have HXS : Hid _ := C.hs n han
  have hs0 := subs_get G n han 0 (by omega)
  have hs1 := subs_get G n han 1 (by omega)
  have hv0 := subsB_at _ _ HXS.out 0 (by omega)
  have hv1 := subsB_at _ _ HXS.out 1 (by omega)
  have HR0 : Hid _ := C.rc n hrc _ (subs_mem G n han 0 (by omega))
  have HR1 : Hid _ := C.rc n hrc _ (subs_mem G n han 1 (by omega))
  have HRK : Hid (∀ y, y = (G[n].subs.getD 1 0).toNat → kindN G y = 1 → L y = false → rk y < rk n) := fun y hy => by subst hy; exact C.rr n hrc _ (subs_mem G n han 1 (by omega))
  have HXI : Hid _ := (C.hG n han).ints
  rw [hs0, hs1]
  clear hs0 hs1
  generalize G[n] = x at *
  have HBX : Hid (OwnW (w.alloc (.cells #[.int .i64 x.kind, .string ⟨⟨x.text⟩⟩, .int .i64 x.n, .int .i64 x.d, .slice x.sa x.subs.length x.cap] 26)) W0.heap.size p bl bL G.length (.slice (some ⟨b, o, none⟩) G.length cap) t v) := hw.below below_box
  have HBOX : Hid _ := (⟨hw.lt, hw.bl, hw.ownLt⟩ : p < w.heap.size ∧ bl < w.heap.size ∧ ∀ k, v.ownBlock = some k → k < w.heap.size)
  have hsz := hb.size
  have hne := C.pl
  have HKB : Hid (∀ w' v', KeptO w w' p bl v v' → Below W0.heap.size W0 w') := fun w' v' h => hb.trans (h.below hsz C.hp C.hl hw.ownB)
  have HF : Hid (need (t.add [40]) ≤ f) := hf
  have HT : Hid ((t.add [40]).Ok G.length L) := ht.add _
  clear k1 C hb ht hf hw hrc
  rcases HXI.out with h | ⟨sb, so, hsa, hc⟩
  · exfalso; rw [h] at hl2; simp at hl2
  have HCE : Hid (∀ w' : World, Below W0.heap.size W0 w' → ∀ k, k < x.subs.length → w'.cell? ⟨sb, so + k, none⟩ = some (.int .i64 (x.subs.getD k 0))) := fun w' hb' k hk => cell_below hb' (hc k hk)
  have HC0 : Hid (∀ w' : World, Below W0.heap.size W0 w' → w'.cell? ⟨sb, so, none⟩ = some (.int .i64 (x.subs.getD 0 0))) := fun w' hb' => HCE.out w' hb' 0 (by omega)
  have HC1 : Hid (∀ w' : World, Below W0.heap.size W0 w' → w'.cell? ⟨sb, so + 1, none⟩ = some (.int .i64 (x.subs.getD 1 0))) := fun w' hb' => HCE.out w' hb' 1 (by omega)
  clear hc HXI HCE
  rw [hl2, hsa] at HBX
  generalize x.subs.getD 0 0 = s0 at *
  generalize x.subs.getD 1 0 = s1 at *
  obtain ⟨m1, rfl⟩ := Int.eq_ofNat_of_zero_le hv1.1
  rw [Int.toNat_natCast] at HR1 ⊢
  obtain ⟨t1, ht1⟩ : ∃ t1, Hid (t1 = WF (kindN G) (subsN G) (atN G) L f false (t.add [40]) s0.toNat) := ⟨_, rfl⟩
  rw [← ht1.out]
  unfold nodeV
  rw [hl2, hsa]
  go_enter Tryd.func41, Tryd.ntmps41
  go_wp2_with (go_at_call 38; refine (add_any HBX.out hne (by simp; omega) [40]).mono ?_)
  rintro e w1 ⟨rfl, v1, h1, h2⟩
  have r4 : w1.cell? ⟨w.heap.size, 4, none⟩ = some (.slice (some ⟨sb, so, none⟩) 2 x.cap) := h2.box HBOX.out.1 HBOX.out.2.1 HBOX.out.2.2 4 _ rfl
  have HA2 : Hid _ := h2
  have H1 : Hid _ := h1
  have H2 : Hid (KeptO w w1 p bl v v1) := (KeptO.of_below below_box).trans h2
  have HB1 : Hid (Below W0.heap.size W0 w1) := HKB.out _ _ H2.out
  have q0 := HC0.out _ HB1.out
  clear h1 h2
  go_wp2_with (go_at_call 23; refine (IA.out f (Nat.le_refl _) _ s0 _ _ HT.out hv0.1 hv0.2 HR0.out HF.out HB1.out H1.out).mono ?_)
  rintro e w2 ⟨rfl, v2, h3, h4⟩
  rw [← ht1.out] at h3
  have r4' : w2.cell? ⟨w.heap.size, 4, none⟩ = some (.slice (some ⟨sb, so, none⟩) 2 x.cap) := (HA2.out.trans h4).box HBOX.out.1 HBOX.out.2.1 HBOX.out.2.2 4 _ rfl
  have H3 : Hid _ := h3
  have H4 : Hid (KeptO w w2 p bl v v2) := H2.out.trans h4
  have HB2 : Hid (Below W0.heap.size W0 w2) := HKB.out _ _ H4.out
  have q1 := HC1.out _ HB2.out
  clear h3 h4 r4 q0
  have HT1 : Hid ((WF (kindN G) (subsN G) (atN G) L f false (t.add [40]) s0.toNat).Ok G.length L) := WF_ok HSLT.out HS2.out f false _ _ HT.out (by omega)
  have HN1 : Hid (need (WF (kindN G) (subsN G) (atN G) L f false (t.add [40]) s0.toNat) ≤ f) := Nat.le_trans (need_WF f false _ _) HF.out
  rw [← ht1.out] at HT1 HN1
  have hm1 : m1 < G.length := by omega
  go_wp2_with fail
  go_loopw [4] (fun i wr => ∃ (m g : Nat) (tk : TS) (vk : Value), m < G.length ∧ i = .int .i64 m ∧ Hid (Rc m) ∧ g ≤ f ∧ Hid (need tk ≤ g) ∧ Hid (tk.Ok G.length L) ∧ Hid (WF (kindN G) (subsN G) (atN G) L f true t1 m1 = WF (kindN G) (subsN G) (atN G) L g true tk m) ∧
      Hid (OwnW wr W0.heap.size p bl bL G.length (.slice (some ⟨b, o, none⟩) G.length cap) tk vk) ∧ Hid (KeptO w wr p bl v vk)) (fun i _ => restMu (kindN G) L rk (intOf i).toNat)
  case atStart => exact ⟨m1, f, t1, v2, hm1, rfl, HR1.out, Nat.le_refl _, HN1.out, HT1.out, rfl, H3.out, H4.out⟩
  case round =>
    obtain ⟨m, g, tk, vk, hm, rfl, HRm, hgf, HNm, HTm, HEm, HWm, HKm⟩ := hrel
    have HBm : Hid (Below W0.heap.size W0 wr) := HKB.out _ _ HKm.out
    have hszk : W0.heap.size ≤ wr.heap.size := HBm.out.size
    obtain ⟨y0, y1, y2, y3, y4, yi, yt, ys⟩ := (HC.out.hG m hm).below HBm.out
    have HKN : Hid _ := kindN_at G m hm
    have HLm : Hid (∀ w', Below W0.heap.size W0 w' → w'.cell? ⟨bL, m, none⟩ = some (.bool (L m))) := fun w' hb' => cell_below hb' (HC.out.hL m hm)
    have hLc := HLm.out _ HBm.out
    obtain ⟨c0, c1, c2, c6⟩ := HWm.out.cells
    have HXK : Hid _ := HC.out.hk m hm
    have HXSm : Hid _ := HC.out.hs m hm
    have HSM0 : Hid _ := subs_get G m hm 0
    have HSM1 : Hid _ := subs_get G m hm 1
    have HMM : Hid _ := subs_mem G m hm
    have HL2 : Hid (kindN G m = 1 → G[m].subs.length = 2) := fun hk => by have := HS2.out m hm hk; rw [subsN_at G m hm] at this; simpa using this
    have HIN : Hid _ := (HC.out.hG m hm).ints
    have HY4 : Hid (∀ w', Below W0.heap.size W0 w' → w'.cell? ⟨b, o + m * 5 + 4, none⟩ = some (.slice G[m].sa G[m].subs.length G[m].cap)) := fun w' hb' => cell_below hb' (HC.out.hG m hm).subs
    generalize G[m] = y at *
    clear yi yt ys y1 y2 y3 c2 c6
    by_cases hpr : y.kind = 1 ∧ L m = false
    · have hb1 : (y.kind == 1) = true := by rw [beq_iff_eq]; exact hpr.1
      have hLm := hpr.2
      rw [hLm] at hLc
      obtain ⟨g', hg', hng', hE⟩ := rest_round (K := kindN G) (S := subsN G) (At := atN G) (L := L) (m := m) HTm.out.lo HNm.out (by rw [HKN.out]; exact hpr.1) hpr.2
      have hy2 := HL2.out (by rw [HKN.out]; exact hpr.1)
      rcases HIN.out with h | ⟨yb, yo, hya, hyc⟩
      · exfalso; rw [h] at hy2; simp at hy2
      have HC0m : Hid (∀ w' : World, Below W0.heap.size W0 w' → w'.cell? ⟨yb, yo, none⟩ = some (.int .i64 (y.subs.getD 0 0))) := fun w' hb' => cell_below hb' (hyc 0 (by omega))
      have HC1m : Hid (∀ w' : World, Below W0.heap.size W0 w' → w'.cell? ⟨yb, yo + 1, none⟩ = some (.int .i64 (y.subs.getD 1 0))) := fun w' hb' => cell_below hb' (hyc 1 (by omega))
      rw [HSM0.out (by omega), HSM1.out (by omega)] at hE
      have hz0 := subsB_at _ _ HXSm.out 0 (by omega)
      have hz1 := subsB_at _ _ HXSm.out 1 (by omega)
      have HRz0 : Hid _ := HC.out.rc m HRm.out _ (HMM.out 0 (by omega))
      have HRz1 : Hid _ := HC.out.rc m HRm.out _ (HMM.out 1 (by omega))
      have HRk : Hid _ := restMu_lt (K := kindN G) ⟨by rw [HKN.out]; exact hpr.1, hpr.2⟩ (HC.out.rr m HRm.out _ (HMM.out 1 (by omega)))
      have HE : Hid _ := hE
      have HNG : Hid _ := hng'
      rw [hy2, hya] at HY4 y4
      clear hyc HIN HXSm HSM0 HSM1 HMM HL2 HXK hpr hE hng' hLm
      generalize y.subs.getD 0 0 = z0 at *
      generalize y.subs.getD 1 0 = z1 at *
      go_wp2_with (go_at_call 38; refine (add_any HWm.out hne hszk [32]).mono ?_)
      rintro e w3 ⟨rfl, v3, hw3, hk3⟩
      have HW3 : Hid _ := hw3
      have HK3 : Hid (KeptO w w3 p bl v v3) := HKm.out.trans hk3
      have HB3 : Hid (Below W0.heap.size W0 w3) := HKB.out _ _ HK3.out
      obtain ⟨d0, d1, d2, d6⟩ := hw3.cells
      have d4 := HY4.out _ HB3.out
      have d5 := HC0m.out _ HB3.out
      have HOK3 : Hid _ := HTm.out.add [32]
      clear hw3 hk3 d1 d2 d6 c0 c1 y0 y4 hLc
      go_wp2_with (go_at_call 23; refine (IA.out g' (by omega) _ z0 _ _ HOK3.out hz0.1 hz0.2 HRz0.out HNG.out HB3.out HW3.out).mono ?_)
      rintro e w4 ⟨rfl, v4, hw4, hk4⟩
      have HW4 : Hid _ := hw4
      have HK4 : Hid (KeptO w w4 p bl v v4) := HK3.out.trans hk4
      have HB4 : Hid (Below W0.heap.size W0 w4) := HKB.out _ _ HK4.out
      obtain ⟨e0, e1, e2, e6⟩ := hw4.cells
      have e4 := HY4.out _ HB4.out
      have e5 := HC1m.out _ HB4.out
      have HOK4 : Hid _ := WF_ok (At := atN G) HSLT.out HS2.out g' false _ _ HOK3.out (show z0.toNat < G.length by omega)
      have HN4 : Hid _ := Nat.le_trans (need_WF (K := kindN G) (S := subsN G) (At := atN G) (L := L) g' false (tk.add [32]) z0.toNat) HNG.out
      clear hw4 hk4 e1 e2 e6 d0 d4 d5
      obtain ⟨mz, rfl⟩ := Int.eq_ofNat_of_zero_le hz1.1
      rw [Int.toNat_natCast] at HE HRz1 HRk
      go_wp2_with fail
      go_roundw
      case rel => exact ⟨mz, g', _, v4, by omega, rfl, HRz1, by omega, HN4, HOK4, by show _ = _; rw [HEm.out]; exact HE.out, HW4, HK4⟩
      case measure => exact HRk.out
    · have HPR : Hid (¬ (kindN G m = 1 ∧ L m = false)) := by rw [HKN.out]; exact hpr
      clear HIN HXSm HSM0 HSM1 HMM HL2 HXK HY4 y4
      by_cases k0 : y.kind = 0
      · have hb0 : (y.kind == 0) = true := by rw [beq_iff_eq]; exact k0
        have hb1 : (y.kind == 1) = false := by rw [beq_eq_false_iff_ne]; omega
        have HE : Hid _ := rest_nil (K := kindN G) (S := subsN G) (At := atN G) (L := L) (m := m) HNm.out (by rw [HKN.out]; exact k0)
        clear k0 hpr hLc c1
        go_wp2_with (go_at_call 38; refine (add_any HWm.out hne hszk [41]).mono ?_)
        rintro e w3 ⟨rfl, v3, hw3, hk3⟩
        rw [← HE.out, ← HEm.out] at hw3
        have HW3 : Hid _ := hw3
        have HK3 : Hid (KeptO w w3 p bl v v3) := HKm.out.trans hk3
        clear hw3 hk3
        go_wp2_with fail
        go_end0
        exact ⟨rfl, v3, HW3.out, HK3.out⟩
      · have hb0 : (y.kind == 0) = false := by rw [beq_eq_false_iff_ne]; exact k0
        obtain ⟨g', hg', hng', hE⟩ := rest_end (K := kindN G) (S := subsN G) (At := atN G) (L := L) (m := m) HTm.out.lo HNm.out HPR.out (by rw [HKN.out]; exact k0)
        have HE : Hid _ := hE
        have HNG : Hid _ := hng'
        have HOK3 : Hid _ := HTm.out.add [32, 46, 32]
        clear hE hng' k0
        by_cases k1 : y.kind = 1
        · have hb1 : (y.kind == 1) = true := by rw [beq_iff_eq]; exact k1
          have hLm : L m = true := by cases h : L m; exact absurd ⟨k1, h⟩ hpr; rfl
          rw [hLm] at hLc
          clear k1 hpr hLm
          go_wp2_with (go_at_call 38; refine (add_any HWm.out hne hszk [32, 46, 32]).mono ?_)
          rintro e w3 ⟨rfl, v3, hw3, hk3⟩
          have HW3 : Hid _ := hw3
          have HK3 : Hid (KeptO w w3 p bl v v3) := HKm.out.trans hk3
          have HB3 : Hid (Below W0.heap.size W0 w3) := HKB.out _ _ HK3.out
          clear hw3 hk3
          go_wp2_with (go_at_call 23; refine (IA.out g' (by omega) _ (m : Int) _ _ HOK3.out (by omega) (by omega) (by rw [Int.toNat_natCast]; exact HRm.out) HNG.out HB3.out HW3.out).mono ?_)
          rintro e w4 ⟨rfl, v4, hw4, hk4⟩
          rw [Int.toNat_natCast] at hw4
          have HW4 : Hid _ := hw4
          have HK4 : Hid (KeptO w w4 p bl v v4) := HK3.out.trans hk4
          have hsz4 : W0.heap.size ≤ w4.heap.size := (HKB.out _ _ HK4.out).size
          clear hw4 hk4
          go_wp2_with (go_at_call 38; refine (add_any HW4.out hne hsz4 [41]).mono ?_)
          rintro e w5 ⟨rfl, v5, hw5, hk5⟩
          rw [← HE.out, ← HEm.out] at hw5
          have HW5 : Hid _ := hw5
          have HK5 : Hid (KeptO w w5 p bl v v5) := HK4.out.trans hk5
          clear hw5 hk5
          go_wp2_with fail
          go_end0
          exact ⟨rfl, v5, HW5.out, HK5.out⟩
        · have hb1 : (y.kind == 1) = false := by rw [beq_eq_false_iff_ne]; exact k1
          clear k1 hpr hLc c1
          go_wp2_with (go_at_call 38; refine (add_any HWm.out hne hszk [32, 46, 32]).mono ?_)
          rintro e w3 ⟨rfl, v3, hw3, hk3⟩
          have HW3 : Hid _ := hw3
          have HK3 : Hid (KeptO w w3 p bl v v3) := HKm.out.trans hk3
          have HB3 : Hid (Below W0.heap.size W0 w3) := HKB.out _ _ HK3.out
          clear hw3 hk3
          go_wp2_with (go_at_call 23; refine (IA.out g' (by omega) _ (m : Int) _ _ HOK3.out (by omega) (by omega) (by rw [Int.toNat_natCast]; exact HRm.out) HNG.out HB3.out HW3.out).mono ?_)
          rintro e w4 ⟨rfl, v4, hw4, hk4⟩
          rw [Int.toNat_natCast] at hw4
          have HW4 : Hid _ := hw4
          have HK4 : Hid (KeptO w w4 p bl v v4) := HK3.out.trans hk4
          have hsz4 : W0.heap.size ≤ w4.heap.size := (HKB.out _ _ HK4.out).size
          clear hw4 hk4
          go_wp2_with (go_at_call 38; refine (add_any HW4.out hne hsz4 [41]).mono ?_)
          rintro e w5 ⟨rfl, v5, hw5, hk5⟩
          rw [← HE.out, ← HEm.out] at hw5
          have HW5 : Hid _ := hw5
          have HK5 : Hid (KeptO w w5 p bl v v5) := HK4.out.trans hk5
          clear hw5 hk5
          go_wp2_with fail
          go_end0
          exact ⟨rfl, v5, HW5.out, HK5.out⟩
end Go.Proofs.YtlhimdjkkiflhaaDoor
