/- The program's writer: a node; all of it. -/
import Derived.Test.YtlhimdjkkiflhaaDoorOwn4
namespace Go.Proofs.YtlhimdjkkiflhaaDoor
open Go.RowKit Go.Loop

theorem atom_any (x : Nd) (w : World) (hb : kindB x = true) (h1 : x.kind ≠ 1) (h2 : x.kind ≠ 2) (hp : Pow w) :
    Calls Tryd.prog 43 #[nodeV x] w fun e w' => e = .returned (.string ⟨⟨atomL x⟩⟩) ∧ Below w.heap.size w w' := by
  have hk : x.kind = 0 ∨ x.kind = 3 ∨ x.kind = 4 ∨ x.kind = 5 ∨ x.kind = 6 ∨ x.kind = 7 := by
    by_cases h : x.kind < 0 ∨ 7 < x.kind
    · unfold kindB at hb
      rw [if_neg (by omega), if_neg (by omega), if_neg (by omega), if_neg (by omega), if_neg (by omega), if_neg (by omega), if_neg (by omega), if_neg (by omega)] at hb
      exact absurd hb (by simp)
    · omega
  rcases hk with h | h | h | h | h | h
  · exact atom_0 x w h
  · have : x.text.length ≤ 400 := by
      unfold kindB at hb; rw [if_neg (by omega), if_neg (by omega), if_neg (by omega), if_pos h] at hb; simp at hb; exact hb.1
    exact atom_3 x w this h
  · exact atom_4 x w h
  · have : numB x.n x.d = true := by
      unfold kindB at hb; rw [if_neg (by omega), if_neg (by omega), if_neg (by omega), if_neg (by omega), if_neg (by omega), if_pos h] at hb; simp at hb; exact hb.1
    unfold numB at this; simp at this
    exact atom_5 x w (by omega) (by omega) (by omega) (by omega) hp h
  · exact atom_6 x w h
  · have : charB x.n = true := by
      unfold kindB at hb; rw [if_neg (by omega), if_neg (by omega), if_neg (by omega), if_neg (by omega), if_neg (by omega), if_neg (by omega), if_neg (by omega), if_pos h] at hb; simp at hb; exact hb.1
    exact atom_7 x w this h

set_option maxHeartbeats 1000000 in
set_option maxRecDepth 100000 in
theorem node_step (G : List Nd) (b o cap : Nat) (W0 : World) (p bl bL : Nat) (L : Nat → Bool) (Rc : Nat → Prop) (rk : Nat → Nat) (C : OCtx G b o W0 p bl bL L Rc rk) (f : Nat) (IA : Hid (∀ g, g ≤ f → NSaid G b o cap W0 p bl bL L Rc g)) :
    NSaid G b o cap W0 p bl bL L Rc (f + 1) := by
  intro t a w v ht ha0 ha hrc hf hb hw
  obtain ⟨n, rfl⟩ := Int.eq_ofNat_of_zero_le ha0
  rw [Int.toNat_natCast] at hrc ⊢
  have han : n < G.length := by omega
  have HC : Hid (OCtx G b o W0 p bl bL L Rc rk) := C
  have HT : Hid (t.Ok G.length L) := ht
  have HB : Hid (Below W0.heap.size W0 w) := hb
  have HW : Hid (OwnW w W0.heap.size p bl bL G.length (.slice (some ⟨b, o, none⟩) G.length cap) t v) := hw
  have HF : Hid (need t ≤ f + 1) := hf
  have HR : Hid (Rc n) := hrc
  obtain ⟨c0, c1, c2, c6⟩ := hw.cells
  obtain ⟨hlc, _⟩ := hw.rl n (by rw [ht.ll]; exact han)
  have hLc := cell_below hb (C.hL n han)
  have hsz := hb.size
  have hne := C.pl
  have HKB : Hid (∀ w' v', KeptO w w' p bl v v' → Below W0.heap.size W0 w') := fun w' v' h => hb.trans (h.below hsz C.hp C.hl hw.ownB)
  have HPW : Hid (∀ w', Below W0.heap.size W0 w' → Pow w') := fun w' h => C.pw.on h
  have hg : t.lab.getD n 0 = t.lab.getD n (-1) := by
    have := ht.ll; simp [List.getD, List.getElem?_eq_getElem (show n < t.lab.length by omega)]
  rw [hg] at hlc
  have hnx := ht.n2
  have hln := ht.ln n
  clear C ht hb hw hf hrc hg
  cases hlong : t.long
  · rw [hlong] at c6
    by_cases hlab : 0 ≤ t.lab.getD n (-1)
    · have HV : Hid (WF (kindN G) (subsN G) (atN G) L (f + 1) false t n = t.add (35 :: (Lib.itoa (t.lab.getD n (-1)) ++ [35]))) := by
        show _ = _; simp only [WF]; rw [if_neg (by simp [hlong]), if_pos hlab]
      generalize t.lab.getD n (-1) = lv at *
      have hil := itoa_len lv (by omega) (by omega)
      have ks := str_app
      have hl1 : (lv == -1) = false := by rw [beq_eq_false_iff_ne]; omega
      go_enter Tryd.func23, Tryd.ntmps23
      go_wp2_with fail
      refine (itoa_any lv _ (by omega) (by omega) (HPW.out _ HB.out)).mono ?_
      rintro e w1 ⟨rfl, hb1⟩
      have HW1 : Hid _ := HW.out.below hb1
      have HK1 : Hid (KeptO w w1 p bl v v) := KeptO.of_below hb1
      have hs1 := Nat.le_trans hsz hb1.size
      clear hb1 hLc hlc c0 c1 c2 c6
      go_wp2_with fail
      refine (add_any HW1.out hne hs1 (35 :: (Lib.itoa lv ++ [35]))).mono ?_
      rintro e w2 ⟨rfl, v2, hw2, hk2⟩
      rw [← HV.out] at hw2
      have HW2 : Hid _ := hw2
      have HK2 : Hid (KeptO w w2 p bl v v2) := HK1.out.trans hk2
      clear hw2 hk2
      go_wp2_with fail
      refine bodyPost_ret (results_none rfl _ _ _) rfl ?_
      exact ⟨rfl, v2, HW2.out, HK2.out⟩
    · have HLAB : Hid (¬ 0 ≤ t.lab.getD n (-1)) := hlab
      have hlv : t.lab.getD n (-1) = -1 := by omega
      rw [hlv] at hlc
      obtain ⟨t1, ht1⟩ : ∃ t1, Hid (t1 = if L n then t.put n else t) := ⟨_, rfl⟩
      have HT1 : Hid (t1.Ok G.length L) := by
        show t1.Ok _ _
        rw [ht1.out]
        split
        · rename_i e; exact HT.out.put han e hlong
        · exact HT.out
      have HF1 : Hid (∀ q : List UInt8, 1 ≤ q.length → need (t1.add q) ≤ f) := by
        intro q hq
        have ho := HT.out.lo hlong
        have h1 := HF.out
        rw [ht1.out]
        split
        · have h2 := need_put_lt hlong ho n
          have h3 := need_add (t.put n) q
          omega
        · have h2 := need_lt hlong ho hq
          omega
      have HWF : Hid (WF (kindN G) (subsN G) (atN G) L (f + 1) false t n =
          if kindN G n = 1 then WF (kindN G) (subsN G) (atN G) L f true (WF (kindN G) (subsN G) (atN G) L f false (t1.add [40]) ((subsN G n).getD 0 0)) ((subsN G n).getD 1 0)
          else if kindN G n = 2 then (vecTo (WF (kindN G) (subsN G) (atN G) L f false) (subsN G n) (subsN G n).length (t1.add [35, 40])).add [41]
          else t1.add (atN G n)) := by
        show _ = _
        rw [ht1.out]
        simp only [WF]
        rw [if_neg (by simp [hlong]), if_neg (by have := HLAB.out; omega)]
      clear hlab hlv hln
      cases hL : L n
      · have HL0 : Hid (t = t1) := by show _ = _; rw [ht1.out, hL]; rfl
        rw [hL] at hLc
        have HW1 : Hid (OwnW w W0.heap.size p bl bL G.length (.slice (some ⟨b, o, none⟩) G.length cap) t1 v) := by rw [← HL0.out]; exact HW.out
        obtain ⟨v1, hv1⟩ : ∃ v1, v1 = v := ⟨v, rfl⟩
        have HK1 : Hid (KeptO w w p bl v v1) := by rw [hv1]; exact KeptO.refl _ _ _ _
        rw [← hv1] at HW1
        clear hv1
        go_enter Tryd.func23, Tryd.ntmps23
        have HBc : Hid (Below W0.heap.size W0 w) := HKB.out _ _ HK1.out
        obtain ⟨x0, x1, x2, x3, x4, xi, xt, xs⟩ := (HC.out.hG n han).below HBc.out
        have HXK : Hid _ := HC.out.hk n han
        have HKN : Hid _ := kindN_at G n han
        have HAN : Hid _ := atN_at G n han
        have HVS : Hid (G[n].kind = 2 → _) := fun k2 => vector_step G b o cap W0 p bl bL L Rc rk HC.out f (show Hid _ from IA.out f (Nat.le_refl _)) n han HR.out k2
        have HPS : Hid (G[n].kind = 1 → _) := fun k1 => pair_step G b o cap W0 p bl bL L Rc rk HC.out f IA n han HR.out k1
        have HSLT : Hid (∀ y, y < G.length → ∀ z ∈ subsN G y, z < G.length) := subsN_lt G HC.out.hs
        have HS2 : Hid (∀ y, y < G.length → kindN G y = 1 → (subsN G y).length = 2) := fun y hy hk => pair_two G y hy (HC.out.hk y hy) hk
        obtain ⟨d0, d1, d2, d6⟩ := HW1.out.cells
        have HBB : Hid (∀ ob : Obj, Below W0.heap.size W0 (w.alloc ob)) := fun ob => HBc.out.alloc HBc.out.size ob
        have HWB : Hid (∀ ob : Obj, OwnW (w.alloc ob) W0.heap.size p bl bL G.length (.slice (some ⟨b, o, none⟩) G.length cap) t1 v1) := fun ob => HW1.out.below below_box
        have HKo : Hid (∀ ob : Obj, KeptO w (w.alloc ob) p bl v v1) := fun ob => HK1.out.trans (KeptO.of_below below_box)
        generalize G[n] = x at *
        clear xi xt xs d1 d2 d6
        by_cases k1 : x.kind = 1
        · have hb1 : (x.kind == 1) = true := by rw [beq_iff_eq]; exact k1
          have HV : Hid _ := HWF.out
          rw [HKN.out, if_pos k1] at HV
          have HPP : Hid _ := HPS.out k1
          clear k1 HVS HPS
          go_wp2_with fail
          refine (HPP.out t1 _ v1 HT1.out (HF1.out [40] (by simp)) (HBB.out _) (HWB.out _)).mono ?_
          rintro e w2 ⟨rfl, v2, hw2, hk2⟩
          rw [← HV.out] at hw2
          have HW2 : Hid _ := hw2
          have HK2 : Hid (KeptO w w2 p bl v v2) := (HKo.out _).trans hk2
          clear hw2 hk2
          go_wp2_with fail
          go_end0
          exact ⟨rfl, v2, HW2.out, HK2.out⟩
        · have hb1 : (x.kind == 1) = false := by rw [beq_eq_false_iff_ne]; exact k1
          by_cases k2 : x.kind = 2
          · have hb2 : (x.kind == 2) = true := by rw [beq_iff_eq]; exact k2
            have HV : Hid _ := HWF.out
            rw [HKN.out, if_neg k1, if_pos k2] at HV
            have HPP : Hid _ := HVS.out k2
            clear k1 k2 HVS HPS
            go_wp2_with fail
            refine (HPP.out t1 _ v1 HT1.out (HF1.out [35, 40] (by simp)) (HBB.out _) HSLT.out HS2.out (HWB.out _)).mono ?_
            rintro e w2 ⟨rfl, v2, hw2, hk2⟩
            rw [← HV.out] at hw2
            have HW2 : Hid _ := hw2
            have HK2 : Hid (KeptO w w2 p bl v v2) := (HKo.out _).trans hk2
            clear hw2 hk2
            go_wp2_with fail
            go_end0
            exact ⟨rfl, v2, HW2.out, HK2.out⟩
          · have hb2 : (x.kind == 2) = false := by rw [beq_eq_false_iff_ne]; exact k2
            have HV : Hid _ := HWF.out
            rw [HKN.out, if_neg k1, if_neg k2, HAN.out] at HV
            have HK1' : Hid _ := k1
            have HK2' : Hid _ := k2
            have hszc : W0.heap.size ≤ w.heap.size := HBc.out.size
            clear k1 k2 HVS HPS
            go_wp2_with fail
            refine (atom_any x _ HXK.out (by exact HK1'.out) (by exact HK2'.out) (HPW.out _ (HBB.out _))).mono ?_
            rintro e w4 ⟨rfl, hb4⟩
            have HW4 : Hid _ := (HWB.out _).below hb4
            have HK4 : Hid _ := (HKo.out _).trans (KeptO.of_below hb4)
            have hs4 : W0.heap.size ≤ w4.heap.size := by have := hb4.size; simp at this; omega
            clear hb4
            go_wp2_with fail
            refine (add_any HW4.out hne hs4 (atomL x)).mono ?_
            rintro e w2 ⟨rfl, v2, hw2, hk2⟩
            rw [← HV.out] at hw2
            have HW2 : Hid _ := hw2
            have HK2 : Hid (KeptO w w2 p bl v v2) := HK4.out.trans hk2
            clear hw2 hk2
            go_wp2_with fail
            go_end0
            exact ⟨rfl, v2, HW2.out, HK2.out⟩
      · have HL0 : Hid (t.put n = t1) := by show _ = _; rw [ht1.out, hL]; rfl
        rw [hL] at hLc
        go_enter Tryd.func23, Tryd.ntmps23
        go_wp2_with fail
        refine (put_any HW.out hne hsz HT.out.ll hnx n han HC.out.hl (fun w' h => HPW.out w' (HB.out.trans h))).mono ?_
        rintro e w1 ⟨rfl, v1, h1, h2⟩
        rw [HL0.out] at h1
        have HW1 : Hid _ := h1
        have HK1 : Hid (KeptO w w1 p bl v v1) := h2
        clear h1 h2 c0 c1 c2 c6 hlc hLc
        have HBc : Hid (Below W0.heap.size W0 w1) := HKB.out _ _ HK1.out
        obtain ⟨x0, x1, x2, x3, x4, xi, xt, xs⟩ := (HC.out.hG n han).below HBc.out
        have HXK : Hid _ := HC.out.hk n han
        have HKN : Hid _ := kindN_at G n han
        have HAN : Hid _ := atN_at G n han
        have HVS : Hid (G[n].kind = 2 → _) := fun k2 => vector_step G b o cap W0 p bl bL L Rc rk HC.out f (show Hid _ from IA.out f (Nat.le_refl _)) n han HR.out k2
        have HPS : Hid (G[n].kind = 1 → _) := fun k1 => pair_step G b o cap W0 p bl bL L Rc rk HC.out f IA n han HR.out k1
        have HSLT : Hid (∀ y, y < G.length → ∀ z ∈ subsN G y, z < G.length) := subsN_lt G HC.out.hs
        have HS2 : Hid (∀ y, y < G.length → kindN G y = 1 → (subsN G y).length = 2) := fun y hy hk => pair_two G y hy (HC.out.hk y hy) hk
        obtain ⟨d0, d1, d2, d6⟩ := HW1.out.cells
        have HBB : Hid (∀ ob : Obj, Below W0.heap.size W0 (w1.alloc ob)) := fun ob => HBc.out.alloc HBc.out.size ob
        have HWB : Hid (∀ ob : Obj, OwnW (w1.alloc ob) W0.heap.size p bl bL G.length (.slice (some ⟨b, o, none⟩) G.length cap) t1 v1) := fun ob => HW1.out.below below_box
        have HKo : Hid (∀ ob : Obj, KeptO w (w1.alloc ob) p bl v v1) := fun ob => HK1.out.trans (KeptO.of_below below_box)
        generalize G[n] = x at *
        clear xi xt xs d1 d2 d6
        by_cases k1 : x.kind = 1
        · have hb1 : (x.kind == 1) = true := by rw [beq_iff_eq]; exact k1
          have HV : Hid _ := HWF.out
          rw [HKN.out, if_pos k1] at HV
          have HPP : Hid _ := HPS.out k1
          clear k1 HVS HPS
          go_wp2_with fail
          refine (HPP.out t1 _ v1 HT1.out (HF1.out [40] (by simp)) (HBB.out _) (HWB.out _)).mono ?_
          rintro e w2 ⟨rfl, v2, hw2, hk2⟩
          rw [← HV.out] at hw2
          have HW2 : Hid _ := hw2
          have HK2 : Hid (KeptO w w2 p bl v v2) := (HKo.out _).trans hk2
          clear hw2 hk2
          go_wp2_with fail
          go_end0
          exact ⟨rfl, v2, HW2.out, HK2.out⟩
        · have hb1 : (x.kind == 1) = false := by rw [beq_eq_false_iff_ne]; exact k1
          by_cases k2 : x.kind = 2
          · have hb2 : (x.kind == 2) = true := by rw [beq_iff_eq]; exact k2
            have HV : Hid _ := HWF.out
            rw [HKN.out, if_neg k1, if_pos k2] at HV
            have HPP : Hid _ := HVS.out k2
            clear k1 k2 HVS HPS
            go_wp2_with fail
            refine (HPP.out t1 _ v1 HT1.out (HF1.out [35, 40] (by simp)) (HBB.out _) HSLT.out HS2.out (HWB.out _)).mono ?_
            rintro e w2 ⟨rfl, v2, hw2, hk2⟩
            rw [← HV.out] at hw2
            have HW2 : Hid _ := hw2
            have HK2 : Hid (KeptO w w2 p bl v v2) := (HKo.out _).trans hk2
            clear hw2 hk2
            go_wp2_with fail
            go_end0
            exact ⟨rfl, v2, HW2.out, HK2.out⟩
          · have hb2 : (x.kind == 2) = false := by rw [beq_eq_false_iff_ne]; exact k2
            have HV : Hid _ := HWF.out
            rw [HKN.out, if_neg k1, if_neg k2, HAN.out] at HV
            have HK1' : Hid _ := k1
            have HK2' : Hid _ := k2
            have hszc : W0.heap.size ≤ w1.heap.size := HBc.out.size
            clear k1 k2 HVS HPS
            go_wp2_with fail
            refine (atom_any x _ HXK.out (by exact HK1'.out) (by exact HK2'.out) (HPW.out _ (HBB.out _))).mono ?_
            rintro e w4 ⟨rfl, hb4⟩
            have HW4 : Hid _ := (HWB.out _).below hb4
            have HK4 : Hid _ := (HKo.out _).trans (KeptO.of_below hb4)
            have hs4 : W0.heap.size ≤ w4.heap.size := by have := hb4.size; simp at this; omega
            clear hb4
            go_wp2_with fail
            refine (add_any HW4.out hne hs4 (atomL x)).mono ?_
            rintro e w2 ⟨rfl, v2, hw2, hk2⟩
            rw [← HV.out] at hw2
            have HW2 : Hid _ := hw2
            have HK2 : Hid (KeptO w w2 p bl v v2) := HK4.out.trans hk2
            clear hw2 hk2
            go_wp2_with fail
            go_end0
            exact ⟨rfl, v2, HW2.out, HK2.out⟩
  · rw [hlong] at c6
    have HV : Hid (WF (kindN G) (subsN G) (atN G) L (f + 1) false t n = t) := WF_long _ _ _ _ hlong
    go_enter Tryd.func23, Tryd.ntmps23
    go_wp2_with fail
    refine bodyPost_ret (results_none rfl _ _ _) rfl ?_
    exact ⟨rfl, v, by rw [HV.out]; exact HW.out, KeptO.refl _ _ _ _⟩

theorem node_all {G : List Nd} {b o cap : Nat} {W0 : World} {p bl bL : Nat} {L : Nat → Bool} {Rc : Nat → Prop} {rk : Nat → Nat} (C : OCtx G b o W0 p bl bL L Rc rk) : ∀ f g, g ≤ f → NSaid G b o cap W0 p bl bL L Rc g
  | 0, g, hg => by
    intro t a w v _ _ _ _ hf
    have := need_pos t; omega
  | f + 1, g, hg => by
    rcases Nat.lt_or_ge f g with h | h
    · have : g = f + 1 := by omega
      subst this
      exact node_step G b o cap W0 p bl bL L Rc rk C f (fun g hg => node_all C f g hg)
    · exact node_all C f g h
end Go.Proofs.YtlhimdjkkiflhaaDoor
