/- The program's writer: vectors. -/
import Derived.Test.YtlhimdjkkiflhaaDoorOwn2
namespace Go.Proofs.YtlhimdjkkiflhaaDoor
open Go.RowKit Go.Loop

/-- what is written, and where it lies; Rc: what may be met, rk: a rank that falls along rests without labels -/
structure OCtx (G : List Nd) (b o : Nat) (W0 : World) (p bl bL : Nat) (L : Nat → Bool) (Rc : Nat → Prop) (rk : Nat → Nat) : Prop where
  hG : GraphAt W0 b o G
  hk : ∀ x (h : x < G.length), kindB G[x] = true
  hs : ∀ x (h : x < G.length), subsB G[x].subs G.length = true
  hn : G.length ≤ 150
  hp : W0.heap.size ≤ p
  hl : W0.heap.size ≤ bl
  pl : p ≠ bl
  hL : ∀ i, i < G.length → W0.cell? ⟨bL, i, none⟩ = some (.bool (L i))
  pw : Pow W0
  rc : ∀ x, Rc x → ∀ y ∈ subsN G x, Rc y
  rr : ∀ x, Rc x → ∀ y ∈ subsN G x, kindN G y = 1 → L y = false → rk y < rk x

def NSaid (G : List Nd) (b o cap : Nat) (W0 : World) (p bl bL : Nat) (L : Nat → Bool) (Rc : Nat → Prop) (f : Nat) : Prop :=
  ∀ (t : TS) (a : Int) (w : World) (v : Value), t.Ok G.length L → 0 ≤ a → a < G.length → Rc a.toNat → need t ≤ f → Below W0.heap.size W0 w → OwnW w W0.heap.size p bl bL G.length (.slice (some ⟨b, o, none⟩) G.length cap) t v →
    Calls Tryd.prog 23 #[.pointer (some ⟨p, 0, none⟩), .int .i64 a] w fun e w' => e = .returned (.tuple #[]) ∧
      ∃ v', OwnW w' W0.heap.size p bl bL G.length (.slice (some ⟨b, o, none⟩) G.length cap) (WF (kindN G) (subsN G) (atN G) L f false t a.toNat) v' ∧ KeptO w w' p bl v v'

theorem subs_mem (G : List Nd) (x : Nat) (h : x < G.length) (k : Nat) (hk : k < G[x].subs.length) : (G[x].subs.getD k 0).toNat ∈ subsN G x := by
  rw [subsN_at G x h]
  simp only [List.mem_map]
  exact ⟨G[x].subs.getD k 0, by simp [List.getD, List.getElem?_eq_getElem hk], rfl⟩

theorem KeptO.box {w w' : World} {p bl : Nat} {v v' : Value} {cs : Array Value} {T : TypeId} (h : KeptO (w.alloc (.cells cs T)) w' p bl v v') (hp : p < w.heap.size) (hl : bl < w.heap.size) (hv : ∀ k, v.ownBlock = some k → k < w.heap.size) :
    ∀ i z, cs[i]? = some z → w'.cell? ⟨w.heap.size, i, none⟩ = some z := fun i z hz => by
  have := h.block w.heap.size (by simp) (by omega) (by omega) (fun e => by have := hv _ e.symm; omega)
  rw [Lib.cell_of_heap (this.trans (heap_alloc_new w _))]; exact hz
theorem OwnW.ownLt {w : World} {B p bl bL n : Nat} {nv : Value} {t : TS} {v : Value} (h : OwnW w B p bl bL n nv t v) : ∀ k, v.ownBlock = some k → k < w.heap.size := fun k hk => (h.own.lt k hk).2

set_option maxHeartbeats 1000000 in
set_option maxRecDepth 100000 in
theorem vector_step (G : List Nd) (b o cap : Nat) (W0 : World) (p bl bL : Nat) (L : Nat → Bool) (Rc : Nat → Prop) (rk : Nat → Nat) (C : OCtx G b o W0 p bl bL L Rc rk) (f : Nat) (IA : Hid (NSaid G b o cap W0 p bl bL L Rc f))
    (n : Nat) (han : n < G.length) (hrc : Rc n) (k2 : G[n].kind = 2) (t : TS) (w : World) (v : Value) (ht : t.Ok G.length L) (hf : need (t.add [35, 40]) ≤ f) (hb : Below W0.heap.size W0 w)
    (hSLT : ∀ x, x < G.length → ∀ y ∈ subsN G x, y < G.length) (hS2 : ∀ x, x < G.length → kindN G x = 1 → (subsN G x).length = 2)
    (hw : OwnW w W0.heap.size p bl bL G.length (.slice (some ⟨b, o, none⟩) G.length cap) t v) :
    Calls Tryd.prog 42 #[.pointer (some ⟨p, 0, none⟩), nodeV G[n]] w fun e w' => e = .returned (.tuple #[]) ∧
      ∃ v', OwnW w' W0.heap.size p bl bL G.length (.slice (some ⟨b, o, none⟩) G.length cap) ((vecTo (WF (kindN G) (subsN G) (atN G) L f false) (subsN G n) (subsN G n).length (t.add [35, 40])).add [41]) v' ∧ KeptO w w' p bl v v' := by
  have HC : Hid (OCtx G b o W0 p bl bL L Rc rk) := C
  have HB : Hid (Below W0.heap.size W0 w) := hb
  have HXI : Hid _ := (C.hG n han).ints
  have HXS : Hid _ := C.hs n han
  have HXK : Hid _ := C.hk n han
  have HSG : Hid (∀ k, k < G[n].subs.length → (subsN G n).getD k 0 = (G[n].subs.getD k 0).toNat) := fun k hk => subs_get G n han k hk
  have HRC : Hid (∀ k, k < G[n].subs.length → Rc (G[n].subs.getD k 0).toNat) := fun k hk => C.rc n hrc _ (subs_mem G n han k hk)
  have HLL : Hid ((subsN G n).length = G[n].subs.length) := by show _ = _; rw [subsN_at G n han]; simp
  generalize G[n] = x at *
  have HNV : Hid (∀ k, need (vecTo (WF (kindN G) (subsN G) (atN G) L f false) (subsN G n) k (t.add [35, 40])) ≤ f) := fun k => Nat.le_trans (need_vec (fun t y => need_WF f false t y) _ _ _) hf
  have HOV : Hid (∀ k, k ≤ x.subs.length → (vecTo (WF (kindN G) (subsN G) (atN G) L f false) (subsN G n) k (t.add [35, 40])).Ok G.length L) := fun k hk =>
    vec_ok (fun t y ht hy => WF_ok hSLT hS2 f false t y ht hy) (subsN G n) (hSLT n han) k _ (by rw [HLL.out]; exact hk) (ht.add _)
  have hlen : x.subs.length ≤ 20 := by have := HXK.out; unfold kindB at this; rw [if_neg (by omega), if_neg (by omega), if_pos k2] at this; simp at this; exact this.1
  have HBX : Hid (OwnW (w.alloc (.cells #[.int .i64 x.kind, .string ⟨⟨x.text⟩⟩, .int .i64 x.n, .int .i64 x.d, .slice x.sa x.subs.length x.cap] 26)) W0.heap.size p bl bL G.length (.slice (some ⟨b, o, none⟩) G.length cap) t v) := hw.below below_box
  have HBOX : Hid _ := (⟨hw.lt, hw.bl, hw.ownLt⟩ : p < w.heap.size ∧ bl < w.heap.size ∧ ∀ k, v.ownBlock = some k → k < w.heap.size)
  have hsz := hb.size
  have hne := C.pl
  have HKB : Hid (∀ w' v', KeptO w w' p bl v v' → Below W0.heap.size W0 w') := fun w' v' h => hb.trans (h.below hsz C.hp C.hl hw.ownB)
  clear k2 C hb ht hf hw hSLT hS2 hrc
  unfold nodeV
  go_enter Tryd.func42, Tryd.ntmps42
  go_wp2_with (go_at_call 38; refine (add_any HBX.out hne (by simp; omega) [35, 40]).mono ?_)
  rintro e w1 ⟨rfl, v1, h1, h2⟩
  have r4 := h2.box HBOX.out.1 HBOX.out.2.1 HBOX.out.2.2 4 _ rfl
  have H1 : Hid (OwnW w1 W0.heap.size p bl bL G.length (.slice (some ⟨b, o, none⟩) G.length cap) (t.add [35, 40]) v1) := h1
  have H2 : Hid (KeptO w w1 p bl v v1) := (KeptO.of_below below_box).trans h2
  clear h1 h2
  rcases HXI.out with h | ⟨sb, so, hsa, hc⟩
  · have HE0 : Hid (x.subs.length = 0) := by show _ = _; rw [h]; rfl
    clear h HXI
    go_wp2_with fail
    go_loopw [11] (fun i wr => ∃ (k : Nat) (vk : Value), k ≤ x.subs.length ∧ i = .int .i64 k ∧ Hid (OwnW wr W0.heap.size p bl bL G.length (.slice (some ⟨b, o, none⟩) G.length cap) (vecTo (WF (kindN G) (subsN G) (atN G) L f false) (subsN G n) k (t.add [35, 40])) vk) ∧ Hid (KeptO w wr p bl v vk)) (fun i _ => x.subs.length - (intOf i).toNat)
    case atStart => exact ⟨0, v1, Nat.zero_le _, rfl, H1.out, H2.out⟩
    case round =>
      obtain ⟨k, vk, hk, rfl, hwk, hkk⟩ := hrel
      have HBK : Hid (Below W0.heap.size W0 wr) := HKB.out _ _ hkk.out
      have hszk : W0.heap.size ≤ wr.heap.size := HBK.out.size
      by_cases hlt : k < x.subs.length
      · exfalso; have := HE0.out; omega
      · have hkl : k = x.subs.length := by omega
        go_wp2_with (go_at_call 38; refine (add_any hwk.out hne hszk [41]).mono ?_)
        rintro e w5 ⟨rfl, v5, hw5, hk5⟩
        rw [hkl, ← HLL.out] at hw5
        have HW5 : Hid _ := hw5
        have HK5 : Hid _ := hkk.out.trans hk5
        clear hw5 hk5 hwk hkk
        go_wp2_with fail
        go_end0
        exact ⟨rfl, v5, HW5.out, HK5.out⟩
  · have HCE : Hid (∀ w' : World, Below W0.heap.size W0 w' → ∀ k, k < x.subs.length → w'.cell? ⟨sb, so + k, none⟩ = some (.int .i64 (x.subs.getD k 0))) := fun w' hb' k hk => cell_below hb' (hc k hk)
    clear hc HXI
    rw [hsa] at r4
    go_wp2_with fail
    go_loopw [11] (fun i wr => ∃ (k : Nat) (vk : Value), k ≤ x.subs.length ∧ i = .int .i64 k ∧ Hid (OwnW wr W0.heap.size p bl bL G.length (.slice (some ⟨b, o, none⟩) G.length cap) (vecTo (WF (kindN G) (subsN G) (atN G) L f false) (subsN G n) k (t.add [35, 40])) vk) ∧ Hid (KeptO w wr p bl v vk)) (fun i _ => x.subs.length - (intOf i).toNat)
    case atStart => exact ⟨0, v1, Nat.zero_le _, rfl, H1.out, H2.out⟩
    case round =>
      obtain ⟨k, vk, hk, rfl, hwk, hkk⟩ := hrel
      have HBK : Hid (Below W0.heap.size W0 wr) := HKB.out _ _ hkk.out
      have hszk : W0.heap.size ≤ wr.heap.size := HBK.out.size
      by_cases hlt : k < x.subs.length
      · have hcell := HCE.out _ HBK.out k hlt
        have hv := subsB_at _ _ HXS.out k hlt
        have HR : Hid _ := HRC.out k hlt
        have HGK : Hid _ := HSG.out k hlt
        have HOK : Hid _ := HOV.out k hk
        have HND : Hid _ := HNV.out k
        by_cases hk0 : k = 0
        · have HST : Hid (vecTo (WF (kindN G) (subsN G) (atN G) L f false) (subsN G n) (k + 1) (t.add [35, 40]) = WF (kindN G) (subsN G) (atN G) L f false (vecTo (WF (kindN G) (subsN G) (atN G) L f false) (subsN G n) k (t.add [35, 40])) (x.subs.getD k 0).toNat) := by
            show _ = _; rw [← HGK.out]; simp only [vecTo]; rw [if_pos hk0]
          generalize vecTo (WF (kindN G) (subsN G) (atN G) L f false) (subsN G n) k (t.add [35, 40]) = tk at *
          generalize x.subs.getD k 0 = sv at *
          have hkz : (k : Int) ≤ 0 := by omega
          have HK0 : Hid _ := hk0
          clear hk0
          go_wp2_with (go_at_call 23; refine (IA.out _ sv _ _ HOK.out hv.1 hv.2 HR.out HND.out HBK.out hwk.out).mono ?_)
          rintro e w4 ⟨rfl, v4, hw4, hk4⟩
          rw [← HST.out] at hw4
          have HW4 : Hid _ := hw4
          have HK4 : Hid _ := hkk.out.trans hk4
          clear hw4 hk4 hwk hkk hcell HBK
          go_wp2_with fail
          go_roundw
          case rel => exact ⟨k + 1, v4, by omega, by go_num, HW4, HK4⟩
          case measure => simp [intOf]; omega
        · have HST : Hid (vecTo (WF (kindN G) (subsN G) (atN G) L f false) (subsN G n) (k + 1) (t.add [35, 40]) = WF (kindN G) (subsN G) (atN G) L f false ((vecTo (WF (kindN G) (subsN G) (atN G) L f false) (subsN G n) k (t.add [35, 40])).add [32]) (x.subs.getD k 0).toNat) := by
            show _ = _; rw [← HGK.out]; simp only [vecTo]; rw [if_neg hk0]
          generalize vecTo (WF (kindN G) (subsN G) (atN G) L f false) (subsN G n) k (t.add [35, 40]) = tk at *
          generalize x.subs.getD k 0 = sv at *
          have hkz : (0 : Int) < (k : Int) := by omega
          have HOK2 : Hid _ := HOK.out.add [32]
          have HND2 : Hid _ := Nat.le_trans (need_add tk [32]) HND.out
          go_wp2_with (go_at_call 38; refine (add_any hwk.out hne hszk [32]).mono ?_)
          rintro e w3 ⟨rfl, v3, hw3, hk3⟩
          have HW3 : Hid _ := hw3
          have HK3 : Hid _ := hkk.out.trans hk3
          have HB3 : Hid (Below W0.heap.size W0 w3) := HKB.out _ _ HK3.out
          clear hw3 hk3 hwk hkk hcell HBK
          go_wp2_with (go_at_call 23; refine (IA.out _ sv _ _ HOK2.out hv.1 hv.2 HR.out HND2.out HB3.out HW3.out).mono ?_)
          rintro e w4 ⟨rfl, v4, hw4, hk4⟩
          rw [← HST.out] at hw4
          have HW4 : Hid _ := hw4
          have HK4 : Hid _ := HK3.out.trans hk4
          clear hw4 hk4
          go_wp2_with fail
          go_roundw
          case rel => exact ⟨k + 1, v4, by omega, by go_num, HW4, HK4⟩
          case measure => simp [intOf]; omega
      · have hkl : k = x.subs.length := by omega
        go_wp2_with (go_at_call 38; refine (add_any hwk.out hne hszk [41]).mono ?_)
        rintro e w5 ⟨rfl, v5, hw5, hk5⟩
        rw [hkl, ← HLL.out] at hw5
        have HW5 : Hid _ := hw5
        have HK5 : Hid _ := hkk.out.trans hk5
        clear hw5 hk5 hwk hkk
        go_wp2_with fail
        go_end0
        exact ⟨rfl, v5, HW5.out, HK5.out⟩
end Go.Proofs.YtlhimdjkkiflhaaDoor
