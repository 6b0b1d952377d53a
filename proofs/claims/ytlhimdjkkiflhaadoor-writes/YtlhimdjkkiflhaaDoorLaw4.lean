/- The law's write: the program's answer is the document's; what was handed over is as it was. -/
import Derived.Test.YtlhimdjkkiflhaaDoorLaw3
import Derived.Test.YtlhimdjkkiflhaaDoorOwnTop
import Derived.Test.YtlhimdjkkiflhaaDoorPlace
namespace Go.Proofs.YtlhimdjkkiflhaaDoor
open Go.RowKit Go.Loop

/-- the nodes that were handed over -/
def handG (G : List Nd) (R : Nat → Option Nat) : List Nd := (List.range G.length).map (outN G R)
theorem handG_len (G : List Nd) (R : Nat → Option Nat) : (handG G R).length = G.length := by simp [handG]
theorem handG_get (G : List Nd) (R : Nat → Option Nat) (i : Nat) (h : i < (handG G R).length) : (handG G R)[i] = outN G R i := by simp [handG]
theorem handG_bare (G : List Nd) (R : Nat → Option Nat) : (handG G R).map bareN = G.map bareN := by
  apply List.ext_getElem
  · simp [handG]
  · intro i h1 h2
    simp only [List.getElem_map]
    rw [handG_get]
    rw [outN_at G R i (by simpa using h2)]
    cases R i <;> rfl
theorem handG_at {G : List Nd} {R : Nat → Option Nat} {w0 w : World} {b o : Nat} {v : Nat → Value} (hG : GraphAt w0 b o G) (hf : Fit G R G.length) (h : HS w w0.heap.size G.length (outN G R) v R (rowL G)) (hb : Below w0.heap.size w0 w) :
    GraphAt w w0.heap.size 0 (handG G R) := by
  intro i hi
  have hi' : i < G.length := by rw [handG_len] at hi; exact hi
  rw [handG_get, Nat.zero_add]
  obtain ⟨c0, c1, c2, c3, c4, _, _, _, _, _⟩ := h.out i (by omega)
  refine ⟨c0, c1, c2, c3, c4, out_ints hG hf h hb i, ?_, ?_⟩
  · rw [outN_at G R i hi']; have := (hG i hi').tlen; cases R i <;> exact this
  · rw [out_len, wantN_at G i hi']; exact (hG i hi').slen

set_option maxHeartbeats 2000000 in
set_option maxRecDepth 100000 in
theorem write_any (G : List Nd) (b o cap : Nat) (mode : Int) (w : World) (hG : GraphAt w b o G) (hp : Pow w) (hn : G.length ≤ 2199023255552) (hsl : ∀ i (h : i < G.length), G[i].subs.length ≤ 17592186044416) (htx : ∀ i (h : i < G.length), G[i].text.length ≤ 140737488355328) :
    Calls Tryd.prog 4 #[.slice (some ⟨b, o, none⟩) G.length cap, .int .i64 mode] w fun e w' => e = .returned (.bool true) ∧ Below w.heap.size w w' := by
  have HG : Hid _ := hG
  have HP : Hid _ := hp
  have HSL : Hid _ := hsl
  have HTX : Hid _ := htx
  have HML : Hid (G.length ≤ maxLen) := by show _ ≤ _; unfold maxLen; omega
  clear hG hp hsl htx
  go_enter Tryd.func4, Tryd.ntmps4
  go_wp2_with fail
  refine (handed_any G b o cap _ HG.out hn HSL.out).mono ?_
  rintro e w1 ⟨rfl, R, hs1, hf1, hb1⟩
  have HS1 : Hid _ := hs1
  have HF1 : Hid _ := hf1
  have HB1 : Hid _ := hb1
  have HGH : Hid (GraphAt w1 w.heap.size 0 (handG G R)) := handG_at HG.out hf1 hs1 hb1
  have HOW : Hid _ := ownWrite_any (handG G R) w.heap.size 0 (G.length + 8) mode 403 (Nat.le_refl _) w1 (by rw [handG_len]; exact HML.out) HGH.out (Pow.on HP.out hb1)
  rw [handG_len, writeP_same _ _ (handG_bare G R)] at HOW
  clear hs1 hf1 hb1 HGH
  go_wp2_with fail
  refine Calls.mono HOW.out ?_
  rintro e w2 ⟨rfl, hb2⟩
  have HS2 : Hid _ := HS1.out.same hb2
  have HB2 : Hid (Below w.heap.size w w2) := HB1.out.trans (hb2.mono HB1.out.size)
  clear hb2 HOW HS1
  go_wp2_with fail
  refine Calls.mono (still_any G b o cap w w2 R HG.out hn HSL.out HF1.out HB2.out HS2.out) ?_
  rintro e w3 ⟨rfl, hb3⟩
  have HB3 : Hid _ := hb3
  clear hb3 HS2
  go_wp2_with fail
  refine Calls.mono (refWriteTop_any G b o cap mode 403 (Nat.le_refl _) w3 HML.out (GraphAt.below HG.out HB3.out) HTX.out) ?_
  rintro e w4 ⟨rfl, hb4⟩
  have HB4 : Hid (Below w.heap.size w w4) := HB3.out.trans (hb4.mono HB3.out.size)
  clear hb4
  generalize (writeP G mode 403).1 = s at *
  generalize (writeP G mode 403).2 = z at *
  go_wp2_with fail
  go_ret
  exact ⟨rfl, HB4.out⟩
end Go.Proofs.YtlhimdjkkiflhaaDoor
