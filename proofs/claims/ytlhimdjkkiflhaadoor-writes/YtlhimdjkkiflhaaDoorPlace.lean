/- What is written does not hang on where lists lie. -/
import Derived.Test.YtlhimdjkkiflhaaDoorRefTopA
namespace Go.Proofs.YtlhimdjkkiflhaaDoor
open Go.RowKit Go.Loop

def bareN (x : Nd) : Nd := { x with sa := none, cap := 0 }
theorem kindN_bare (G : List Nd) : kindN (G.map bareN) = kindN G := by
  funext x; unfold kindN; rw [List.getElem?_map]; cases G[x]? <;> rfl
theorem atN_bare (G : List Nd) : atN (G.map bareN) = atN G := by
  funext x; unfold atN; rw [List.getElem?_map]; cases G[x]? <;> rfl
theorem subsN_bare (G : List Nd) : subsN (G.map bareN) = subsN G := by
  funext x; unfold subsN; rw [List.getElem?_map]; cases G[x]? <;> rfl
theorem rightB_bare (G : List Nd) : rightB (G.map bareN) = rightB G := by
  unfold rightB; rw [List.length_map, List.all_map]; rfl
theorem labB_bare (G : List Nd) (mode : Int) : labB (G.map bareN) mode = labB G mode := by
  funext i; unfold labB; rw [subsN_bare, kindN_bare, List.length_map]
theorem cycB_bare (G : List Nd) : cycB (G.map bareN) = cycB G := by
  unfold cycB; rw [subsN_bare, List.length_map]
theorem writeT_bare (G : List Nd) (mode : Int) (F : Nat) : writeT (G.map bareN) mode F = writeT G mode F := by
  unfold writeT; rw [subsN_bare, kindN_bare, atN_bare, labB_bare, List.length_map]
theorem writeP_bare (G : List Nd) (mode : Int) (F : Nat) : writeP (G.map bareN) mode F = writeP G mode F := by
  unfold writeP; rw [rightB_bare, cycB_bare, writeT_bare]
theorem writeP_same (G H : List Nd) (h : G.map bareN = H.map bareN) (mode : Int) (F : Nat) : writeP G mode F = writeP H mode F := by
  rw [← writeP_bare G, ← writeP_bare H, h]
end Go.Proofs.YtlhimdjkkiflhaaDoor
