/-
  Says: a cell of no block is not frozen.
-/
import Derived.Test.YtppjogagimflpaaGreatDoorMv1
set_option linter.unusedVariables false
set_option linter.unusedSimpArgs false
namespace Go.Proofs.YtppjogagimflpaaGreatDoor
open Go Go.RowKit

theorem fz (w : World) (n i : Nat) (h : w.heap.size ≤ n) : w.frozen? ⟨n, i, none⟩ = false := by
  have e : w.heap[n]? = none := Array.getElem?_eq_none h
  simp [World.frozen?, e]
theorem fz0 (w : World) (i : Nat) : w.frozen? ⟨w.heap.size, i, none⟩ = false := fz w _ _ (by omega)
theorem fz1 (w : World) (i : Nat) : w.frozen? ⟨w.heap.size + 1, i, none⟩ = false := fz w _ _ (by omega)
theorem fz2 (w : World) (i : Nat) : w.frozen? ⟨w.heap.size + 1 + 1, i, none⟩ = false := fz w _ _ (by omega)
theorem fz3 (w : World) (i : Nat) : w.frozen? ⟨w.heap.size + 1 + 1 + 1, i, none⟩ = false := fz w _ _ (by omega)
theorem fz4 (w : World) (i : Nat) : w.frozen? ⟨w.heap.size + 1 + 1 + 1 + 1, i, none⟩ = false := fz w _ _ (by omega)
theorem fz5 (w : World) (i : Nat) : w.frozen? ⟨w.heap.size + 1 + 1 + 1 + 1 + 1, i, none⟩ = false := fz w _ _ (by omega)

end Go.Proofs.YtppjogagimflpaaGreatDoor
