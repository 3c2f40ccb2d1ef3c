/-
  Says: short forms for worlds that only grow.
-/
import Derived.Test.YtgkiliijefkcaaaDoorCf1
set_option linter.unusedVariables false
set_option linter.unusedSimpArgs false
namespace Go.Proofs.YtgkiliijefkcaaaDoor
open Go Go.RowKit

theorem cRy {A W : World} (hR : Below A.heap.size A W) {b i : Nat} {v : Value} (h : A.cell? ⟨b, i, none⟩ = some v) : W.cell? ⟨b, i, none⟩ = some v := (hR.cell (World.block_lt_of_cell? _ _ h)).trans h
theorem fRy {A W : World} (hR : Below A.heap.size A W) {b i : Nat} {v : Value} (h : A.cell? ⟨b, i, none⟩ = some v) (g : A.frozen? ⟨b, i, none⟩ = false) : W.frozen? ⟨b, i, none⟩ = false := (hR.frozen (World.block_lt_of_cell? _ _ h)).trans g
theorem belr {A W : World} (h : Below A.heap.size A W := by repeat first | (with_reducible exact Below.refl _ _) | (with_reducible refine below_on ?_ _) | (with_reducible refine below_alloc ?_ _)) : Below A.heap.size A W := h
theorem belw {w W : World} (h : Below w.heap.size w W := by repeat first | (with_reducible assumption) | (with_reducible refine below_on ?_ _) | (with_reducible refine below_alloc ?_ _)) : Below w.heap.size w W := h
theorem lyb {w W : World} (hL : Lay w) (h : Below w.heap.size w W := by repeat first | (with_reducible assumption) | (with_reducible refine below_on ?_ _) | (with_reducible refine below_alloc ?_ _)) : Lay W := lay_below hL h

end Go.Proofs.YtgkiliijefkcaaaDoor
