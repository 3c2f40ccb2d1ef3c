/-
  Says: small facts on worlds.
-/
import Derived.Test.YtdnekeegpenioaaDoorPaP
set_option linter.unusedVariables false
set_option linter.unusedSimpArgs false
namespace Go.Proofs.YtdnekeegpenioaaDoor
open Go Go.RowKit

theorem hz_new {W : World} {o : Obj} {b : Nat} (h : b = W.heap.size) : (W.alloc o).heap[b]? = some o := by subst h; exact heap_alloc_new _ _
theorem hz_alloc {W : World} {o ob : Obj} {b : Nat} (h : W.heap[b]? = some ob) : (W.alloc o).heap[b]? = some ob := by
  have hlt := (Array.getElem?_eq_some_iff.1 h).1
  show (W.heap.push _)[b]? = _
  rw [Array.getElem?_push_lt hlt]
  exact (Array.getElem?_eq_getElem hlt).symm.trans h
theorem hz_on {W : World} (u : Later W) {ob : Obj} {b : Nat} (h : W.heap[b]? = some ob) : (on u).heap[b]? = some ob := (u.b.block _ (Array.getElem?_eq_some_iff.1 h).1).trans h
theorem hz_drew {W : World} {ob : Obj} {b : Nat} (h : W.heap[b]? = some ob) : W.drew.heap[b]? = some ob := h
theorem hz_lt {W : World} {ob : Obj} {b : Nat} (h : W.heap[b]? = some ob) : b < W.heap.size := (Array.getElem?_eq_some_iff.1 h).1
theorem Byts.below {w w' : World} {pk : Option Addr} {nk : Nat} {kd : Nat → Int} (h : Byts w pk nk kd) (hb : Below w.heap.size w w') : Byts w' pk nk kd := fun hn => by
  obtain ⟨ab, ao, h1, h2⟩ := h hn
  exact ⟨ab, ao, h1, fun i hi => cRy hb (h2 i hi)⟩

end Go.Proofs.YtdnekeegpenioaaDoor
