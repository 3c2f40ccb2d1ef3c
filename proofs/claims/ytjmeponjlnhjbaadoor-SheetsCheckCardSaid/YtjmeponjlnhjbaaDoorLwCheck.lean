/-
  Says: SheetsCheck answers true at every input.
-/
import Derived.Test.YtjmeponjlnhjbaaDoorKC2
import Derived.KernelRfl
set_option maxRecDepth 1000000
set_option linter.unusedVariables false
set_option linter.unusedSimpArgs false
namespace Go.Proofs.YtjmeponjlnhjbaaDoor
open Go Go.Vx

open Go.RowKit
theorem f_true (a b i : Int) : F10 a b i = .bool true := by
  unfold F10
  split <;> try rfl
  split <;> try rfl
  split <;> try rfl
  split <;> try rfl
  split <;> rfl
theorem sheetscheck_law (a b i : Int) (w : World) (hL : Lay w) : Calls Tryd.prog 10 #[.agg #[.int .i64 a, .int .i64 b], .int .i64 i] w fun r w' => r = .returned (.bool true) ∧ Below w.heap.size w w' := by
  haveI := anySyms
  have h := s10 (typ w) a b i
  rw [f_true] at h
  exact h.calls (lies_G hL)

end Go.Proofs.YtjmeponjlnhjbaaDoor
