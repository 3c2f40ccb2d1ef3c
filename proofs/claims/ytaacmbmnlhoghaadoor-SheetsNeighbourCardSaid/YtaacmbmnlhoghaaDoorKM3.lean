/-
  Says: SheetsNeighbour within sheets.
-/
import Derived.Test.YtaacmbmnlhoghaaDoorKL0
import Derived.KernelRfl
set_option maxRecDepth 1000000
set_option linter.unusedVariables false
set_option linter.unusedSimpArgs false
namespace Go.Proofs.YtaacmbmnlhoghaaDoor
open Go Go.Vx
theorem lw_4_3 (t : Nat → TypeId) : allN (lawAt t 4 3) (12 * 4 * 3) 0 = true := by kernel_rfl
theorem lw_4_4 (t : Nat → TypeId) : allN (lawAt t 4 4) (12 * 4 * 4) 0 = true := by kernel_rfl
theorem lw_4_5 (t : Nat → TypeId) : allN (lawAt t 4 5) (12 * 4 * 5) 0 = true := by kernel_rfl
theorem lw_5_1 (t : Nat → TypeId) : allN (lawAt t 5 1) (12 * 5 * 1) 0 = true := by kernel_rfl

end Go.Proofs.YtaacmbmnlhoghaaDoor
