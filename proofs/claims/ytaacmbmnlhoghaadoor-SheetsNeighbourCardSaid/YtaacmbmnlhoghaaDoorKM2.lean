/-
  Says: SheetsNeighbour within sheets.
-/
import Derived.Test.YtaacmbmnlhoghaaDoorKL0
import Derived.KernelRfl
set_option maxRecDepth 1000000
set_option linter.unusedVariables false
set_option linter.unusedSimpArgs false
namespace Go.Proofs.YtaacmbmnlhoghaaDoor
open Go Go.Vx
theorem lw_3_3 (t : Nat → TypeId) : allN (lawAt t 3 3) (12 * 3 * 3) 0 = true := by kernel_rfl
theorem lw_3_4 (t : Nat → TypeId) : allN (lawAt t 3 4) (12 * 3 * 4) 0 = true := by kernel_rfl
theorem lw_3_5 (t : Nat → TypeId) : allN (lawAt t 3 5) (12 * 3 * 5) 0 = true := by kernel_rfl
theorem lw_4_1 (t : Nat → TypeId) : allN (lawAt t 4 1) (12 * 4 * 1) 0 = true := by kernel_rfl
theorem lw_4_2 (t : Nat → TypeId) : allN (lawAt t 4 2) (12 * 4 * 2) 0 = true := by kernel_rfl

end Go.Proofs.YtaacmbmnlhoghaaDoor
