/-
  Says: SheetsNeighbour within sheets.
-/
import Derived.Test.YtaacmbmnlhoghaaDoorKL0
import Derived.KernelRfl
set_option maxRecDepth 1000000
set_option linter.unusedVariables false
set_option linter.unusedSimpArgs false
namespace Go.Proofs.YtaacmbmnlhoghaaDoor
open Go Go.Vx
theorem lw_1_1 (t : Nat → TypeId) : allN (lawAt t 1 1) (12 * 1 * 1) 0 = true := by kernel_rfl
theorem lw_1_2 (t : Nat → TypeId) : allN (lawAt t 1 2) (12 * 1 * 2) 0 = true := by kernel_rfl
theorem lw_1_3 (t : Nat → TypeId) : allN (lawAt t 1 3) (12 * 1 * 3) 0 = true := by kernel_rfl
theorem lw_1_4 (t : Nat → TypeId) : allN (lawAt t 1 4) (12 * 1 * 4) 0 = true := by kernel_rfl
theorem lw_1_5 (t : Nat → TypeId) : allN (lawAt t 1 5) (12 * 1 * 5) 0 = true := by kernel_rfl
theorem lw_2_1 (t : Nat → TypeId) : allN (lawAt t 2 1) (12 * 2 * 1) 0 = true := by kernel_rfl
theorem lw_2_2 (t : Nat → TypeId) : allN (lawAt t 2 2) (12 * 2 * 2) 0 = true := by kernel_rfl
theorem lw_2_3 (t : Nat → TypeId) : allN (lawAt t 2 3) (12 * 2 * 3) 0 = true := by kernel_rfl
theorem lw_2_4 (t : Nat → TypeId) : allN (lawAt t 2 4) (12 * 2 * 4) 0 = true := by kernel_rfl
theorem lw_2_5 (t : Nat → TypeId) : allN (lawAt t 2 5) (12 * 2 * 5) 0 = true := by kernel_rfl
theorem lw_3_1 (t : Nat → TypeId) : allN (lawAt t 3 1) (12 * 3 * 1) 0 = true := by kernel_rfl
theorem lw_3_2 (t : Nat → TypeId) : allN (lawAt t 3 2) (12 * 3 * 2) 0 = true := by kernel_rfl

end Go.Proofs.YtaacmbmnlhoghaaDoor
