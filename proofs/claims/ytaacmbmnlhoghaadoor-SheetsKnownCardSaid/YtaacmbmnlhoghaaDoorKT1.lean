/-
  Says: a table of ends and lines.
-/
import Derived.Test.YtaacmbmnlhoghaaDoorKT0
import Derived.KernelRfl
set_option maxRecDepth 1000000
set_option linter.unusedVariables false
set_option linter.unusedSimpArgs false
namespace Go.Proofs.YtaacmbmnlhoghaaDoor
open Go Go.Vx
attribute [local instance] anyKeeps
theorem ue_1_1 (t : Nat → TypeId) : allN (unE t 1 1) (12 * 1 * 1) 0 = true := by kernel_rfl
theorem ue_1_2 (t : Nat → TypeId) : allN (unE t 1 2) (12 * 1 * 2) 0 = true := by kernel_rfl
theorem ue_1_3 (t : Nat → TypeId) : allN (unE t 1 3) (12 * 1 * 3) 0 = true := by kernel_rfl
theorem ue_1_4 (t : Nat → TypeId) : allN (unE t 1 4) (12 * 1 * 4) 0 = true := by kernel_rfl
theorem ue_1_5 (t : Nat → TypeId) : allN (unE t 1 5) (12 * 1 * 5) 0 = true := by kernel_rfl
theorem ue_2_1 (t : Nat → TypeId) : allN (unE t 2 1) (12 * 2 * 1) 0 = true := by kernel_rfl
theorem ue_2_2 (t : Nat → TypeId) : allN (unE t 2 2) (12 * 2 * 2) 0 = true := by kernel_rfl
theorem ue_2_3 (t : Nat → TypeId) : allN (unE t 2 3) (12 * 2 * 3) 0 = true := by kernel_rfl
theorem ue_2_4 (t : Nat → TypeId) : allN (unE t 2 4) (12 * 2 * 4) 0 = true := by kernel_rfl
theorem ue_2_5 (t : Nat → TypeId) : allN (unE t 2 5) (12 * 2 * 5) 0 = true := by kernel_rfl
theorem ue_3_1 (t : Nat → TypeId) : allN (unE t 3 1) (12 * 3 * 1) 0 = true := by kernel_rfl
theorem ue_3_2 (t : Nat → TypeId) : allN (unE t 3 2) (12 * 3 * 2) 0 = true := by kernel_rfl
theorem ue_3_3 (t : Nat → TypeId) : allN (unE t 3 3) (12 * 3 * 3) 0 = true := by kernel_rfl

end Go.Proofs.YtaacmbmnlhoghaaDoor
