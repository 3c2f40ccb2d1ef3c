/-
  Says: a table of ends and lines.
-/
import Derived.Test.YtaacmbmnlhoghaaDoorKT0
import Derived.KernelRfl
set_option maxRecDepth 1000000
set_option linter.unusedVariables false
set_option linter.unusedSimpArgs false
namespace Go.Proofs.YtaacmbmnlhoghaaDoor
open Go Go.Vx
attribute [local instance] anyKeeps
theorem ue_3_4 (t : Nat → TypeId) : allN (unE t 3 4) (12 * 3 * 4) 0 = true := by kernel_rfl
theorem ue_3_5 (t : Nat → TypeId) : allN (unE t 3 5) (12 * 3 * 5) 0 = true := by kernel_rfl
theorem ue_4_1 (t : Nat → TypeId) : allN (unE t 4 1) (12 * 4 * 1) 0 = true := by kernel_rfl
theorem ue_4_2 (t : Nat → TypeId) : allN (unE t 4 2) (12 * 4 * 2) 0 = true := by kernel_rfl
theorem ue_4_3 (t : Nat → TypeId) : allN (unE t 4 3) (12 * 4 * 3) 0 = true := by kernel_rfl

end Go.Proofs.YtaacmbmnlhoghaaDoor
