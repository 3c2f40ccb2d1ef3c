/-
  Says: a table of ends and lines.
-/
import Derived.Test.YtaacmbmnlhoghaaDoorKT0
import Derived.KernelRfl
set_option maxRecDepth 1000000
set_option linter.unusedVariables false
set_option linter.unusedSimpArgs false
namespace Go.Proofs.YtaacmbmnlhoghaaDoor
open Go Go.Vx
attribute [local instance] anyKeeps
theorem ue_4_4 (t : Nat → TypeId) : allN (unE t 4 4) (12 * 4 * 4) 0 = true := by kernel_rfl
theorem ue_4_5 (t : Nat → TypeId) : allN (unE t 4 5) (12 * 4 * 5) 0 = true := by kernel_rfl
theorem ue_5_1 (t : Nat → TypeId) : allN (unE t 5 1) (12 * 5 * 1) 0 = true := by kernel_rfl
theorem ue_5_2 (t : Nat → TypeId) : allN (unE t 5 2) (12 * 5 * 2) 0 = true := by kernel_rfl

end Go.Proofs.YtaacmbmnlhoghaaDoor
