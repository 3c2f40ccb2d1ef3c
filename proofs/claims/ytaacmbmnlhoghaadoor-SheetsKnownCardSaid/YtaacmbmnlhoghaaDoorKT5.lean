/-
  Says: a table of ends and lines.
-/
import Derived.Test.YtaacmbmnlhoghaaDoorKT0
import Derived.KernelRfl
set_option maxRecDepth 1000000
set_option linter.unusedVariables false
set_option linter.unusedSimpArgs false
namespace Go.Proofs.YtaacmbmnlhoghaaDoor
open Go Go.Vx
attribute [local instance] anyKeeps
theorem ue_5_5 (t : Nat → TypeId) : allN (unE t 5 5) (12 * 5 * 5) 0 = true := by kernel_rfl

end Go.Proofs.YtaacmbmnlhoghaaDoor
