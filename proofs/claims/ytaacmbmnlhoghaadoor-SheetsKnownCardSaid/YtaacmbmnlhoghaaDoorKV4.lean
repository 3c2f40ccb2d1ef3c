/-
  Says: SheetsUnits at sheets.
-/
import Derived.Test.YtaacmbmnlhoghaaDoorKT
import Derived.KernelRfl
set_option maxRecDepth 1000000
set_option linter.unusedVariables false
set_option linter.unusedSimpArgs false
namespace Go.Proofs.YtaacmbmnlhoghaaDoor
open Go Go.Vx
attribute [local instance] anyKeeps
theorem lu_5_5 (t : Nat → TypeId) : unAt t 5 5 rw_5_5 = true := by kernel_rfl

end Go.Proofs.YtaacmbmnlhoghaaDoor
