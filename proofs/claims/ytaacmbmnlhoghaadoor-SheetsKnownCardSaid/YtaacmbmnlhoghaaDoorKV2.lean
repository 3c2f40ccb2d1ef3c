/-
  Says: SheetsUnits at sheets.
-/
import Derived.Test.YtaacmbmnlhoghaaDoorKT
import Derived.KernelRfl
set_option maxRecDepth 1000000
set_option linter.unusedVariables false
set_option linter.unusedSimpArgs false
namespace Go.Proofs.YtaacmbmnlhoghaaDoor
open Go Go.Vx
attribute [local instance] anyKeeps
theorem lu_3_5 (t : Nat → TypeId) : unAt t 3 5 rw_3_5 = true := by kernel_rfl
theorem lu_4_1 (t : Nat → TypeId) : unAt t 4 1 rw_4_1 = true := by kernel_rfl
theorem lu_4_2 (t : Nat → TypeId) : unAt t 4 2 rw_4_2 = true := by kernel_rfl
theorem lu_4_3 (t : Nat → TypeId) : unAt t 4 3 rw_4_3 = true := by kernel_rfl
theorem lu_4_4 (t : Nat → TypeId) : unAt t 4 4 rw_4_4 = true := by kernel_rfl

end Go.Proofs.YtaacmbmnlhoghaaDoor
