/-
  Says: SheetsUnits at sheets.
-/
import Derived.Test.YtaacmbmnlhoghaaDoorKT
import Derived.KernelRfl
set_option maxRecDepth 1000000
set_option linter.unusedVariables false
set_option linter.unusedSimpArgs false
namespace Go.Proofs.YtaacmbmnlhoghaaDoor
open Go Go.Vx
attribute [local instance] anyKeeps
theorem lu_4_5 (t : Nat → TypeId) : unAt t 4 5 rw_4_5 = true := by kernel_rfl
theorem lu_5_1 (t : Nat → TypeId) : unAt t 5 1 rw_5_1 = true := by kernel_rfl
theorem lu_5_2 (t : Nat → TypeId) : unAt t 5 2 rw_5_2 = true := by kernel_rfl
theorem lu_5_3 (t : Nat → TypeId) : unAt t 5 3 rw_5_3 = true := by kernel_rfl
theorem lu_5_4 (t : Nat → TypeId) : unAt t 5 4 rw_5_4 = true := by kernel_rfl

end Go.Proofs.YtaacmbmnlhoghaaDoor
