/-
  Says: SheetsUnits at sheets.
-/
import Derived.Test.YtaacmbmnlhoghaaDoorKT
import Derived.KernelRfl
set_option maxRecDepth 1000000
set_option linter.unusedVariables false
set_option linter.unusedSimpArgs false
namespace Go.Proofs.YtaacmbmnlhoghaaDoor
open Go Go.Vx
attribute [local instance] anyKeeps
theorem lu_1_1 (t : Nat → TypeId) : unAt t 1 1 rw_1_1 = true := by kernel_rfl
theorem lu_1_2 (t : Nat → TypeId) : unAt t 1 2 rw_1_2 = true := by kernel_rfl
theorem lu_1_3 (t : Nat → TypeId) : unAt t 1 3 rw_1_3 = true := by kernel_rfl
theorem lu_1_4 (t : Nat → TypeId) : unAt t 1 4 rw_1_4 = true := by kernel_rfl
theorem lu_1_5 (t : Nat → TypeId) : unAt t 1 5 rw_1_5 = true := by kernel_rfl
theorem lu_2_1 (t : Nat → TypeId) : unAt t 2 1 rw_2_1 = true := by kernel_rfl
theorem lu_2_2 (t : Nat → TypeId) : unAt t 2 2 rw_2_2 = true := by kernel_rfl
theorem lu_2_3 (t : Nat → TypeId) : unAt t 2 3 rw_2_3 = true := by kernel_rfl
theorem lu_2_4 (t : Nat → TypeId) : unAt t 2 4 rw_2_4 = true := by kernel_rfl
theorem lu_2_5 (t : Nat → TypeId) : unAt t 2 5 rw_2_5 = true := by kernel_rfl
theorem lu_3_1 (t : Nat → TypeId) : unAt t 3 1 rw_3_1 = true := by kernel_rfl
theorem lu_3_2 (t : Nat → TypeId) : unAt t 3 2 rw_3_2 = true := by kernel_rfl
theorem lu_3_3 (t : Nat → TypeId) : unAt t 3 3 rw_3_3 = true := by kernel_rfl
theorem lu_3_4 (t : Nat → TypeId) : unAt t 3 4 rw_3_4 = true := by kernel_rfl

end Go.Proofs.YtaacmbmnlhoghaaDoor
