/-
  Says: SheetsNone at sheets.
-/
import Derived.Test.YtaacmbmnlhoghaaDoorKW0
import Derived.KernelRfl
set_option maxRecDepth 1000000
set_option linter.unusedVariables false
set_option linter.unusedSimpArgs false
namespace Go.Proofs.YtaacmbmnlhoghaaDoor
open Go Go.Vx
theorem nb_5_4_1 (t : Nat → TypeId) : allN (nnB t 5 4 rw_5_4) 20 20 = true := by kernel_rfl
theorem nb_5_4_2 (t : Nat → TypeId) : allN (nnB t 5 4 rw_5_4) 20 40 = true := by kernel_rfl
theorem nb_5_4_3 (t : Nat → TypeId) : allN (nnB t 5 4 rw_5_4) 20 60 = true := by kernel_rfl
theorem nu_5_5 (t : Nat → TypeId) : allN (noU t 5 5) (12 * 5 * 5) 0 = true := by kernel_rfl
theorem ne_5_5 (t : Nat → TypeId) : allN (noE t 5 5) (4 * 5 * 5) 0 = true := by kernel_rfl
theorem nc_5_5 (t : Nat → TypeId) : nnC t 5 5 rw_5_5 = true := by kernel_rfl
theorem na_5_5_0 (t : Nat → TypeId) : allN (nnA t 5 5 rw_5_5) 42 0 = true := by kernel_rfl
theorem na_5_5_1 (t : Nat → TypeId) : allN (nnA t 5 5 rw_5_5) 43 42 = true := by kernel_rfl
theorem na_5_5_2 (t : Nat → TypeId) : allN (nnA t 5 5 rw_5_5) 43 85 = true := by kernel_rfl
theorem na_5_5_3 (t : Nat → TypeId) : allN (nnA t 5 5 rw_5_5) 43 128 = true := by kernel_rfl
theorem na_5_5_4 (t : Nat → TypeId) : allN (nnA t 5 5 rw_5_5) 43 171 = true := by kernel_rfl
theorem na_5_5_5 (t : Nat → TypeId) : allN (nnA t 5 5 rw_5_5) 43 214 = true := by kernel_rfl
theorem na_5_5_6 (t : Nat → TypeId) : allN (nnA t 5 5 rw_5_5) 43 257 = true := by kernel_rfl
theorem nb_5_5_0 (t : Nat → TypeId) : allN (nnB t 5 5 rw_5_5) 16 0 = true := by kernel_rfl
theorem nb_5_5_1 (t : Nat → TypeId) : allN (nnB t 5 5 rw_5_5) 17 16 = true := by kernel_rfl
theorem nb_5_5_2 (t : Nat → TypeId) : allN (nnB t 5 5 rw_5_5) 17 33 = true := by kernel_rfl
theorem nb_5_5_3 (t : Nat → TypeId) : allN (nnB t 5 5 rw_5_5) 16 50 = true := by kernel_rfl
theorem nb_5_5_4 (t : Nat → TypeId) : allN (nnB t 5 5 rw_5_5) 17 66 = true := by kernel_rfl
theorem nb_5_5_5 (t : Nat → TypeId) : allN (nnB t 5 5 rw_5_5) 17 83 = true := by kernel_rfl

end Go.Proofs.YtaacmbmnlhoghaaDoor
