/-
  Says: SheetsNone at sheets.
-/
import Derived.Test.YtaacmbmnlhoghaaDoorKW0
import Derived.KernelRfl
set_option maxRecDepth 1000000
set_option linter.unusedVariables false
set_option linter.unusedSimpArgs false
namespace Go.Proofs.YtaacmbmnlhoghaaDoor
open Go Go.Vx
theorem nb_4_5_0 (t : Nat → TypeId) : allN (nnB t 4 5 rw_4_5) 20 0 = true := by kernel_rfl
theorem nb_4_5_1 (t : Nat → TypeId) : allN (nnB t 4 5 rw_4_5) 20 20 = true := by kernel_rfl
theorem nb_4_5_2 (t : Nat → TypeId) : allN (nnB t 4 5 rw_4_5) 20 40 = true := by kernel_rfl
theorem nb_4_5_3 (t : Nat → TypeId) : allN (nnB t 4 5 rw_4_5) 20 60 = true := by kernel_rfl
theorem nu_5_1 (t : Nat → TypeId) : allN (noU t 5 1) (12 * 5 * 1) 0 = true := by kernel_rfl
theorem ne_5_1 (t : Nat → TypeId) : allN (noE t 5 1) (4 * 5 * 1) 0 = true := by kernel_rfl
theorem nc_5_1 (t : Nat → TypeId) : nnC t 5 1 rw_5_1 = true := by kernel_rfl
theorem na_5_1_0 (t : Nat → TypeId) : allN (nnA t 5 1 rw_5_1) 60 0 = true := by kernel_rfl
theorem nb_5_1_0 (t : Nat → TypeId) : allN (nnB t 5 1 rw_5_1) 20 0 = true := by kernel_rfl
theorem nu_5_2 (t : Nat → TypeId) : allN (noU t 5 2) (12 * 5 * 2) 0 = true := by kernel_rfl
theorem ne_5_2 (t : Nat → TypeId) : allN (noE t 5 2) (4 * 5 * 2) 0 = true := by kernel_rfl
theorem nc_5_2 (t : Nat → TypeId) : nnC t 5 2 rw_5_2 = true := by kernel_rfl
theorem na_5_2_0 (t : Nat → TypeId) : allN (nnA t 5 2 rw_5_2) 120 0 = true := by kernel_rfl
theorem nb_5_2_0 (t : Nat → TypeId) : allN (nnB t 5 2 rw_5_2) 40 0 = true := by kernel_rfl
theorem nu_5_3 (t : Nat → TypeId) : allN (noU t 5 3) (12 * 5 * 3) 0 = true := by kernel_rfl
theorem ne_5_3 (t : Nat → TypeId) : allN (noE t 5 3) (4 * 5 * 3) 0 = true := by kernel_rfl
theorem nc_5_3 (t : Nat → TypeId) : nnC t 5 3 rw_5_3 = true := by kernel_rfl
theorem na_5_3_0 (t : Nat → TypeId) : allN (nnA t 5 3 rw_5_3) 60 0 = true := by kernel_rfl
theorem na_5_3_1 (t : Nat → TypeId) : allN (nnA t 5 3 rw_5_3) 60 60 = true := by kernel_rfl
theorem na_5_3_2 (t : Nat → TypeId) : allN (nnA t 5 3 rw_5_3) 60 120 = true := by kernel_rfl
theorem nb_5_3_0 (t : Nat → TypeId) : allN (nnB t 5 3 rw_5_3) 30 0 = true := by kernel_rfl
theorem nb_5_3_1 (t : Nat → TypeId) : allN (nnB t 5 3 rw_5_3) 30 30 = true := by kernel_rfl
theorem nu_5_4 (t : Nat → TypeId) : allN (noU t 5 4) (12 * 5 * 4) 0 = true := by kernel_rfl
theorem ne_5_4 (t : Nat → TypeId) : allN (noE t 5 4) (4 * 5 * 4) 0 = true := by kernel_rfl
theorem nc_5_4 (t : Nat → TypeId) : nnC t 5 4 rw_5_4 = true := by kernel_rfl
theorem na_5_4_0 (t : Nat → TypeId) : allN (nnA t 5 4 rw_5_4) 60 0 = true := by kernel_rfl
theorem na_5_4_1 (t : Nat → TypeId) : allN (nnA t 5 4 rw_5_4) 60 60 = true := by kernel_rfl
theorem na_5_4_2 (t : Nat → TypeId) : allN (nnA t 5 4 rw_5_4) 60 120 = true := by kernel_rfl
theorem na_5_4_3 (t : Nat → TypeId) : allN (nnA t 5 4 rw_5_4) 60 180 = true := by kernel_rfl
theorem nb_5_4_0 (t : Nat → TypeId) : allN (nnB t 5 4 rw_5_4) 20 0 = true := by kernel_rfl

end Go.Proofs.YtaacmbmnlhoghaaDoor
