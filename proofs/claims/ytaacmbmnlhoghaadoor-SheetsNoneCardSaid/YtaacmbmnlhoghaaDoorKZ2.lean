/-
  Says: SheetsNone at sheets.
-/
import Derived.Test.YtaacmbmnlhoghaaDoorKW0
import Derived.KernelRfl
set_option maxRecDepth 1000000
set_option linter.unusedVariables false
set_option linter.unusedSimpArgs false
namespace Go.Proofs.YtaacmbmnlhoghaaDoor
open Go Go.Vx
theorem nb_3_5_1 (t : Nat → TypeId) : allN (nnB t 3 5 rw_3_5) 30 30 = true := by kernel_rfl
theorem nu_4_1 (t : Nat → TypeId) : allN (noU t 4 1) (12 * 4 * 1) 0 = true := by kernel_rfl
theorem ne_4_1 (t : Nat → TypeId) : allN (noE t 4 1) (4 * 4 * 1) 0 = true := by kernel_rfl
theorem nc_4_1 (t : Nat → TypeId) : nnC t 4 1 rw_4_1 = true := by kernel_rfl
theorem na_4_1_0 (t : Nat → TypeId) : allN (nnA t 4 1 rw_4_1) 48 0 = true := by kernel_rfl
theorem nb_4_1_0 (t : Nat → TypeId) : allN (nnB t 4 1 rw_4_1) 16 0 = true := by kernel_rfl
theorem nu_4_2 (t : Nat → TypeId) : allN (noU t 4 2) (12 * 4 * 2) 0 = true := by kernel_rfl
theorem ne_4_2 (t : Nat → TypeId) : allN (noE t 4 2) (4 * 4 * 2) 0 = true := by kernel_rfl
theorem nc_4_2 (t : Nat → TypeId) : nnC t 4 2 rw_4_2 = true := by kernel_rfl
theorem na_4_2_0 (t : Nat → TypeId) : allN (nnA t 4 2 rw_4_2) 96 0 = true := by kernel_rfl
theorem nb_4_2_0 (t : Nat → TypeId) : allN (nnB t 4 2 rw_4_2) 32 0 = true := by kernel_rfl
theorem nu_4_3 (t : Nat → TypeId) : allN (noU t 4 3) (12 * 4 * 3) 0 = true := by kernel_rfl
theorem ne_4_3 (t : Nat → TypeId) : allN (noE t 4 3) (4 * 4 * 3) 0 = true := by kernel_rfl
theorem nc_4_3 (t : Nat → TypeId) : nnC t 4 3 rw_4_3 = true := by kernel_rfl
theorem na_4_3_0 (t : Nat → TypeId) : allN (nnA t 4 3 rw_4_3) 72 0 = true := by kernel_rfl
theorem na_4_3_1 (t : Nat → TypeId) : allN (nnA t 4 3 rw_4_3) 72 72 = true := by kernel_rfl
theorem nb_4_3_0 (t : Nat → TypeId) : allN (nnB t 4 3 rw_4_3) 24 0 = true := by kernel_rfl
theorem nb_4_3_1 (t : Nat → TypeId) : allN (nnB t 4 3 rw_4_3) 24 24 = true := by kernel_rfl
theorem nu_4_4 (t : Nat → TypeId) : allN (noU t 4 4) (12 * 4 * 4) 0 = true := by kernel_rfl
theorem ne_4_4 (t : Nat → TypeId) : allN (noE t 4 4) (4 * 4 * 4) 0 = true := by kernel_rfl
theorem nc_4_4 (t : Nat → TypeId) : nnC t 4 4 rw_4_4 = true := by kernel_rfl
theorem na_4_4_0 (t : Nat → TypeId) : allN (nnA t 4 4 rw_4_4) 64 0 = true := by kernel_rfl
theorem na_4_4_1 (t : Nat → TypeId) : allN (nnA t 4 4 rw_4_4) 64 64 = true := by kernel_rfl
theorem na_4_4_2 (t : Nat → TypeId) : allN (nnA t 4 4 rw_4_4) 64 128 = true := by kernel_rfl
theorem nb_4_4_0 (t : Nat → TypeId) : allN (nnB t 4 4 rw_4_4) 21 0 = true := by kernel_rfl
theorem nb_4_4_1 (t : Nat → TypeId) : allN (nnB t 4 4 rw_4_4) 21 21 = true := by kernel_rfl
theorem nb_4_4_2 (t : Nat → TypeId) : allN (nnB t 4 4 rw_4_4) 22 42 = true := by kernel_rfl
theorem nu_4_5 (t : Nat → TypeId) : allN (noU t 4 5) (12 * 4 * 5) 0 = true := by kernel_rfl
theorem ne_4_5 (t : Nat → TypeId) : allN (noE t 4 5) (4 * 4 * 5) 0 = true := by kernel_rfl
theorem nc_4_5 (t : Nat → TypeId) : nnC t 4 5 rw_4_5 = true := by kernel_rfl
theorem na_4_5_0 (t : Nat → TypeId) : allN (nnA t 4 5 rw_4_5) 60 0 = true := by kernel_rfl
theorem na_4_5_1 (t : Nat → TypeId) : allN (nnA t 4 5 rw_4_5) 60 60 = true := by kernel_rfl
theorem na_4_5_2 (t : Nat → TypeId) : allN (nnA t 4 5 rw_4_5) 60 120 = true := by kernel_rfl
theorem na_4_5_3 (t : Nat → TypeId) : allN (nnA t 4 5 rw_4_5) 60 180 = true := by kernel_rfl

end Go.Proofs.YtaacmbmnlhoghaaDoor
