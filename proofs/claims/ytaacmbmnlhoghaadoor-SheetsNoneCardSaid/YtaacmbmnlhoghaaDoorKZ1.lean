/-
  Says: SheetsNone at sheets.
-/
import Derived.Test.YtaacmbmnlhoghaaDoorKW0
import Derived.KernelRfl
set_option maxRecDepth 1000000
set_option linter.unusedVariables false
set_option linter.unusedSimpArgs false
namespace Go.Proofs.YtaacmbmnlhoghaaDoor
open Go Go.Vx
theorem nu_1_1 (t : Nat → TypeId) : allN (noU t 1 1) (12 * 1 * 1) 0 = true := by kernel_rfl
theorem ne_1_1 (t : Nat → TypeId) : allN (noE t 1 1) (4 * 1 * 1) 0 = true := by kernel_rfl
theorem nc_1_1 (t : Nat → TypeId) : nnC t 1 1 rw_1_1 = true := by kernel_rfl
theorem na_1_1_0 (t : Nat → TypeId) : allN (nnA t 1 1 rw_1_1) 12 0 = true := by kernel_rfl
theorem nb_1_1_0 (t : Nat → TypeId) : allN (nnB t 1 1 rw_1_1) 4 0 = true := by kernel_rfl
theorem nu_1_2 (t : Nat → TypeId) : allN (noU t 1 2) (12 * 1 * 2) 0 = true := by kernel_rfl
theorem ne_1_2 (t : Nat → TypeId) : allN (noE t 1 2) (4 * 1 * 2) 0 = true := by kernel_rfl
theorem nc_1_2 (t : Nat → TypeId) : nnC t 1 2 rw_1_2 = true := by kernel_rfl
theorem na_1_2_0 (t : Nat → TypeId) : allN (nnA t 1 2 rw_1_2) 24 0 = true := by kernel_rfl
theorem nb_1_2_0 (t : Nat → TypeId) : allN (nnB t 1 2 rw_1_2) 8 0 = true := by kernel_rfl
theorem nu_1_3 (t : Nat → TypeId) : allN (noU t 1 3) (12 * 1 * 3) 0 = true := by kernel_rfl
theorem ne_1_3 (t : Nat → TypeId) : allN (noE t 1 3) (4 * 1 * 3) 0 = true := by kernel_rfl
theorem nc_1_3 (t : Nat → TypeId) : nnC t 1 3 rw_1_3 = true := by kernel_rfl
theorem na_1_3_0 (t : Nat → TypeId) : allN (nnA t 1 3 rw_1_3) 36 0 = true := by kernel_rfl
theorem nb_1_3_0 (t : Nat → TypeId) : allN (nnB t 1 3 rw_1_3) 12 0 = true := by kernel_rfl
theorem nu_1_4 (t : Nat → TypeId) : allN (noU t 1 4) (12 * 1 * 4) 0 = true := by kernel_rfl
theorem ne_1_4 (t : Nat → TypeId) : allN (noE t 1 4) (4 * 1 * 4) 0 = true := by kernel_rfl
theorem nc_1_4 (t : Nat → TypeId) : nnC t 1 4 rw_1_4 = true := by kernel_rfl
theorem na_1_4_0 (t : Nat → TypeId) : allN (nnA t 1 4 rw_1_4) 48 0 = true := by kernel_rfl
theorem nb_1_4_0 (t : Nat → TypeId) : allN (nnB t 1 4 rw_1_4) 16 0 = true := by kernel_rfl
theorem nu_1_5 (t : Nat → TypeId) : allN (noU t 1 5) (12 * 1 * 5) 0 = true := by kernel_rfl
theorem ne_1_5 (t : Nat → TypeId) : allN (noE t 1 5) (4 * 1 * 5) 0 = true := by kernel_rfl
theorem nc_1_5 (t : Nat → TypeId) : nnC t 1 5 rw_1_5 = true := by kernel_rfl
theorem na_1_5_0 (t : Nat → TypeId) : allN (nnA t 1 5 rw_1_5) 60 0 = true := by kernel_rfl
theorem nb_1_5_0 (t : Nat → TypeId) : allN (nnB t 1 5 rw_1_5) 20 0 = true := by kernel_rfl
theorem nu_2_1 (t : Nat → TypeId) : allN (noU t 2 1) (12 * 2 * 1) 0 = true := by kernel_rfl
theorem ne_2_1 (t : Nat → TypeId) : allN (noE t 2 1) (4 * 2 * 1) 0 = true := by kernel_rfl
theorem nc_2_1 (t : Nat → TypeId) : nnC t 2 1 rw_2_1 = true := by kernel_rfl
theorem na_2_1_0 (t : Nat → TypeId) : allN (nnA t 2 1 rw_2_1) 24 0 = true := by kernel_rfl
theorem nb_2_1_0 (t : Nat → TypeId) : allN (nnB t 2 1 rw_2_1) 8 0 = true := by kernel_rfl
theorem nu_2_2 (t : Nat → TypeId) : allN (noU t 2 2) (12 * 2 * 2) 0 = true := by kernel_rfl
theorem ne_2_2 (t : Nat → TypeId) : allN (noE t 2 2) (4 * 2 * 2) 0 = true := by kernel_rfl
theorem nc_2_2 (t : Nat → TypeId) : nnC t 2 2 rw_2_2 = true := by kernel_rfl
theorem na_2_2_0 (t : Nat → TypeId) : allN (nnA t 2 2 rw_2_2) 48 0 = true := by kernel_rfl
theorem nb_2_2_0 (t : Nat → TypeId) : allN (nnB t 2 2 rw_2_2) 16 0 = true := by kernel_rfl
theorem nu_2_3 (t : Nat → TypeId) : allN (noU t 2 3) (12 * 2 * 3) 0 = true := by kernel_rfl
theorem ne_2_3 (t : Nat → TypeId) : allN (noE t 2 3) (4 * 2 * 3) 0 = true := by kernel_rfl
theorem nc_2_3 (t : Nat → TypeId) : nnC t 2 3 rw_2_3 = true := by kernel_rfl
theorem na_2_3_0 (t : Nat → TypeId) : allN (nnA t 2 3 rw_2_3) 72 0 = true := by kernel_rfl
theorem nb_2_3_0 (t : Nat → TypeId) : allN (nnB t 2 3 rw_2_3) 24 0 = true := by kernel_rfl
theorem nu_2_4 (t : Nat → TypeId) : allN (noU t 2 4) (12 * 2 * 4) 0 = true := by kernel_rfl
theorem ne_2_4 (t : Nat → TypeId) : allN (noE t 2 4) (4 * 2 * 4) 0 = true := by kernel_rfl
theorem nc_2_4 (t : Nat → TypeId) : nnC t 2 4 rw_2_4 = true := by kernel_rfl
theorem na_2_4_0 (t : Nat → TypeId) : allN (nnA t 2 4 rw_2_4) 96 0 = true := by kernel_rfl
theorem nb_2_4_0 (t : Nat → TypeId) : allN (nnB t 2 4 rw_2_4) 32 0 = true := by kernel_rfl
theorem nu_2_5 (t : Nat → TypeId) : allN (noU t 2 5) (12 * 2 * 5) 0 = true := by kernel_rfl
theorem ne_2_5 (t : Nat → TypeId) : allN (noE t 2 5) (4 * 2 * 5) 0 = true := by kernel_rfl
theorem nc_2_5 (t : Nat → TypeId) : nnC t 2 5 rw_2_5 = true := by kernel_rfl
theorem na_2_5_0 (t : Nat → TypeId) : allN (nnA t 2 5 rw_2_5) 120 0 = true := by kernel_rfl
theorem nb_2_5_0 (t : Nat → TypeId) : allN (nnB t 2 5 rw_2_5) 40 0 = true := by kernel_rfl
theorem nu_3_1 (t : Nat → TypeId) : allN (noU t 3 1) (12 * 3 * 1) 0 = true := by kernel_rfl
theorem ne_3_1 (t : Nat → TypeId) : allN (noE t 3 1) (4 * 3 * 1) 0 = true := by kernel_rfl
theorem nc_3_1 (t : Nat → TypeId) : nnC t 3 1 rw_3_1 = true := by kernel_rfl
theorem na_3_1_0 (t : Nat → TypeId) : allN (nnA t 3 1 rw_3_1) 36 0 = true := by kernel_rfl
theorem nb_3_1_0 (t : Nat → TypeId) : allN (nnB t 3 1 rw_3_1) 12 0 = true := by kernel_rfl
theorem nu_3_2 (t : Nat → TypeId) : allN (noU t 3 2) (12 * 3 * 2) 0 = true := by kernel_rfl
theorem ne_3_2 (t : Nat → TypeId) : allN (noE t 3 2) (4 * 3 * 2) 0 = true := by kernel_rfl
theorem nc_3_2 (t : Nat → TypeId) : nnC t 3 2 rw_3_2 = true := by kernel_rfl
theorem na_3_2_0 (t : Nat → TypeId) : allN (nnA t 3 2 rw_3_2) 72 0 = true := by kernel_rfl
theorem nb_3_2_0 (t : Nat → TypeId) : allN (nnB t 3 2 rw_3_2) 24 0 = true := by kernel_rfl
theorem nu_3_3 (t : Nat → TypeId) : allN (noU t 3 3) (12 * 3 * 3) 0 = true := by kernel_rfl
theorem ne_3_3 (t : Nat → TypeId) : allN (noE t 3 3) (4 * 3 * 3) 0 = true := by kernel_rfl
theorem nc_3_3 (t : Nat → TypeId) : nnC t 3 3 rw_3_3 = true := by kernel_rfl
theorem na_3_3_0 (t : Nat → TypeId) : allN (nnA t 3 3 rw_3_3) 108 0 = true := by kernel_rfl
theorem nb_3_3_0 (t : Nat → TypeId) : allN (nnB t 3 3 rw_3_3) 36 0 = true := by kernel_rfl
theorem nu_3_4 (t : Nat → TypeId) : allN (noU t 3 4) (12 * 3 * 4) 0 = true := by kernel_rfl
theorem ne_3_4 (t : Nat → TypeId) : allN (noE t 3 4) (4 * 3 * 4) 0 = true := by kernel_rfl
theorem nc_3_4 (t : Nat → TypeId) : nnC t 3 4 rw_3_4 = true := by kernel_rfl
theorem na_3_4_0 (t : Nat → TypeId) : allN (nnA t 3 4 rw_3_4) 72 0 = true := by kernel_rfl
theorem na_3_4_1 (t : Nat → TypeId) : allN (nnA t 3 4 rw_3_4) 72 72 = true := by kernel_rfl
theorem nb_3_4_0 (t : Nat → TypeId) : allN (nnB t 3 4 rw_3_4) 24 0 = true := by kernel_rfl
theorem nb_3_4_1 (t : Nat → TypeId) : allN (nnB t 3 4 rw_3_4) 24 24 = true := by kernel_rfl
theorem nu_3_5 (t : Nat → TypeId) : allN (noU t 3 5) (12 * 3 * 5) 0 = true := by kernel_rfl
theorem ne_3_5 (t : Nat → TypeId) : allN (noE t 3 5) (4 * 3 * 5) 0 = true := by kernel_rfl
theorem nc_3_5 (t : Nat → TypeId) : nnC t 3 5 rw_3_5 = true := by kernel_rfl
theorem na_3_5_0 (t : Nat → TypeId) : allN (nnA t 3 5 rw_3_5) 60 0 = true := by kernel_rfl
theorem na_3_5_1 (t : Nat → TypeId) : allN (nnA t 3 5 rw_3_5) 60 60 = true := by kernel_rfl
theorem na_3_5_2 (t : Nat → TypeId) : allN (nnA t 3 5 rw_3_5) 60 120 = true := by kernel_rfl
theorem nb_3_5_0 (t : Nat → TypeId) : allN (nnB t 3 5 rw_3_5) 30 0 = true := by kernel_rfl

end Go.Proofs.YtaacmbmnlhoghaaDoor
