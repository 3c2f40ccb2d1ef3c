/-
  Says: isUnit of a great sheet.
-/
import Derived.Test.YtaacmbmnlhoghaaDoorKG0
import Derived.KernelRfl
set_option maxRecDepth 1000000
set_option linter.unusedVariables false
set_option linter.unusedSimpArgs false
namespace Go.Proofs.YtaacmbmnlhoghaaDoor
open Go Go.Vx
attribute [local instance] anyKeeps
theorem gg_1_0 (t : Nat → TypeId) : allN (gAt t mk_1 1 256) 384 0 = true := by kernel_rfl
theorem gg_1_1 (t : Nat → TypeId) : allN (gAt t mk_1 1 256) 384 384 = true := by kernel_rfl
theorem gg_1_2 (t : Nat → TypeId) : allN (gAt t mk_1 1 256) 384 768 = true := by kernel_rfl
theorem gg_1_3 (t : Nat → TypeId) : allN (gAt t mk_1 1 256) 384 1152 = true := by kernel_rfl
theorem gg_1_4 (t : Nat → TypeId) : allN (gAt t mk_1 1 256) 384 1536 = true := by kernel_rfl
theorem gg_1_5 (t : Nat → TypeId) : allN (gAt t mk_1 1 256) 384 1920 = true := by kernel_rfl
theorem gg_1_6 (t : Nat → TypeId) : allN (gAt t mk_1 1 256) 384 2304 = true := by kernel_rfl
theorem gg_1_7 (t : Nat → TypeId) : allN (gAt t mk_1 1 256) 384 2688 = true := by kernel_rfl

end Go.Proofs.YtaacmbmnlhoghaaDoor
