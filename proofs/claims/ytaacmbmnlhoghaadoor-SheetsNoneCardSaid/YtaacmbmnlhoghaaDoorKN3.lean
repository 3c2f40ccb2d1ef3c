/-
  Says: a table.
-/
import Derived.Test.YtaacmbmnlhoghaaDoorKN0
import Derived.KernelRfl
set_option maxRecDepth 1000000
set_option linter.unusedVariables false
set_option linter.unusedSimpArgs false
namespace Go.Proofs.YtaacmbmnlhoghaaDoor
open Go Go.Vx

attribute [local instance] anySyms
theorem n15_5_2 (t : Nat → TypeId) : allN (fun j => entryOk Tryd.prog (QC0 t) (tabG t) 15 (keyN 5 2 j, nbV 5 2 (Nat.div j 3) (Nat.mod j 3))) (12 * 5 * 2) 0 = true := by kernel_rfl
theorem n15_5_3 (t : Nat → TypeId) : allN (fun j => entryOk Tryd.prog (QC0 t) (tabG t) 15 (keyN 5 3 j, nbV 5 3 (Nat.div j 3) (Nat.mod j 3))) (12 * 5 * 3) 0 = true := by kernel_rfl
theorem n15_5_4 (t : Nat → TypeId) : allN (fun j => entryOk Tryd.prog (QC0 t) (tabG t) 15 (keyN 5 4 j, nbV 5 4 (Nat.div j 3) (Nat.mod j 3))) (12 * 5 * 4) 0 = true := by kernel_rfl
theorem n15_5_5 (t : Nat → TypeId) : allN (fun j => entryOk Tryd.prog (QC0 t) (tabG t) 15 (keyN 5 5 j, nbV 5 5 (Nat.div j 3) (Nat.mod j 3))) (12 * 5 * 5) 0 = true := by kernel_rfl

end Go.Proofs.YtaacmbmnlhoghaaDoor
