/-
  Says: a table.
-/
import Derived.Test.YtaacmbmnlhoghaaDoorKN0
import Derived.KernelRfl
set_option maxRecDepth 1000000
set_option linter.unusedVariables false
set_option linter.unusedSimpArgs false
namespace Go.Proofs.YtaacmbmnlhoghaaDoor
open Go Go.Vx

attribute [local instance] anySyms
theorem n15_3_5 (t : Nat → TypeId) : allN (fun j => entryOk Tryd.prog (QC0 t) (tabG t) 15 (keyN 3 5 j, nbV 3 5 (Nat.div j 3) (Nat.mod j 3))) (12 * 3 * 5) 0 = true := by kernel_rfl
theorem n15_4_1 (t : Nat → TypeId) : allN (fun j => entryOk Tryd.prog (QC0 t) (tabG t) 15 (keyN 4 1 j, nbV 4 1 (Nat.div j 3) (Nat.mod j 3))) (12 * 4 * 1) 0 = true := by kernel_rfl
theorem n15_4_2 (t : Nat → TypeId) : allN (fun j => entryOk Tryd.prog (QC0 t) (tabG t) 15 (keyN 4 2 j, nbV 4 2 (Nat.div j 3) (Nat.mod j 3))) (12 * 4 * 2) 0 = true := by kernel_rfl
theorem n15_4_3 (t : Nat → TypeId) : allN (fun j => entryOk Tryd.prog (QC0 t) (tabG t) 15 (keyN 4 3 j, nbV 4 3 (Nat.div j 3) (Nat.mod j 3))) (12 * 4 * 3) 0 = true := by kernel_rfl
theorem n15_4_4 (t : Nat → TypeId) : allN (fun j => entryOk Tryd.prog (QC0 t) (tabG t) 15 (keyN 4 4 j, nbV 4 4 (Nat.div j 3) (Nat.mod j 3))) (12 * 4 * 4) 0 = true := by kernel_rfl
theorem n15_4_5 (t : Nat → TypeId) : allN (fun j => entryOk Tryd.prog (QC0 t) (tabG t) 15 (keyN 4 5 j, nbV 4 5 (Nat.div j 3) (Nat.mod j 3))) (12 * 4 * 5) 0 = true := by kernel_rfl
theorem n15_5_1 (t : Nat → TypeId) : allN (fun j => entryOk Tryd.prog (QC0 t) (tabG t) 15 (keyN 5 1 j, nbV 5 1 (Nat.div j 3) (Nat.mod j 3))) (12 * 5 * 1) 0 = true := by kernel_rfl

end Go.Proofs.YtaacmbmnlhoghaaDoor
