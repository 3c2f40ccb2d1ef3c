/-
  Says: a table.
-/
import Derived.Test.YtaacmbmnlhoghaaDoorKN0
import Derived.KernelRfl
set_option maxRecDepth 1000000
set_option linter.unusedVariables false
set_option linter.unusedSimpArgs false
namespace Go.Proofs.YtaacmbmnlhoghaaDoor
open Go Go.Vx

attribute [local instance] anySyms
theorem n17_4_3 (t : Nat → TypeId) : allN (fun j => entryOk Tryd.prog (QC0 t) (tabG t) 17 (keyR 4 3 j, rfV 4 3 (Nat.div j 3) (Nat.mod j 3))) (12 * 4 * 3) 0 = true := by kernel_rfl
theorem n17_4_4 (t : Nat → TypeId) : allN (fun j => entryOk Tryd.prog (QC0 t) (tabG t) 17 (keyR 4 4 j, rfV 4 4 (Nat.div j 3) (Nat.mod j 3))) (12 * 4 * 4) 0 = true := by kernel_rfl
theorem n17_4_5 (t : Nat → TypeId) : allN (fun j => entryOk Tryd.prog (QC0 t) (tabG t) 17 (keyR 4 5 j, rfV 4 5 (Nat.div j 3) (Nat.mod j 3))) (12 * 4 * 5) 0 = true := by kernel_rfl
theorem n17_5_1 (t : Nat → TypeId) : allN (fun j => entryOk Tryd.prog (QC0 t) (tabG t) 17 (keyR 5 1 j, rfV 5 1 (Nat.div j 3) (Nat.mod j 3))) (12 * 5 * 1) 0 = true := by kernel_rfl
theorem n17_5_2 (t : Nat → TypeId) : allN (fun j => entryOk Tryd.prog (QC0 t) (tabG t) 17 (keyR 5 2 j, rfV 5 2 (Nat.div j 3) (Nat.mod j 3))) (12 * 5 * 2) 0 = true := by kernel_rfl
theorem n17_5_3 (t : Nat → TypeId) : allN (fun j => entryOk Tryd.prog (QC0 t) (tabG t) 17 (keyR 5 3 j, rfV 5 3 (Nat.div j 3) (Nat.mod j 3))) (12 * 5 * 3) 0 = true := by kernel_rfl
theorem n17_5_4 (t : Nat → TypeId) : allN (fun j => entryOk Tryd.prog (QC0 t) (tabG t) 17 (keyR 5 4 j, rfV 5 4 (Nat.div j 3) (Nat.mod j 3))) (12 * 5 * 4) 0 = true := by kernel_rfl

end Go.Proofs.YtaacmbmnlhoghaaDoor
