/-
  Says: a table.
-/
import Derived.Test.YtaacmbmnlhoghaaDoorKN0
import Derived.KernelRfl
set_option maxRecDepth 1000000
set_option linter.unusedVariables false
set_option linter.unusedSimpArgs false
namespace Go.Proofs.YtaacmbmnlhoghaaDoor
open Go Go.Vx
attribute [local instance] anyKeeps

attribute [local instance] anySyms
theorem n17_1_1 (t : Nat → TypeId) : allN (fun j => entryOk Tryd.prog (QC0 t) (tabG t) 17 (keyR 1 1 j, rfV 1 1 (Nat.div j 3) (Nat.mod j 3))) (12 * 1 * 1) 0 = true := by kernel_rfl
theorem n17_1_2 (t : Nat → TypeId) : allN (fun j => entryOk Tryd.prog (QC0 t) (tabG t) 17 (keyR 1 2 j, rfV 1 2 (Nat.div j 3) (Nat.mod j 3))) (12 * 1 * 2) 0 = true := by kernel_rfl
theorem n17_1_3 (t : Nat → TypeId) : allN (fun j => entryOk Tryd.prog (QC0 t) (tabG t) 17 (keyR 1 3 j, rfV 1 3 (Nat.div j 3) (Nat.mod j 3))) (12 * 1 * 3) 0 = true := by kernel_rfl
theorem n17_1_4 (t : Nat → TypeId) : allN (fun j => entryOk Tryd.prog (QC0 t) (tabG t) 17 (keyR 1 4 j, rfV 1 4 (Nat.div j 3) (Nat.mod j 3))) (12 * 1 * 4) 0 = true := by kernel_rfl
theorem n17_1_5 (t : Nat → TypeId) : allN (fun j => entryOk Tryd.prog (QC0 t) (tabG t) 17 (keyR 1 5 j, rfV 1 5 (Nat.div j 3) (Nat.mod j 3))) (12 * 1 * 5) 0 = true := by kernel_rfl
theorem n17_2_1 (t : Nat → TypeId) : allN (fun j => entryOk Tryd.prog (QC0 t) (tabG t) 17 (keyR 2 1 j, rfV 2 1 (Nat.div j 3) (Nat.mod j 3))) (12 * 2 * 1) 0 = true := by kernel_rfl
theorem n17_2_2 (t : Nat → TypeId) : allN (fun j => entryOk Tryd.prog (QC0 t) (tabG t) 17 (keyR 2 2 j, rfV 2 2 (Nat.div j 3) (Nat.mod j 3))) (12 * 2 * 2) 0 = true := by kernel_rfl
theorem n17_2_3 (t : Nat → TypeId) : allN (fun j => entryOk Tryd.prog (QC0 t) (tabG t) 17 (keyR 2 3 j, rfV 2 3 (Nat.div j 3) (Nat.mod j 3))) (12 * 2 * 3) 0 = true := by kernel_rfl
theorem n17_2_4 (t : Nat → TypeId) : allN (fun j => entryOk Tryd.prog (QC0 t) (tabG t) 17 (keyR 2 4 j, rfV 2 4 (Nat.div j 3) (Nat.mod j 3))) (12 * 2 * 4) 0 = true := by kernel_rfl
theorem n17_2_5 (t : Nat → TypeId) : allN (fun j => entryOk Tryd.prog (QC0 t) (tabG t) 17 (keyR 2 5 j, rfV 2 5 (Nat.div j 3) (Nat.mod j 3))) (12 * 2 * 5) 0 = true := by kernel_rfl
theorem n17_3_1 (t : Nat → TypeId) : allN (fun j => entryOk Tryd.prog (QC0 t) (tabG t) 17 (keyR 3 1 j, rfV 3 1 (Nat.div j 3) (Nat.mod j 3))) (12 * 3 * 1) 0 = true := by kernel_rfl
theorem n17_3_2 (t : Nat → TypeId) : allN (fun j => entryOk Tryd.prog (QC0 t) (tabG t) 17 (keyR 3 2 j, rfV 3 2 (Nat.div j 3) (Nat.mod j 3))) (12 * 3 * 2) 0 = true := by kernel_rfl
theorem n17_3_3 (t : Nat → TypeId) : allN (fun j => entryOk Tryd.prog (QC0 t) (tabG t) 17 (keyR 3 3 j, rfV 3 3 (Nat.div j 3) (Nat.mod j 3))) (12 * 3 * 3) 0 = true := by kernel_rfl
theorem n17_3_4 (t : Nat → TypeId) : allN (fun j => entryOk Tryd.prog (QC0 t) (tabG t) 17 (keyR 3 4 j, rfV 3 4 (Nat.div j 3) (Nat.mod j 3))) (12 * 3 * 4) 0 = true := by kernel_rfl
theorem n17_3_5 (t : Nat → TypeId) : allN (fun j => entryOk Tryd.prog (QC0 t) (tabG t) 17 (keyR 3 5 j, rfV 3 5 (Nat.div j 3) (Nat.mod j 3))) (12 * 3 * 5) 0 = true := by kernel_rfl
theorem n17_4_1 (t : Nat → TypeId) : allN (fun j => entryOk Tryd.prog (QC0 t) (tabG t) 17 (keyR 4 1 j, rfV 4 1 (Nat.div j 3) (Nat.mod j 3))) (12 * 4 * 1) 0 = true := by kernel_rfl
theorem n17_4_2 (t : Nat → TypeId) : allN (fun j => entryOk Tryd.prog (QC0 t) (tabG t) 17 (keyR 4 2 j, rfV 4 2 (Nat.div j 3) (Nat.mod j 3))) (12 * 4 * 2) 0 = true := by kernel_rfl
theorem n17_4_3 (t : Nat → TypeId) : allN (fun j => entryOk Tryd.prog (QC0 t) (tabG t) 17 (keyR 4 3 j, rfV 4 3 (Nat.div j 3) (Nat.mod j 3))) (12 * 4 * 3) 0 = true := by kernel_rfl
theorem n17_4_4 (t : Nat → TypeId) : allN (fun j => entryOk Tryd.prog (QC0 t) (tabG t) 17 (keyR 4 4 j, rfV 4 4 (Nat.div j 3) (Nat.mod j 3))) (12 * 4 * 4) 0 = true := by kernel_rfl
theorem n17_4_5 (t : Nat → TypeId) : allN (fun j => entryOk Tryd.prog (QC0 t) (tabG t) 17 (keyR 4 5 j, rfV 4 5 (Nat.div j 3) (Nat.mod j 3))) (12 * 4 * 5) 0 = true := by kernel_rfl
theorem n17_5_1 (t : Nat → TypeId) : allN (fun j => entryOk Tryd.prog (QC0 t) (tabG t) 17 (keyR 5 1 j, rfV 5 1 (Nat.div j 3) (Nat.mod j 3))) (12 * 5 * 1) 0 = true := by kernel_rfl
theorem n17_5_2 (t : Nat → TypeId) : allN (fun j => entryOk Tryd.prog (QC0 t) (tabG t) 17 (keyR 5 2 j, rfV 5 2 (Nat.div j 3) (Nat.mod j 3))) (12 * 5 * 2) 0 = true := by kernel_rfl
theorem n17_5_3 (t : Nat → TypeId) : allN (fun j => entryOk Tryd.prog (QC0 t) (tabG t) 17 (keyR 5 3 j, rfV 5 3 (Nat.div j 3) (Nat.mod j 3))) (12 * 5 * 3) 0 = true := by kernel_rfl
theorem n17_5_4 (t : Nat → TypeId) : allN (fun j => entryOk Tryd.prog (QC0 t) (tabG t) 17 (keyR 5 4 j, rfV 5 4 (Nat.div j 3) (Nat.mod j 3))) (12 * 5 * 4) 0 = true := by kernel_rfl
theorem n17_5_5 (t : Nat → TypeId) : allN (fun j => entryOk Tryd.prog (QC0 t) (tabG t) 17 (keyR 5 5 j, rfV 5 5 (Nat.div j 3) (Nat.mod j 3))) (12 * 5 * 5) 0 = true := by kernel_rfl

end Go.Proofs.YtaacmbmnlhoghaaDoor
