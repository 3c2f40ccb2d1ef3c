/-
  Says: a table.
-/
import Derived.Test.YtaacmbmnlhoghaaDoorKN0
import Derived.KernelRfl
set_option maxRecDepth 1000000
set_option linter.unusedVariables false
set_option linter.unusedSimpArgs false
namespace Go.Proofs.YtaacmbmnlhoghaaDoor
open Go Go.Vx

attribute [local instance] anySyms
theorem n17_5_5 (t : Nat → TypeId) : allN (fun j => entryOk Tryd.prog (QC0 t) (tabG t) 17 (keyR 5 5 j, rfV 5 5 (Nat.div j 3) (Nat.mod j 3))) (12 * 5 * 5) 0 = true := by kernel_rfl

end Go.Proofs.YtaacmbmnlhoghaaDoor
