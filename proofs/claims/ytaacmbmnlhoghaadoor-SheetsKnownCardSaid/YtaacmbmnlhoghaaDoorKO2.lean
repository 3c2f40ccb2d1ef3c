/-
  Says: a table.
-/
import Derived.Test.YtaacmbmnlhoghaaDoorKP0
import Derived.KernelRfl
set_option maxRecDepth 1000000
set_option linter.unusedVariables false
set_option linter.unusedSimpArgs false
namespace Go.Proofs.YtaacmbmnlhoghaaDoor
open Go Go.Vx
attribute [local instance] anyKeeps

attribute [local instance] anySyms
theorem n16_5_5 (t : Nat → TypeId) : allN (fun j => entryOk Tryd.prog (QC1 t) (tabG t) 16 (keyN 5 5 j, nmV 5 5 (Nat.div j 3) (Nat.mod j 3))) (12 * 5 * 5) 0 = true := by kernel_rfl

end Go.Proofs.YtaacmbmnlhoghaaDoor
