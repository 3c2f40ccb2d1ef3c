/-
  Says: what the index lists, the tables hold.
-/
import Derived.Test.YtghkkohjmleepaaDoorKi
import Derived.Test.YtghkkohjmleepaaDoorKt2
import Derived.KernelRfl
set_option maxRecDepth 1000000
set_option linter.unusedVariables false
set_option linter.unusedSimpArgs false
namespace Go.Proofs.YtghkkohjmleepaaDoor
open Go Go.Vx

theorem index_ok : allI (isIn knownT) indexT = true := by kernel_rfl

end Go.Proofs.YtghkkohjmleepaaDoor
