/-
  Says: CellsKnown runs to true.
-/
import Derived.Test.YtghkkohjmleepaaDoorKi
import Derived.Test.YtghkkohjmleepaaDoorKt
import Derived.KernelRfl
set_option maxRecDepth 1000000
set_option linter.unusedVariables false
set_option linter.unusedSimpArgs false
namespace Go.Proofs.YtghkkohjmleepaaDoor
open Go Go.Vx

theorem known_run (t : Nat → TypeId) : [(([], .bool true) : List Value × Value)].all (entryOk Tryd.prog (findI indexT) (tabG t) 3) = true := by kernel_rfl

end Go.Proofs.YtghkkohjmleepaaDoor
