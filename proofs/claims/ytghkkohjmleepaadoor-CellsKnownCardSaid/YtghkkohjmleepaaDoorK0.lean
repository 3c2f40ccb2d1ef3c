/-
  Says: the examples of the chapter hold.
-/
import Derived.Test.YtghkkohjmleepaaDoorKt
import Derived.KernelRfl
set_option maxRecDepth 1000000
set_option linter.unusedVariables false
set_option linter.unusedSimpArgs false
namespace Go.Proofs.YtghkkohjmleepaaDoor
open Go Go.Vx

theorem lives_run (t : Nat → TypeId) : [(([], .bool true) : List Value × Value)].all (entryOk Tryd.prog noOrc (tabG t) 22) = true := by kernel_rfl

end Go.Proofs.YtghkkohjmleepaaDoor
