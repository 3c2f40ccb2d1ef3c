/-
  Says: what calls answer, as the kernel runs them (level 6).
-/
import Derived.Test.YtdnekeegpenioaaDoorKr
import Derived.Test.YtdnekeegpenioaaDoorKa0
import Derived.Test.YtdnekeegpenioaaDoorKa11
import Derived.Test.YtdnekeegpenioaaDoorKa5
import Derived.Test.YtdnekeegpenioaaDoorKa9
import Derived.KernelRfl
set_option maxRecDepth 1000000
set_option linter.unusedVariables false
set_option linter.unusedSimpArgs false
namespace Go.Proofs.YtdnekeegpenioaaDoor
open Go Go.Vx
attribute [local instance] anySyms

noncomputable def e39 : List Ent := [(12, [], vt)]
theorem e39_run (t : Nat → TypeId) : allL (entOk Tryd.prog (deepOrc Tryd.prog (tabG t) (orcL (e37)) 33645568 (d3 ++ d18 ++ d32 ++ d38) noCuts) (tabG t)) e39 = true := by kernel_rfl

end Go.Proofs.YtdnekeegpenioaaDoor
