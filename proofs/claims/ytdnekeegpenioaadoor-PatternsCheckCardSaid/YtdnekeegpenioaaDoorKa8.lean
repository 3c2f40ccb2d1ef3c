/-
  Says: what calls answer, as the kernel runs them (level 3).
-/
import Derived.Test.YtdnekeegpenioaaDoorKr
import Derived.Test.YtdnekeegpenioaaDoorKa1
import Derived.Test.YtdnekeegpenioaaDoorKa3
import Derived.Test.YtdnekeegpenioaaDoorKa4
import Derived.KernelRfl
set_option maxRecDepth 1000000
set_option linter.unusedVariables false
set_option linter.unusedSimpArgs false
namespace Go.Proofs.YtdnekeegpenioaaDoor
open Go Go.Vx
attribute [local instance] anySyms

noncomputable def d30 : List DeepE := [⟨20, [va [vi 5,vi 3]], [], vr 0 0 82 9223372036854775808, [r23]⟩]
theorem d30_run (t : Nat → TypeId) : allL (deepOk Tryd.prog (valOrc (fun _ => false) (tabG t) (orcL (e4 ++ e5 ++ e6 ++ e7 ++ e10 ++ e11 ++ e12 ++ e13 ++ e14))) (tabG t)) d30 = true := by kernel_rfl

end Go.Proofs.YtdnekeegpenioaaDoor
