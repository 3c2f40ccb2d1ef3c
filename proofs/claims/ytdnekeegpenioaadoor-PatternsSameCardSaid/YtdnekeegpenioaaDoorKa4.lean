/-
  Says: what calls answer, as the kernel runs them (level 3).
-/
import Derived.Test.YtdnekeegpenioaaDoorKr
import Derived.Test.YtdnekeegpenioaaDoorKa1
import Derived.Test.YtdnekeegpenioaaDoorKa2
import Derived.KernelRfl
set_option maxRecDepth 1000000
set_option linter.unusedVariables false
set_option linter.unusedSimpArgs false
namespace Go.Proofs.YtdnekeegpenioaaDoor
open Go Go.Vx
attribute [local instance] anySyms

noncomputable def d18 : List DeepE := [⟨20, [va [vi 4,vi 2]], [], vr 0 0 42 9223372036854775808, [r10]⟩]
theorem d18_run (t : Nat → TypeId) : allL (deepOk Tryd.prog (valOrc (fun _ => false) (tabG t) (orcL (e2 ++ e3 ++ e4 ++ e6 ++ e7 ++ e8 ++ e9))) (tabG t)) d18 = true := by kernel_rfl

noncomputable def d19 : List DeepE := [⟨20, [va [vi 3,vi 3]], [], vr 0 0 48 9223372036854775808, [r11]⟩]
theorem d19_run (t : Nat → TypeId) : allL (deepOk Tryd.prog (valOrc (fun _ => false) (tabG t) (orcL (e2 ++ e3 ++ e4 ++ e6 ++ e7 ++ e8))) (tabG t)) d19 = true := by kernel_rfl

end Go.Proofs.YtdnekeegpenioaaDoor
