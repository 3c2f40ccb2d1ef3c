/-
  Says: what calls answer, as the kernel runs them (level 4).
-/
import Derived.Test.YtdnekeegpenioaaDoorKr
import Derived.Test.YtdnekeegpenioaaDoorKa1
import Derived.Test.YtdnekeegpenioaaDoorKa2
import Derived.Test.YtdnekeegpenioaaDoorKa3
import Derived.KernelRfl
set_option maxRecDepth 1000000
set_option linter.unusedVariables false
set_option linter.unusedSimpArgs false
namespace Go.Proofs.YtdnekeegpenioaaDoor
open Go Go.Vx
attribute [local instance] anySyms

noncomputable def d20 : List DeepE := [⟨20, [va [vi 1,vi 1]], [], vr 0 0 4 9223372036854775808, [r12]⟩, ⟨20, [va [vi 1,vi 2]], [], vr 0 0 9 9223372036854775808, [r13]⟩]
theorem d20_run (t : Nat → TypeId) : allL (deepOk Tryd.prog (valOrc (fun _ => false) (tabG t) (orcL (e2 ++ e3 ++ e4 ++ e6 ++ e11))) (tabG t)) d20 = true := by kernel_rfl

noncomputable def d21 : List DeepE := [⟨20, [va [vi 4,vi 4]], [], vr 0 0 88 9223372036854775808, [r14]⟩]
theorem d21_run (t : Nat → TypeId) : allL (deepOk Tryd.prog (valOrc (fun _ => false) (tabG t) (orcL (e2 ++ e3 ++ e4 ++ e6 ++ e7 ++ e8 ++ e9 ++ e11 ++ e12))) (tabG t)) d21 = true := by kernel_rfl

noncomputable def d22 : List DeepE := [⟨20, [va [vi 3,vi 4]], [], vr 0 0 65 9223372036854775808, [r15]⟩]
theorem d22_run (t : Nat → TypeId) : allL (deepOk Tryd.prog (valOrc (fun _ => false) (tabG t) (orcL (e2 ++ e3 ++ e4 ++ e6 ++ e7 ++ e8 ++ e11))) (tabG t)) d22 = true := by kernel_rfl

noncomputable def d23 : List DeepE := [⟨20, [va [vi 4,vi 3]], [], vr 0 0 65 9223372036854775808, [r16]⟩]
theorem d23_run (t : Nat → TypeId) : allL (deepOk Tryd.prog (valOrc (fun _ => false) (tabG t) (orcL (e2 ++ e3 ++ e4 ++ e6 ++ e7 ++ e8 ++ e9 ++ e11))) (tabG t)) d23 = true := by kernel_rfl

end Go.Proofs.YtdnekeegpenioaaDoor
