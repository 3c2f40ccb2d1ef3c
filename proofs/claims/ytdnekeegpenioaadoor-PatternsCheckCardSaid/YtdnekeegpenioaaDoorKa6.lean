/-
  Says: what calls answer, as the kernel runs them (level 3).
-/
import Derived.Test.YtdnekeegpenioaaDoorKr
import Derived.Test.YtdnekeegpenioaaDoorKa1
import Derived.Test.YtdnekeegpenioaaDoorKa3
import Derived.KernelRfl
set_option maxRecDepth 1000000
set_option linter.unusedVariables false
set_option linter.unusedSimpArgs false
namespace Go.Proofs.YtdnekeegpenioaaDoor
open Go Go.Vx
attribute [local instance] anySyms

noncomputable def d21 : List DeepE := [⟨20, [va [vi 2,vi 3]], [], vr 0 0 31 9223372036854775808, [r13]⟩, ⟨20, [va [vi 3,vi 2]], [], vr 0 0 31 9223372036854775808, [r14]⟩]
theorem d21_run (t : Nat → TypeId) : allL (deepOk Tryd.prog (valOrc (fun _ => false) (tabG t) (orcL (e4 ++ e5 ++ e6 ++ e7 ++ e10 ++ e11 ++ e12))) (tabG t)) d21 = true := by kernel_rfl

noncomputable def d22 : List DeepE := [⟨20, [va [vi 2,vi 4]], [], vr 0 0 42 9223372036854775808, [r15]⟩]
theorem d22_run (t : Nat → TypeId) : allL (deepOk Tryd.prog (valOrc (fun _ => false) (tabG t) (orcL (e4 ++ e5 ++ e6 ++ e7 ++ e10 ++ e11 ++ e12))) (tabG t)) d22 = true := by kernel_rfl

noncomputable def d23 : List DeepE := [⟨20, [va [vi 4,vi 2]], [], vr 0 0 42 9223372036854775808, [r16]⟩]
theorem d23_run (t : Nat → TypeId) : allL (deepOk Tryd.prog (valOrc (fun _ => false) (tabG t) (orcL (e4 ++ e5 ++ e6 ++ e7 ++ e10 ++ e11 ++ e12 ++ e13))) (tabG t)) d23 = true := by kernel_rfl

noncomputable def d24 : List DeepE := [⟨20, [va [vi 3,vi 3]], [], vr 0 0 48 9223372036854775808, [r17]⟩]
theorem d24_run (t : Nat → TypeId) : allL (deepOk Tryd.prog (valOrc (fun _ => false) (tabG t) (orcL (e4 ++ e5 ++ e6 ++ e7 ++ e10 ++ e11 ++ e12))) (tabG t)) d24 = true := by kernel_rfl

noncomputable def d25 : List DeepE := [⟨20, [va [vi 2,vi 5]], [], vr 0 0 53 9223372036854775808, [r18]⟩]
theorem d25_run (t : Nat → TypeId) : allL (deepOk Tryd.prog (valOrc (fun _ => false) (tabG t) (orcL (e4 ++ e5 ++ e6 ++ e7 ++ e10 ++ e11 ++ e12))) (tabG t)) d25 = true := by kernel_rfl

end Go.Proofs.YtdnekeegpenioaaDoor
