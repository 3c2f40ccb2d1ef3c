/-
  Says: what calls answer, as the kernel runs them (level 3).
-/
import Derived.Test.YtbghfcllicfnpaaGreatDoorKr
import Derived.Test.YtbghfcllicfnpaaGreatDoorKa3
import Derived.Test.YtbghfcllicfnpaaGreatDoorKa4
import Derived.Test.YtbghfcllicfnpaaGreatDoorKa7
import Derived.Test.YtbghfcllicfnpaaGreatDoorKa8
import Derived.KernelRfl
set_option maxRecDepth 1000000
set_option linter.unusedVariables false
set_option linter.unusedSimpArgs false
namespace Go.Proofs.YtbghfcllicfnpaaGreatDoor
open Go Go.Vx
attribute [local instance] anySyms

noncomputable def d53 : List DeepE := [⟨51, [va [vi 5,vi 2]], [], vr 0 0 53 9223372036854775808, [r108]⟩]
theorem d53_run (t : Nat → TypeId) : allL (deepOk Tryz.prog (valOrc (fun _ => false) (tabG t) (orcL (e11 ++ e12 ++ e13 ++ e14 ++ e27 ++ e28 ++ e29 ++ e30))) (tabG t)) d53 = true := by kernel_rfl

noncomputable def d54 : List DeepE := [⟨51, [va [vi 3,vi 4]], [], vr 0 0 65 9223372036854775808, [r109]⟩]
theorem d54_run (t : Nat → TypeId) : allL (deepOk Tryz.prog (valOrc (fun _ => false) (tabG t) (orcL (e11 ++ e12 ++ e13 ++ e14 ++ e27 ++ e28 ++ e29))) (tabG t)) d54 = true := by kernel_rfl

noncomputable def d55 : List DeepE := [⟨51, [va [vi 4,vi 3]], [], vr 0 0 65 9223372036854775808, [r110]⟩]
theorem d55_run (t : Nat → TypeId) : allL (deepOk Tryz.prog (valOrc (fun _ => false) (tabG t) (orcL (e11 ++ e12 ++ e13 ++ e14 ++ e27 ++ e28 ++ e29 ++ e30))) (tabG t)) d55 = true := by kernel_rfl

noncomputable def d56 : List DeepE := [⟨51, [va [vi 3,vi 5]], [], vr 0 0 82 9223372036854775808, [r111]⟩]
theorem d56_run (t : Nat → TypeId) : allL (deepOk Tryz.prog (valOrc (fun _ => false) (tabG t) (orcL (e11 ++ e12 ++ e13 ++ e14 ++ e27 ++ e28 ++ e29))) (tabG t)) d56 = true := by kernel_rfl

end Go.Proofs.YtbghfcllicfnpaaGreatDoor
