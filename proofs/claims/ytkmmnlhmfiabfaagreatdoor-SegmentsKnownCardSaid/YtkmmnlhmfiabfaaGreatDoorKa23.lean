/-
  Says: what calls answer, as the kernel runs them (level 4).
-/
import Derived.Test.YtkmmnlhmfiabfaaGreatDoorKr
import Derived.Test.YtkmmnlhmfiabfaaGreatDoorKa13
import Derived.Test.YtkmmnlhmfiabfaaGreatDoorKa14
import Derived.Test.YtkmmnlhmfiabfaaGreatDoorKa5
import Derived.Test.YtkmmnlhmfiabfaaGreatDoorKa6
import Derived.Test.YtkmmnlhmfiabfaaGreatDoorKa7
import Derived.Test.YtkmmnlhmfiabfaaGreatDoorKa8
import Derived.KernelRfl
set_option maxRecDepth 1000000
set_option linter.unusedVariables false
set_option linter.unusedSimpArgs false
namespace Go.Proofs.YtkmmnlhmfiabfaaGreatDoor
open Go Go.Vx
attribute [local instance] anySyms

noncomputable def d115 : List DeepE := [⟨50, [va [vi 5,vi 4]], [], vr 0 0 111 9223372036854775808, [r226]⟩]
theorem d115_run (t : Nat → TypeId) : allL (deepOk Tryz.prog (valOrc (fun _ => false) (tabG t) (orcL (e26 ++ e27 ++ e28 ++ e29 ++ e33 ++ e34 ++ e35 ++ e36 ++ e37 ++ e38 ++ e67 ++ e68))) (tabG t)) d115 = true := by kernel_rfl

noncomputable def d116 : List DeepE := [⟨50, [va [vi 4,vi 4]], [], vr 0 0 88 9223372036854775808, [r227]⟩]
theorem d116_run (t : Nat → TypeId) : allL (deepOk Tryz.prog (valOrc (fun _ => false) (tabG t) (orcL (e26 ++ e27 ++ e28 ++ e33 ++ e34 ++ e35 ++ e36 ++ e37 ++ e38 ++ e66))) (tabG t)) d116 = true := by kernel_rfl

noncomputable def d117 : List DeepE := [⟨50, [va [vi 3,vi 4]], [], vr 0 0 65 9223372036854775808, [r228]⟩]
theorem d117_run (t : Nat → TypeId) : allL (deepOk Tryz.prog (valOrc (fun _ => false) (tabG t) (orcL (e26 ++ e27 ++ e28 ++ e33 ++ e34 ++ e35 ++ e36 ++ e37 ++ e38 ++ e65 ++ e66))) (tabG t)) d117 = true := by kernel_rfl

noncomputable def d118 : List DeepE := [⟨50, [va [vi 4,vi 3]], [], vr 0 0 65 9223372036854775808, [r229]⟩]
theorem d118_run (t : Nat → TypeId) : allL (deepOk Tryz.prog (valOrc (fun _ => false) (tabG t) (orcL (e26 ++ e27 ++ e28 ++ e33 ++ e34 ++ e35 ++ e36 ++ e37 ++ e38 ++ e66))) (tabG t)) d118 = true := by kernel_rfl

end Go.Proofs.YtkmmnlhmfiabfaaGreatDoor
