/-
  Says: what calls answer, as the kernel runs them (level 3).
-/
import Derived.Test.YtkmmnlhmfiabfaaGreatDoorKr
import Derived.Test.YtkmmnlhmfiabfaaGreatDoorKa5
import Derived.Test.YtkmmnlhmfiabfaaGreatDoorKa6
import Derived.Test.YtkmmnlhmfiabfaaGreatDoorKa7
import Derived.Test.YtkmmnlhmfiabfaaGreatDoorKa8
import Derived.KernelRfl
set_option maxRecDepth 1000000
set_option linter.unusedVariables false
set_option linter.unusedSimpArgs false
namespace Go.Proofs.YtkmmnlhmfiabfaaGreatDoor
open Go Go.Vx
attribute [local instance] anySyms

noncomputable def d84 : List DeepE := [⟨50, [va [vi 5,vi 2]], [], vr 0 0 53 9223372036854775808, [r187]⟩]
theorem d84_run (t : Nat → TypeId) : allL (deepOk Tryz.prog (valOrc (fun _ => false) (tabG t) (orcL (e26 ++ e27 ++ e28 ++ e29 ++ e33 ++ e34 ++ e35 ++ e36 ++ e37 ++ e38))) (tabG t)) d84 = true := by kernel_rfl

end Go.Proofs.YtkmmnlhmfiabfaaGreatDoor
