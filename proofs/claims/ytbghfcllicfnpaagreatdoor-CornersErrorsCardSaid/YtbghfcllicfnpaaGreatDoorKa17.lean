/-
  Says: what calls answer, as the kernel runs them (level 4).
-/
import Derived.Test.YtbghfcllicfnpaaGreatDoorKr
import Derived.Test.YtbghfcllicfnpaaGreatDoorKa11
import Derived.Test.YtbghfcllicfnpaaGreatDoorKa3
import Derived.Test.YtbghfcllicfnpaaGreatDoorKa4
import Derived.Test.YtbghfcllicfnpaaGreatDoorKa7
import Derived.Test.YtbghfcllicfnpaaGreatDoorKa8
import Derived.KernelRfl
set_option maxRecDepth 1000000
set_option linter.unusedVariables false
set_option linter.unusedSimpArgs false
namespace Go.Proofs.YtbghfcllicfnpaaGreatDoor
open Go Go.Vx
attribute [local instance] anySyms

noncomputable def d63 : List DeepE := [⟨51, [va [vi 5,vi 5]], [], vr 0 0 140 9223372036854775808, [r120]⟩]
theorem d63_run (t : Nat → TypeId) : allL (deepOk Tryz.prog (valOrc (fun _ => false) (tabG t) (orcL (e11 ++ e12 ++ e13 ++ e14 ++ e26 ++ e27 ++ e28 ++ e29 ++ e30 ++ e31 ++ e40 ++ e41))) (tabG t)) d63 = true := by kernel_rfl

end Go.Proofs.YtbghfcllicfnpaaGreatDoor
