/-
  Says: what calls answer, as the kernel runs them (level 4).
-/
import Derived.Test.YtbghfcllicfnpabGreatDoorKr
import Derived.Test.YtbghfcllicfnpabGreatDoorKa11
import Derived.Test.YtbghfcllicfnpabGreatDoorKa12
import Derived.Test.YtbghfcllicfnpabGreatDoorKa20
import Derived.Test.YtbghfcllicfnpabGreatDoorKa8
import Derived.KernelRfl
set_option maxRecDepth 1000000
set_option linter.unusedVariables false
set_option linter.unusedSimpArgs false
namespace Go.Proofs.YtbghfcllicfnpabGreatDoor
open Go Go.Vx
attribute [local instance] anySyms

noncomputable def d96 : List DeepE := [⟨52, [va [vi 4,vi 4]], [], vr 0 0 88 9223372036854775808, [r167]⟩]
theorem d96_run (t : Nat → TypeId) : allL (deepOk Tryz.prog (valOrc (fun _ => false) (tabG t) (orcL (e28 ++ e29 ++ e30 ++ e37 ++ e38 ++ e39 ++ e40 ++ e58))) (tabG t)) d96 = true := by kernel_rfl

end Go.Proofs.YtbghfcllicfnpabGreatDoor
