/-
  Says: what calls answer, as the kernel runs them (level 4).
-/
import Derived.Test.YtbghfcllicfnpabGreatDoorKr
import Derived.Test.YtbghfcllicfnpabGreatDoorKa0
import Derived.Test.YtbghfcllicfnpabGreatDoorKa1
import Derived.Test.YtbghfcllicfnpabGreatDoorKa11
import Derived.Test.YtbghfcllicfnpabGreatDoorKa12
import Derived.Test.YtbghfcllicfnpabGreatDoorKa20
import Derived.Test.YtbghfcllicfnpabGreatDoorKa8
import Derived.Test.YtbghfcllicfnpabGreatDoorKa9
import Derived.KernelRfl
set_option maxRecDepth 1000000
set_option linter.unusedVariables false
set_option linter.unusedSimpArgs false
namespace Go.Proofs.YtbghfcllicfnpabGreatDoor
open Go Go.Vx
attribute [local instance] anySyms

noncomputable def d92 : List DeepE := [⟨52, [va [vi 3,vi 2]], [], vr 0 0 31 9223372036854775808, [r162]⟩, ⟨52, [va [vi 4,vi 2]], [], vr 0 0 42 9223372036854775808, [r163]⟩]
theorem d92_run (t : Nat → TypeId) : allL (deepOk Tryz.prog (valOrc (fun _ => false) (tabG t) (orcL (e28 ++ e29 ++ e30 ++ e37 ++ e38 ++ e39 ++ e40 ++ e58))) (tabG t)) d92 = true := by kernel_rfl

noncomputable def d93 : List DeepE := [⟨52, [va [vi 3,vi 3]], [], vr 0 0 48 9223372036854775808, [r164]⟩]
theorem d93_run (t : Nat → TypeId) : allL (deepOk Tryz.prog (valOrc (fun _ => false) (tabG t) (orcL (e28 ++ e29 ++ e30 ++ e37 ++ e38 ++ e39 ++ e40 ++ e58))) (tabG t)) d93 = true := by kernel_rfl

noncomputable def d94 : List DeepE := [⟨52, [va [vi 4,vi 3]], [], vr 0 0 65 9223372036854775808, [r165]⟩]
theorem d94_run (t : Nat → TypeId) : allL (deepOk Tryz.prog (valOrc (fun _ => false) (tabG t) (orcL (e28 ++ e29 ++ e30 ++ e37 ++ e38 ++ e39 ++ e40 ++ e58))) (tabG t)) d94 = true := by kernel_rfl

noncomputable def d95 : List DeepE := [⟨52, [va [vi 5,vi 2]], [], vr 0 0 53 9223372036854775808, [r166]⟩]
theorem d95_run (t : Nat → TypeId) : allL (deepOk Tryz.prog (valOrc (fun _ => false) (tabG t) (orcL (e1 ++ e5 ++ e6 ++ e28 ++ e29 ++ e30 ++ e34 ++ e37 ++ e38 ++ e39 ++ e40 ++ e58))) (tabG t)) d95 = true := by kernel_rfl

end Go.Proofs.YtbghfcllicfnpabGreatDoor
