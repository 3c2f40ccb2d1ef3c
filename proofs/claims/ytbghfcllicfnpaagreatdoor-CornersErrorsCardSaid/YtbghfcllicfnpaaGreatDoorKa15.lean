/-
  Says: what calls answer, as the kernel runs them (level 3).
-/
import Derived.Test.YtbghfcllicfnpaaGreatDoorKr
import Derived.Test.YtbghfcllicfnpaaGreatDoorKa0
import Derived.Test.YtbghfcllicfnpaaGreatDoorKa1
import Derived.Test.YtbghfcllicfnpaaGreatDoorKa3
import Derived.Test.YtbghfcllicfnpaaGreatDoorKa4
import Derived.Test.YtbghfcllicfnpaaGreatDoorKa7
import Derived.Test.YtbghfcllicfnpaaGreatDoorKa8
import Derived.KernelRfl
set_option maxRecDepth 1000000
set_option linter.unusedVariables false
set_option linter.unusedSimpArgs false
namespace Go.Proofs.YtbghfcllicfnpaaGreatDoor
open Go Go.Vx
attribute [local instance] anySyms

noncomputable def d57 : List DeepE := [⟨51, [va [vi 5,vi 3]], [], vr 0 0 82 9223372036854775808, [r112]⟩]
theorem d57_run (t : Nat → TypeId) : allL (deepOk Tryz.prog (valOrc (fun _ => false) (tabG t) (orcL (e11 ++ e12 ++ e13 ++ e14 ++ e27 ++ e28 ++ e29 ++ e30))) (tabG t)) d57 = true := by kernel_rfl

noncomputable def d58 : List DeepE := [⟨68, [va [vi 2,vi 2], va [vu 2,vu 3,vi 2,vi 2,vi 4]], [], vp [vr 0 0 2 2,vi 0], [r113]⟩]
theorem d58_run (t : Nat → TypeId) : allL (deepOk Tryz.prog (valOrc (fun _ => false) (tabG t) (orcL (e0 ++ e4 ++ e10 ++ e31))) (tabG t)) d58 = true := by kernel_rfl

end Go.Proofs.YtbghfcllicfnpaaGreatDoor
