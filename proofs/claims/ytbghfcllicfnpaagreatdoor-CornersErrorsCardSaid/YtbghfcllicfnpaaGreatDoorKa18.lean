/-
  Says: what calls answer, as the kernel runs them (level 5).
-/
import Derived.Test.YtbghfcllicfnpaaGreatDoorKr
import Derived.Test.YtbghfcllicfnpaaGreatDoorKa12
import Derived.Test.YtbghfcllicfnpaaGreatDoorKa16
import Derived.Test.YtbghfcllicfnpaaGreatDoorKa3
import Derived.KernelRfl
set_option maxRecDepth 1000000
set_option linter.unusedVariables false
set_option linter.unusedSimpArgs false
namespace Go.Proofs.YtbghfcllicfnpaaGreatDoor
open Go Go.Vx
attribute [local instance] anySyms

noncomputable def d64 : List DeepE := [⟨14, [va [vi 2,vi 2,vr 0 0 5 5], va [vi 1,vi 1]], [r91], vp [vr 1 0 1 1,vi 0], [r115]⟩]
theorem d64_run (t : Nat → TypeId) : allL (deepOk Tryz.prog (deepOrc Tryz.prog (tabG t) (orcL (e10)) 103079215104 (d44 ++ d59) noCuts) (tabG t)) d64 = true := by kernel_rfl

end Go.Proofs.YtbghfcllicfnpaaGreatDoor
