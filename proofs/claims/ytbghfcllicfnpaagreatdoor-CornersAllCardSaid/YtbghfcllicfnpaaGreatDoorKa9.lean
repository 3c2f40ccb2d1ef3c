/-
  Says: what calls answer, as the kernel runs them (level 3).
-/
import Derived.Test.YtbghfcllicfnpaaGreatDoorKr
import Derived.Test.YtbghfcllicfnpaaGreatDoorKa2
import Derived.Test.YtbghfcllicfnpaaGreatDoorKa4
import Derived.Test.YtbghfcllicfnpaaGreatDoorKa8
import Derived.KernelRfl
set_option maxRecDepth 1000000
set_option linter.unusedVariables false
set_option linter.unusedSimpArgs false
namespace Go.Proofs.YtbghfcllicfnpaaGreatDoor
open Go Go.Vx
attribute [local instance] anySyms

noncomputable def d32 : List DeepE := [⟨14, [va [vi 2,vi 2,vr 0 0 5 5], va [vi 2,vi 2]], [r90], vp [vr 1 0 3 3,vi 0], [r92]⟩]
theorem d32_run (t : Nat → TypeId) : allL (deepOk Tryz.prog (deepOrc Tryz.prog (tabG t) (orcL (e9 ++ e14)) 34359738368 (d31) noCuts) (tabG t)) d32 = true := by kernel_rfl

end Go.Proofs.YtbghfcllicfnpaaGreatDoor
