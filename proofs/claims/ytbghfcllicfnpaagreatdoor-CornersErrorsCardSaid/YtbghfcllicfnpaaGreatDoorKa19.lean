/-
  Says: what calls answer, as the kernel runs them (level 6).
-/
import Derived.Test.YtbghfcllicfnpaaGreatDoorKr
import Derived.Test.YtbghfcllicfnpaaGreatDoorKa16
import Derived.Test.YtbghfcllicfnpaaGreatDoorKa18
import Derived.Test.YtbghfcllicfnpaaGreatDoorKa2
import Derived.Test.YtbghfcllicfnpaaGreatDoorKa8
import Derived.Test.YtbghfcllicfnpaaGreatDoorKa9
import Derived.KernelRfl
set_option maxRecDepth 1000000
set_option linter.unusedVariables false
set_option linter.unusedSimpArgs false
namespace Go.Proofs.YtbghfcllicfnpaaGreatDoor
open Go Go.Vx
attribute [local instance] anySyms

noncomputable def e65 : List Ent := [(18, [], vt)]
theorem e65_run (t : Nat → TypeId) : allL (entOk Tryz.prog (deepOrc Tryz.prog (tabG t) (orcL ([])) 274877932544 (d8 ++ d32 ++ d35 ++ d59 ++ d64) noCuts) (tabG t)) e65 = true := by kernel_rfl

end Go.Proofs.YtbghfcllicfnpaaGreatDoor
