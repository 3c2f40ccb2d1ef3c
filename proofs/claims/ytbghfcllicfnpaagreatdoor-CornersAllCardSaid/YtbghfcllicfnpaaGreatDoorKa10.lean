/-
  Says: what calls answer, as the kernel runs them (level 4).
-/
import Derived.Test.YtbghfcllicfnpaaGreatDoorKr
import Derived.Test.YtbghfcllicfnpaaGreatDoorKa1
import Derived.Test.YtbghfcllicfnpaaGreatDoorKa2
import Derived.Test.YtbghfcllicfnpaaGreatDoorKa4
import Derived.Test.YtbghfcllicfnpaaGreatDoorKa6
import Derived.Test.YtbghfcllicfnpaaGreatDoorKa8
import Derived.Test.YtbghfcllicfnpaaGreatDoorKa9
import Derived.KernelRfl
set_option maxRecDepth 1000000
set_option linter.unusedVariables false
set_option linter.unusedSimpArgs false
namespace Go.Proofs.YtbghfcllicfnpaaGreatDoor
open Go Go.Vx
attribute [local instance] anySyms

noncomputable def e33 : List Ent := [(18, [], vt)]
theorem e33_run (t : Nat → TypeId) : allL (entOk Tryz.prog (deepOrc Tryz.prog (tabG t) (orcL (e9 ++ e14)) 309237670912 (d8 ++ d15 ++ d23 ++ d31 ++ d32) noCuts) (tabG t)) e33 = true := by kernel_rfl

end Go.Proofs.YtbghfcllicfnpaaGreatDoor
