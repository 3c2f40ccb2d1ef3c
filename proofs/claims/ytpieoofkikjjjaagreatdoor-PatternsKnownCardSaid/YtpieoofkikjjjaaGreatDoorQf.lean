/-
  Says: the statement, run over what is known.
-/
import Derived.Test.YtpieoofkikjjjaaGreatDoorQr
import Derived.Test.YtpieoofkikjjjaaGreatDoorQa0
import Derived.Test.YtpieoofkikjjjaaGreatDoorQa1
import Derived.Test.YtpieoofkikjjjaaGreatDoorQa13
import Derived.Test.YtpieoofkikjjjaaGreatDoorQa2
import Derived.Test.YtpieoofkikjjjaaGreatDoorQa20
import Derived.Test.YtpieoofkikjjjaaGreatDoorQa22
import Derived.Test.YtpieoofkikjjjaaGreatDoorQa4
import Derived.Test.YtpieoofkikjjjaaGreatDoorQa6
import Derived.Test.YtpieoofkikjjjaaGreatDoorQa7
import Derived.Test.YtpieoofkikjjjaaGreatDoorQa9
import Derived.KernelRfl
set_option maxRecDepth 1000000
set_option linter.unusedVariables false
set_option linter.unusedSimpArgs false
namespace Go.Proofs.YtpieoofkikjjjaaGreatDoor
open Go Go.Vx
attribute [local instance] anySyms
theorem last_run (t : Nat → TypeId) : allL (entOk Tryz.prog (ndOrc Tryz.prog (tabG t) (orcL (e0 ++ e12 ++ e22 ++ e31 ++ e45 ++ e69)) 590295810359242526656 (d36 ++ d44 ++ d46 ++ d47 ++ d64 ++ d70 ++ d71 ++ d83 ++ d84 ++ d85 ++ d86 ++ d87 ++ d88 ++ d89 ++ d92 ++ d93 ++ d94) noCuts) (tabG t)) [(3, [], vt)] = true := by kernel_rfl

end Go.Proofs.YtpieoofkikjjjaaGreatDoor
