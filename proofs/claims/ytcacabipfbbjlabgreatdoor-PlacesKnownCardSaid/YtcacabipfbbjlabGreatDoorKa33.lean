/-
  Says: what calls answer, as the kernel runs them (level 9).
-/
import Derived.Test.YtcacabipfbbjlabGreatDoorKr
import Derived.Test.YtcacabipfbbjlabGreatDoorKa13
import Derived.Test.YtcacabipfbbjlabGreatDoorKa17
import Derived.Test.YtcacabipfbbjlabGreatDoorKa23
import Derived.Test.YtcacabipfbbjlabGreatDoorKa25
import Derived.Test.YtcacabipfbbjlabGreatDoorKa28
import Derived.Test.YtcacabipfbbjlabGreatDoorKa29
import Derived.KernelRfl
set_option maxRecDepth 1000000
set_option linter.unusedVariables false
set_option linter.unusedSimpArgs false
namespace Go.Proofs.YtcacabipfbbjlabGreatDoor
open Go Go.Vx
attribute [local instance] anySyms

noncomputable def e181 : List Ent := [(12,[],vt)]
theorem e181_run (t : Nat → TypeId) : allL (entOk Tryz.prog (deepOrc Tryz.prog (tabG t) (orcL ([])) 17798629736448 (d88 ++ d89 ++ d116 ++ d154 ++ d170 ++ d174 ++ d176) noCuts) (tabG t)) e181 = true := by kernel_rfl

end Go.Proofs.YtcacabipfbbjlabGreatDoor
