/-
  Says: what calls answer, as the kernel runs them (level 5).
-/
import Derived.Test.YtpieoofkikjjjaaGreatDoorKr
import Derived.Test.YtpieoofkikjjjaaGreatDoorKa0
import Derived.Test.YtpieoofkikjjjaaGreatDoorKa1
import Derived.Test.YtpieoofkikjjjaaGreatDoorKa30
import Derived.Test.YtpieoofkikjjjaaGreatDoorKa31
import Derived.Test.YtpieoofkikjjjaaGreatDoorKa32
import Derived.KernelRfl
set_option maxRecDepth 1000000
set_option linter.unusedVariables false
set_option linter.unusedSimpArgs false
namespace Go.Proofs.YtpieoofkikjjjaaGreatDoor
open Go Go.Vx
attribute [local instance] anySyms

noncomputable def e334 : List Ent := [(24,[],vt)]
theorem e334_run (t : Nat → TypeId) : allL (entOk Tryz.prog (deepOrc Tryz.prog (tabG t) (gO (e10 ++ e329 ++ e331)) 73789228369531371520 (d9 ++ d330 ++ d332 ++ d333) noCuts) (tabG t)) e334 = true := by kernel_rfl

end Go.Proofs.YtpieoofkikjjjaaGreatDoor
