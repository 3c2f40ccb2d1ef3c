/-
  Says: what calls answer, as the kernel runs them (level 4).
-/
import Derived.Test.YtpieoofkikjjjaaGreatDoorKr
import Derived.Test.YtpieoofkikjjjaaGreatDoorKa1
import Derived.Test.YtpieoofkikjjjaaGreatDoorKa30
import Derived.Test.YtpieoofkikjjjaaGreatDoorKa31
import Derived.KernelRfl
set_option maxRecDepth 1000000
set_option linter.unusedVariables false
set_option linter.unusedSimpArgs false
namespace Go.Proofs.YtpieoofkikjjjaaGreatDoor
open Go Go.Vx
attribute [local instance] anySyms

noncomputable def d333 : List DeepE := [⟨66,[va [vi 2,vi 2,vr 0 0 5 5],va [vi 2,vi 2]],[r115],vp [vr 1 0 3 3,vi 0],[r117]⟩]
theorem d333_run (t : Nat → TypeId) : allL (deepOk Tryz.prog (deepOrc Tryz.prog (tabG t) (gO (e10 ++ e329 ++ e331)) 274877906944 (d332) noCuts) (tabG t)) d333 = true := by kernel_rfl

end Go.Proofs.YtpieoofkikjjjaaGreatDoor
