/-
  Says: what calls answer, as the kernel runs them (level 3).
-/
import Derived.Test.YtppjogagimflpaaGreatDoorKt
import Derived.Test.YtppjogagimflpaaGreatDoorKa0
import Derived.Test.YtppjogagimflpaaGreatDoorKa1
import Derived.Test.YtppjogagimflpaaGreatDoorKa2
import Derived.Test.YtppjogagimflpaaGreatDoorKa3
import Derived.Test.YtppjogagimflpaaGreatDoorKa4
import Derived.Test.YtppjogagimflpaaGreatDoorKs
import Derived.KernelRfl
set_option maxRecDepth 1000000
set_option linter.unusedVariables false
set_option linter.unusedSimpArgs false
namespace Go.Proofs.YtppjogagimflpaaGreatDoor
open Go Go.Vx
attribute [local instance] anySyms

noncomputable def e38 : List Ent := [(15, [], vt)]
theorem e38_run (t : Nat → TypeId) : allL (entOk Tryz.prog (valOrc (fun _ => false) (tabG t) (orcL (e0 ++ e1 ++ e7 ++ e11 ++ e12 ++ e17 ++ e25 ++ e26 ++ e37 ++ sE))) (tabG t)) e38 = true := by kernel_rfl

end Go.Proofs.YtppjogagimflpaaGreatDoor
