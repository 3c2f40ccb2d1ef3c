/-
  Says: MovesKnown, run over what is known.
-/
import Derived.Test.YtppjogagimflpaaGreatDoorKt
import Derived.Test.YtppjogagimflpaaGreatDoorKa5
import Derived.Test.YtppjogagimflpaaGreatDoorKa6
import Derived.Test.YtppjogagimflpaaGreatDoorKa7
import Derived.Test.YtppjogagimflpaaGreatDoorKa8
import Derived.KernelRfl
set_option maxRecDepth 1000000
set_option linter.unusedVariables false
set_option linter.unusedSimpArgs false
namespace Go.Proofs.YtppjogagimflpaaGreatDoor
open Go Go.Vx
attribute [local instance] anySyms
noncomputable def lastL : List Ent := e38 ++ e39 ++ e40 ++ e41 ++ e42 ++ e43 ++ e44 ++ e45 ++ e46 ++ e47 ++ e48 ++ e49 ++ e50 ++ e51 ++ e52 ++ e53 ++ e54 ++ e55 ++ e56 ++ e57 ++ e58 ++ e59 ++ e60
theorem last_run (t : Nat → TypeId) : allL (entOk Tryz.prog (valOrc (fun _ => false) (tabG t) (orcL lastL)) (tabG t)) [(3, [], vt)] = true := by kernel_rfl

end Go.Proofs.YtppjogagimflpaaGreatDoor
