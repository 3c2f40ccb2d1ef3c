/-
  Says: lives, run over what is known.
-/
import Derived.Test.YtkmmnlhmfiabfaaGreatDoorKs
import Derived.KernelRfl
set_option maxRecDepth 1000000
set_option linter.unusedVariables false
set_option linter.unusedSimpArgs false
namespace Go.Proofs.YtkmmnlhmfiabfaaGreatDoor
open Go Go.Vx

attribute [local instance] anySyms
theorem lives_run (t : Nat → TypeId) : allL (entOk Tryz.prog (valOrc (fun _ => false) (tabG t) (orcL sKs)) (tabG t)) [(13, [], vt)] = true := by kernel_rfl

end Go.Proofs.YtkmmnlhmfiabfaaGreatDoor
