/-
  Says: the units of a great sheet.
-/
import Derived.Test.YtaacmbmnlhoghaaDoorKG0
import Derived.KernelRfl
set_option maxRecDepth 1000000
set_option linter.unusedVariables false
set_option linter.unusedSimpArgs false
namespace Go.Proofs.YtaacmbmnlhoghaaDoor
open Go Go.Vx
attribute [local instance] anyKeeps

attribute [local instance] anySyms
noncomputable def rg_1 : RowE := ⟨19, [va [vi 1, vi 256]], unG mk_1 3072, 43, false, 1279, 1279, [vi 0]⟩
theorem rh_1 (t : Nat → TypeId) : rowOk Tryd.prog (valOrc (fun _ => false) (tabG t) (fnAns 51 A51_1)) (tabG t) rg_1 = true := by kernel_rfl

end Go.Proofs.YtaacmbmnlhoghaaDoor
