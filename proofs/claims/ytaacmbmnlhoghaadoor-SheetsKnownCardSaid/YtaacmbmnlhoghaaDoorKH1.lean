/-
  Says: the units of a great sheet.
-/
import Derived.Test.YtaacmbmnlhoghaaDoorKG0
import Derived.KernelRfl
set_option maxRecDepth 1000000
set_option linter.unusedVariables false
set_option linter.unusedSimpArgs false
namespace Go.Proofs.YtaacmbmnlhoghaaDoor
open Go Go.Vx
attribute [local instance] anyKeeps

attribute [local instance] anySyms
noncomputable def rg_16 : RowE := ⟨19, [va [vi 16, vi 16]], unG mk_16 3072, 43, false, 1504, 1504, [vi 0]⟩
theorem rh_16 (t : Nat → TypeId) : rowOk Tryd.prog (valOrc (fun _ => false) (tabG t) (fnAns 51 A51_16)) (tabG t) rg_16 = true := by kernel_rfl

end Go.Proofs.YtaacmbmnlhoghaaDoor
