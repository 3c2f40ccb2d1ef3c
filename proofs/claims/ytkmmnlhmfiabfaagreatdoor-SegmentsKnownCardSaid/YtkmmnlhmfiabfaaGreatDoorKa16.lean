/-
  Says: what calls answer, as the kernel runs them (level 3).
-/
import Derived.Test.YtkmmnlhmfiabfaaGreatDoorKr
import Derived.Test.YtkmmnlhmfiabfaaGreatDoorKa5
import Derived.Test.YtkmmnlhmfiabfaaGreatDoorKa6
import Derived.Test.YtkmmnlhmfiabfaaGreatDoorKa7
import Derived.Test.YtkmmnlhmfiabfaaGreatDoorKa8
import Derived.KernelRfl
set_option maxRecDepth 1000000
set_option linter.unusedVariables false
set_option linter.unusedSimpArgs false
namespace Go.Proofs.YtkmmnlhmfiabfaaGreatDoor
open Go Go.Vx
attribute [local instance] anySyms

noncomputable def d78 : List DeepE := [⟨50, [va [vi 2,vi 2]], [], vr 0 0 20 9223372036854775808, [r180]⟩, ⟨50, [va [vi 5,vi 1]], [], vr 0 0 24 9223372036854775808, [r181]⟩]
theorem d78_run (t : Nat → TypeId) : allL (deepOk Tryz.prog (valOrc (fun _ => false) (tabG t) (orcL (e26 ++ e27 ++ e28 ++ e29 ++ e33 ++ e34 ++ e35 ++ e36 ++ e37 ++ e38))) (tabG t)) d78 = true := by kernel_rfl

noncomputable def d79 : List DeepE := [⟨50, [va [vi 2,vi 3]], [], vr 0 0 31 9223372036854775808, [r182]⟩]
theorem d79_run (t : Nat → TypeId) : allL (deepOk Tryz.prog (valOrc (fun _ => false) (tabG t) (orcL (e26 ++ e27 ++ e28 ++ e33 ++ e34 ++ e35 ++ e36 ++ e37 ++ e38))) (tabG t)) d79 = true := by kernel_rfl

noncomputable def d80 : List DeepE := [⟨50, [va [vi 3,vi 2]], [], vr 0 0 31 9223372036854775808, [r183]⟩]
theorem d80_run (t : Nat → TypeId) : allL (deepOk Tryz.prog (valOrc (fun _ => false) (tabG t) (orcL (e26 ++ e27 ++ e28 ++ e33 ++ e34 ++ e35 ++ e36 ++ e37 ++ e38))) (tabG t)) d80 = true := by kernel_rfl

noncomputable def d81 : List DeepE := [⟨50, [va [vi 2,vi 4]], [], vr 0 0 42 9223372036854775808, [r184]⟩]
theorem d81_run (t : Nat → TypeId) : allL (deepOk Tryz.prog (valOrc (fun _ => false) (tabG t) (orcL (e26 ++ e27 ++ e28 ++ e33 ++ e34 ++ e35 ++ e36 ++ e37 ++ e38))) (tabG t)) d81 = true := by kernel_rfl

noncomputable def d82 : List DeepE := [⟨50, [va [vi 4,vi 2]], [], vr 0 0 42 9223372036854775808, [r185]⟩]
theorem d82_run (t : Nat → TypeId) : allL (deepOk Tryz.prog (valOrc (fun _ => false) (tabG t) (orcL (e26 ++ e27 ++ e28 ++ e33 ++ e34 ++ e35 ++ e36 ++ e37 ++ e38))) (tabG t)) d82 = true := by kernel_rfl

noncomputable def d83 : List DeepE := [⟨50, [va [vi 3,vi 3]], [], vr 0 0 48 9223372036854775808, [r186]⟩]
theorem d83_run (t : Nat → TypeId) : allL (deepOk Tryz.prog (valOrc (fun _ => false) (tabG t) (orcL (e26 ++ e27 ++ e28 ++ e33 ++ e34 ++ e35 ++ e36 ++ e37 ++ e38))) (tabG t)) d83 = true := by kernel_rfl

end Go.Proofs.YtkmmnlhmfiabfaaGreatDoor
