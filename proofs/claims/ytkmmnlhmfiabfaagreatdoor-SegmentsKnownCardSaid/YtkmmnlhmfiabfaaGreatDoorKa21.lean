/-
  Says: what calls answer, as the kernel runs them (level 4).
-/
import Derived.Test.YtkmmnlhmfiabfaaGreatDoorKr
import Derived.Test.YtkmmnlhmfiabfaaGreatDoorKa0
import Derived.Test.YtkmmnlhmfiabfaaGreatDoorKa10
import Derived.Test.YtkmmnlhmfiabfaaGreatDoorKa11
import Derived.Test.YtkmmnlhmfiabfaaGreatDoorKa15
import Derived.Test.YtkmmnlhmfiabfaaGreatDoorKa16
import Derived.Test.YtkmmnlhmfiabfaaGreatDoorKa5
import Derived.Test.YtkmmnlhmfiabfaaGreatDoorKa7
import Derived.Test.YtkmmnlhmfiabfaaGreatDoorKa8
import Derived.KernelRfl
set_option maxRecDepth 1000000
set_option linter.unusedVariables false
set_option linter.unusedSimpArgs false
namespace Go.Proofs.YtkmmnlhmfiabfaaGreatDoor
open Go Go.Vx
attribute [local instance] anySyms

noncomputable def d104 : List DeepE := [⟨36, [va [vi 1,vi 4]], [], vr 0 0 19 9223372036854775808, [r215]⟩]
theorem d104_run (t : Nat → TypeId) : allL (deepOk Tryz.prog (deepOrc Tryz.prog (tabG t) (orcL (e3 ++ e4 ++ e24 ++ e25 ++ e33 ++ e35)) 1125899906842624 (d77) noCuts) (tabG t)) d104 = true := by kernel_rfl

noncomputable def d105 : List DeepE := [⟨36, [va [vi 2,vi 2]], [], vr 0 0 20 9223372036854775808, [r216]⟩]
theorem d105_run (t : Nat → TypeId) : allL (deepOk Tryz.prog (deepOrc Tryz.prog (tabG t) (orcL (e3 ++ e4 ++ e24 ++ e25 ++ e33 ++ e34 ++ e35 ++ e37)) 1125899906842624 (d78) noCuts) (tabG t)) d105 = true := by kernel_rfl

noncomputable def d106 : List DeepE := [⟨36, [va [vi 3,vi 2]], [], vr 0 0 31 9223372036854775808, [r217]⟩]
theorem d106_run (t : Nat → TypeId) : allL (deepOk Tryz.prog (deepOrc Tryz.prog (tabG t) (orcL (e3 ++ e4 ++ e24 ++ e25 ++ e33 ++ e34 ++ e35 ++ e37 ++ e38 ++ e49 ++ e50)) 1125899906842624 (d80) noCuts) (tabG t)) d106 = true := by kernel_rfl

noncomputable def d107 : List DeepE := [⟨36, [va [vi 2,vi 3]], [], vr 0 0 31 9223372036854775808, [r218]⟩]
theorem d107_run (t : Nat → TypeId) : allL (deepOk Tryz.prog (deepOrc Tryz.prog (tabG t) (orcL (e3 ++ e4 ++ e24 ++ e25 ++ e33 ++ e34 ++ e35 ++ e37 ++ e48 ++ e49)) 1125899906842624 (d79) noCuts) (tabG t)) d107 = true := by kernel_rfl

noncomputable def d108 : List DeepE := [⟨36, [va [vi 5,vi 1]], [], vr 0 0 24 9223372036854775808, [r219]⟩]
theorem d108_run (t : Nat → TypeId) : allL (deepOk Tryz.prog (deepOrc Tryz.prog (tabG t) (orcL (e3 ++ e4 ++ e24 ++ e25 ++ e26 ++ e33 ++ e34 ++ e37 ++ e38)) 1125899906842624 (d78) noCuts) (tabG t)) d108 = true := by kernel_rfl

noncomputable def d109 : List DeepE := [⟨36, [va [vi 4,vi 2]], [], vr 0 0 42 9223372036854775808, [r220]⟩]
theorem d109_run (t : Nat → TypeId) : allL (deepOk Tryz.prog (deepOrc Tryz.prog (tabG t) (orcL (e3 ++ e4 ++ e24 ++ e25 ++ e26 ++ e33 ++ e34 ++ e37 ++ e38 ++ e52)) 1125899906842624 (d82) noCuts) (tabG t)) d109 = true := by kernel_rfl

end Go.Proofs.YtkmmnlhmfiabfaaGreatDoor
