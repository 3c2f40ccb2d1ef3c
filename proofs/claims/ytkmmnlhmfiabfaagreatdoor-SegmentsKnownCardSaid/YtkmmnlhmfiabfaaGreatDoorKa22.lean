/-
  Says: what calls answer, as the kernel runs them (level 4).
-/
import Derived.Test.YtkmmnlhmfiabfaaGreatDoorKr
import Derived.Test.YtkmmnlhmfiabfaaGreatDoorKa0
import Derived.Test.YtkmmnlhmfiabfaaGreatDoorKa10
import Derived.Test.YtkmmnlhmfiabfaaGreatDoorKa12
import Derived.Test.YtkmmnlhmfiabfaaGreatDoorKa13
import Derived.Test.YtkmmnlhmfiabfaaGreatDoorKa14
import Derived.Test.YtkmmnlhmfiabfaaGreatDoorKa16
import Derived.Test.YtkmmnlhmfiabfaaGreatDoorKa17
import Derived.Test.YtkmmnlhmfiabfaaGreatDoorKa4
import Derived.Test.YtkmmnlhmfiabfaaGreatDoorKa5
import Derived.Test.YtkmmnlhmfiabfaaGreatDoorKa6
import Derived.Test.YtkmmnlhmfiabfaaGreatDoorKa7
import Derived.Test.YtkmmnlhmfiabfaaGreatDoorKa8
import Derived.KernelRfl
set_option maxRecDepth 1000000
set_option linter.unusedVariables false
set_option linter.unusedSimpArgs false
namespace Go.Proofs.YtkmmnlhmfiabfaaGreatDoor
open Go Go.Vx
attribute [local instance] anySyms

noncomputable def d110 : List DeepE := [⟨36, [va [vi 2,vi 4]], [], vr 0 0 42 9223372036854775808, [r221]⟩]
theorem d110_run (t : Nat → TypeId) : allL (deepOk Tryz.prog (deepOrc Tryz.prog (tabG t) (orcL (e3 ++ e4 ++ e24 ++ e25 ++ e33 ++ e34 ++ e35 ++ e37 ++ e49)) 1125899906842624 (d81) noCuts) (tabG t)) d110 = true := by kernel_rfl

noncomputable def d111 : List DeepE := [⟨36, [va [vi 3,vi 3]], [], vr 0 0 48 9223372036854775808, [r222]⟩]
theorem d111_run (t : Nat → TypeId) : allL (deepOk Tryz.prog (deepOrc Tryz.prog (tabG t) (orcL (e3 ++ e4 ++ e24 ++ e25 ++ e33 ++ e34 ++ e35 ++ e37 ++ e38 ++ e50)) 1125899906842624 (d83) noCuts) (tabG t)) d111 = true := by kernel_rfl

noncomputable def d112 : List DeepE := [⟨36, [va [vi 5,vi 2]], [], vr 0 0 53 9223372036854775808, [r223]⟩]
theorem d112_run (t : Nat → TypeId) : allL (deepOk Tryz.prog (deepOrc Tryz.prog (tabG t) (orcL (e3 ++ e4 ++ e24 ++ e25 ++ e26 ++ e34 ++ e38 ++ e56 ++ e57)) 4612811918334230528 (d20 ++ d84) noCuts) (tabG t)) d112 = true := by kernel_rfl

noncomputable def d113 : List DeepE := [⟨50, [va [vi 5,vi 3]], [], vr 0 0 82 9223372036854775808, [r224]⟩]
theorem d113_run (t : Nat → TypeId) : allL (deepOk Tryz.prog (valOrc (fun _ => false) (tabG t) (orcL (e26 ++ e27 ++ e28 ++ e29 ++ e33 ++ e34 ++ e35 ++ e36 ++ e37 ++ e38 ++ e66 ++ e67))) (tabG t)) d113 = true := by kernel_rfl

noncomputable def d114 : List DeepE := [⟨50, [va [vi 5,vi 5]], [], vr 0 0 140 9223372036854775808, [r225]⟩]
theorem d114_run (t : Nat → TypeId) : allL (deepOk Tryz.prog (valOrc (fun _ => false) (tabG t) (orcL (e27 ++ e28 ++ e29 ++ e33 ++ e34 ++ e35 ++ e37 ++ e38 ++ e65 ++ e68 ++ e69))) (tabG t)) d114 = true := by kernel_rfl

end Go.Proofs.YtkmmnlhmfiabfaaGreatDoor
