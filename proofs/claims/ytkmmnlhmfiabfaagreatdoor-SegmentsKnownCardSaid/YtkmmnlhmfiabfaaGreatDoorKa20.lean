/-
  Says: what calls answer, as the kernel runs them (level 4).
-/
import Derived.Test.YtkmmnlhmfiabfaaGreatDoorKr
import Derived.Test.YtkmmnlhmfiabfaaGreatDoorKa0
import Derived.Test.YtkmmnlhmfiabfaaGreatDoorKa10
import Derived.Test.YtkmmnlhmfiabfaaGreatDoorKa14
import Derived.Test.YtkmmnlhmfiabfaaGreatDoorKa15
import Derived.Test.YtkmmnlhmfiabfaaGreatDoorKa4
import Derived.Test.YtkmmnlhmfiabfaaGreatDoorKa5
import Derived.Test.YtkmmnlhmfiabfaaGreatDoorKa6
import Derived.Test.YtkmmnlhmfiabfaaGreatDoorKa7
import Derived.Test.YtkmmnlhmfiabfaaGreatDoorKa8
import Derived.Test.YtkmmnlhmfiabfaaGreatDoorKa9
import Derived.KernelRfl
set_option maxRecDepth 1000000
set_option linter.unusedVariables false
set_option linter.unusedSimpArgs false
namespace Go.Proofs.YtkmmnlhmfiabfaaGreatDoor
open Go Go.Vx
attribute [local instance] anySyms

noncomputable def d98 : List DeepE := [⟨16, [va [vi 4,vi 3,vr 0 0 30 30]], [r150], vp [vr 1 0 28 28,vi 0], [r208]⟩]
theorem d98_run (t : Nat → TypeId) : allL (deepOk Tryz.prog (deepOrc Tryz.prog (tabG t) (orcL (e0 ++ e1 ++ e22 ++ e23 ++ e33 ++ e46 ++ e48)) 1267650600228229402046459019264 (d32 ++ d44) noCuts) (tabG t)) d98 = true := by kernel_rfl

noncomputable def d99 : List DeepE := [⟨16, [va [vi 4,vi 3,vr 0 0 30 9223372036854775808]], [r8], vp [vr 1 0 28 28,vi 0], [r168]⟩, ⟨18, [va [vi 4,vi 4], vr 0 0 4 9223372036854775808], [r209], vp [va [vi 0,vi 0,vz 0 0],vi 1,vi 7], []⟩]
theorem d99_run (t : Nat → TypeId) : allL (deepOk Tryz.prog (deepOrc Tryz.prog (tabG t) (orcL (e0 ++ e1 ++ e22 ++ e23 ++ e33 ++ e46 ++ e48)) 1267650600228229402046459021312 (d32 ++ d45 ++ d70) noCuts) (tabG t)) d99 = true := by kernel_rfl

noncomputable def d100 : List DeepE := [⟨18, [va [vi 2,vi 2], vr 0 0 12 12], [r202], vp [va [vi 2,vi 2,vr 1 0 16 16],vi 0,vi 0], [r2]⟩, ⟨36, [va [vi 2,vi 1]], [], vr 0 0 9 9223372036854775808, [r210]⟩]
theorem d100_run (t : Nat → TypeId) : allL (deepOk Tryz.prog (deepOrc Tryz.prog (tabG t) (orcL (e1 ++ e3 ++ e4 ++ e24 ++ e25 ++ e33 ++ e34 ++ e37)) 18889467057378487699456 (d20 ++ d21 ++ d31 ++ d40 ++ d41 ++ d42 ++ d70 ++ d76) noCuts) (tabG t)) d100 = true := by kernel_rfl

noncomputable def d101 : List DeepE := [⟨36, [va [vi 1,vi 2]], [], vr 0 0 9 9223372036854775808, [r211]⟩, ⟨36, [va [vi 3,vi 1]], [], vr 0 0 14 9223372036854775808, [r212]⟩]
theorem d101_run (t : Nat → TypeId) : allL (deepOk Tryz.prog (deepOrc Tryz.prog (tabG t) (orcL (e3 ++ e4 ++ e24 ++ e25 ++ e33 ++ e34 ++ e35 ++ e37)) 1125899906842624 (d76 ++ d77) noCuts) (tabG t)) d101 = true := by kernel_rfl

noncomputable def d102 : List DeepE := [⟨36, [va [vi 1,vi 3]], [], vr 0 0 14 9223372036854775808, [r213]⟩]
theorem d102_run (t : Nat → TypeId) : allL (deepOk Tryz.prog (deepOrc Tryz.prog (tabG t) (orcL (e3 ++ e4 ++ e24 ++ e25 ++ e33 ++ e35)) 1125899906842624 (d76) noCuts) (tabG t)) d102 = true := by kernel_rfl

noncomputable def d103 : List DeepE := [⟨36, [va [vi 4,vi 1]], [], vr 0 0 19 9223372036854775808, [r214]⟩]
theorem d103_run (t : Nat → TypeId) : allL (deepOk Tryz.prog (deepOrc Tryz.prog (tabG t) (orcL (e3 ++ e4 ++ e24 ++ e25 ++ e26 ++ e33 ++ e34 ++ e37 ++ e38)) 1125899906842624 (d77) noCuts) (tabG t)) d103 = true := by kernel_rfl

end Go.Proofs.YtkmmnlhmfiabfaaGreatDoor
