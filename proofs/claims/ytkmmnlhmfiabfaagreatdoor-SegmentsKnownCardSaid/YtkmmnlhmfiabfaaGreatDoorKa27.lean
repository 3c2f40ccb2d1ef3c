/-
  Says: what calls answer, as the kernel runs them (level 5).
-/
import Derived.Test.YtkmmnlhmfiabfaaGreatDoorKr
import Derived.Test.YtkmmnlhmfiabfaaGreatDoorKa0
import Derived.Test.YtkmmnlhmfiabfaaGreatDoorKa11
import Derived.Test.YtkmmnlhmfiabfaaGreatDoorKa12
import Derived.Test.YtkmmnlhmfiabfaaGreatDoorKa13
import Derived.Test.YtkmmnlhmfiabfaaGreatDoorKa22
import Derived.Test.YtkmmnlhmfiabfaaGreatDoorKa23
import Derived.Test.YtkmmnlhmfiabfaaGreatDoorKa4
import Derived.Test.YtkmmnlhmfiabfaaGreatDoorKa5
import Derived.Test.YtkmmnlhmfiabfaaGreatDoorKa7
import Derived.Test.YtkmmnlhmfiabfaaGreatDoorKa8
import Derived.KernelRfl
set_option maxRecDepth 1000000
set_option linter.unusedVariables false
set_option linter.unusedSimpArgs false
namespace Go.Proofs.YtkmmnlhmfiabfaaGreatDoor
open Go Go.Vx
attribute [local instance] anySyms

noncomputable def d133 : List DeepE := [⟨36, [va [vi 4,vi 3]], [], vr 0 0 65 9223372036854775808, [r238]⟩]
theorem d133_run (t : Nat → TypeId) : allL (deepOk Tryz.prog (deepOrc Tryz.prog (tabG t) (orcL (e3 ++ e4 ++ e24 ++ e25 ++ e26 ++ e34 ++ e38 ++ e52 ++ e53 ++ e54)) 4612811918334230528 (d20 ++ d118) noCuts) (tabG t)) d133 = true := by kernel_rfl

noncomputable def d134 : List DeepE := [⟨36, [va [vi 4,vi 4]], [], vr 0 0 88 9223372036854775808, [r239]⟩]
theorem d134_run (t : Nat → TypeId) : allL (deepOk Tryz.prog (deepOrc Tryz.prog (tabG t) (orcL (e4 ++ e24 ++ e25 ++ e26 ++ e34 ++ e54 ++ e55 ++ e56)) 4612811918334230528 (d20 ++ d116) noCuts) (tabG t)) d134 = true := by kernel_rfl

noncomputable def d135 : List DeepE := [⟨36, [va [vi 5,vi 4]], [], vr 0 0 111 9223372036854775808, [r240]⟩]
theorem d135_run (t : Nat → TypeId) : allL (deepOk Tryz.prog (deepOrc Tryz.prog (tabG t) (orcL (e24 ++ e25 ++ e26 ++ e59 ++ e60 ++ e61 ++ e62)) 4612811918334230528 (d20 ++ d115) noCuts) (tabG t)) d135 = true := by kernel_rfl

noncomputable def d136 : List DeepE := [⟨36, [va [vi 5,vi 5]], [], vr 0 0 140 9223372036854775808, [r241]⟩]
theorem d136_run (t : Nat → TypeId) : allL (deepOk Tryz.prog (deepOrc Tryz.prog (tabG t) (orcL (e24 ++ e25 ++ e26 ++ e62 ++ e63 ++ e64 ++ e65)) 4612811918334230528 (d20 ++ d114) noCuts) (tabG t)) d136 = true := by kernel_rfl

end Go.Proofs.YtkmmnlhmfiabfaaGreatDoor
