/-
  Says: what calls answer, as the kernel runs them (level 5).
-/
import Derived.Test.YtkmmnlhmfiabfaaGreatDoorKr
import Derived.Test.YtkmmnlhmfiabfaaGreatDoorKa0
import Derived.Test.YtkmmnlhmfiabfaaGreatDoorKa1
import Derived.Test.YtkmmnlhmfiabfaaGreatDoorKa10
import Derived.Test.YtkmmnlhmfiabfaaGreatDoorKa11
import Derived.Test.YtkmmnlhmfiabfaaGreatDoorKa12
import Derived.Test.YtkmmnlhmfiabfaaGreatDoorKa2
import Derived.Test.YtkmmnlhmfiabfaaGreatDoorKa21
import Derived.Test.YtkmmnlhmfiabfaaGreatDoorKa22
import Derived.Test.YtkmmnlhmfiabfaaGreatDoorKa23
import Derived.Test.YtkmmnlhmfiabfaaGreatDoorKa3
import Derived.Test.YtkmmnlhmfiabfaaGreatDoorKa4
import Derived.Test.YtkmmnlhmfiabfaaGreatDoorKa5
import Derived.Test.YtkmmnlhmfiabfaaGreatDoorKa7
import Derived.Test.YtkmmnlhmfiabfaaGreatDoorKa8
import Derived.KernelRfl
set_option maxRecDepth 1000000
set_option linter.unusedVariables false
set_option linter.unusedSimpArgs false
namespace Go.Proofs.YtkmmnlhmfiabfaaGreatDoor
open Go Go.Vx
attribute [local instance] anySyms

noncomputable def a129_0 : List DeepE := (qAll [-3, -2, -1, 0, 1, 2, 3, 4, 5, 6] 13).map fun x => atE 135 9223372036854775808 l13 (liesC l13) 48 x.1 x.2.1 x.2.2
noncomputable def d129 : List DeepE := [⟨17, [va [vi 3,vi 3,vr 0 0 29 9223372036854775808]], [r6], vr 1 0 22 9223372036854775808, [r167]⟩]
theorem d129_run (t : Nat → TypeId) : allL (deepOk Tryz.prog (deepOrc Tryz.prog (tabG t) (orcL ([])) 35390530519040 (d8 ++ d9 ++ d10 ++ d11 ++ d12 ++ d14 ++ d15 ++ d16 ++ d17 ++ d111 ++ a129_0) noCuts) (tabG t)) d129 = true := by kernel_rfl

noncomputable def a130_0 : List DeepE := (qAll [-4, -3, -2, -1, 0, 1, 2, 3, 4, 5, 6] 13).map fun x => atE 135 9223372036854775808 l14 (liesC l14) 42 x.1 x.2.1 x.2.2
noncomputable def d130 : List DeepE := [⟨17, [va [vi 4,vi 2,vr 0 0 19 9223372036854775808]], [r5], vr 1 0 17 9223372036854775808, [r166]⟩]
theorem d130_run (t : Nat → TypeId) : allL (deepOk Tryz.prog (deepOrc Tryz.prog (tabG t) (orcL ([])) 35390530519040 (d8 ++ d9 ++ d10 ++ d11 ++ d12 ++ d13 ++ d14 ++ d109 ++ a130_0) noCuts) (tabG t)) d130 = true := by kernel_rfl

noncomputable def d131 : List DeepE := [⟨36, [va [vi 5,vi 3]], [], vr 0 0 82 9223372036854775808, [r236]⟩]
theorem d131_run (t : Nat → TypeId) : allL (deepOk Tryz.prog (deepOrc Tryz.prog (tabG t) (orcL (e4 ++ e24 ++ e25 ++ e26 ++ e34 ++ e57 ++ e58 ++ e59)) 4612811918334230528 (d20 ++ d113) noCuts) (tabG t)) d131 = true := by kernel_rfl

noncomputable def d132 : List DeepE := [⟨36, [va [vi 3,vi 4]], [], vr 0 0 65 9223372036854775808, [r237]⟩]
theorem d132_run (t : Nat → TypeId) : allL (deepOk Tryz.prog (deepOrc Tryz.prog (tabG t) (orcL (e3 ++ e4 ++ e24 ++ e25 ++ e26 ++ e33 ++ e34 ++ e38 ++ e50 ++ e51 ++ e52)) 4612811918334230528 (d20 ++ d117) noCuts) (tabG t)) d132 = true := by kernel_rfl

end Go.Proofs.YtkmmnlhmfiabfaaGreatDoor
