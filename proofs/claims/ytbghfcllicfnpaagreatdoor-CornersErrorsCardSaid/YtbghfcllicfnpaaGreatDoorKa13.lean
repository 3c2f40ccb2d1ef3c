/-
  Says: what calls answer, as the kernel runs them (level 3).
-/
import Derived.Test.YtbghfcllicfnpaaGreatDoorKr
import Derived.Test.YtbghfcllicfnpaaGreatDoorKa3
import Derived.Test.YtbghfcllicfnpaaGreatDoorKa4
import Derived.Test.YtbghfcllicfnpaaGreatDoorKa7
import Derived.Test.YtbghfcllicfnpaaGreatDoorKa8
import Derived.KernelRfl
set_option maxRecDepth 1000000
set_option linter.unusedVariables false
set_option linter.unusedSimpArgs false
namespace Go.Proofs.YtbghfcllicfnpaaGreatDoor
open Go Go.Vx
attribute [local instance] anySyms

noncomputable def d48 : List DeepE := [⟨51, [va [vi 2,vi 3]], [], vr 0 0 31 9223372036854775808, [r102]⟩, ⟨51, [va [vi 3,vi 2]], [], vr 0 0 31 9223372036854775808, [r103]⟩]
theorem d48_run (t : Nat → TypeId) : allL (deepOk Tryz.prog (valOrc (fun _ => false) (tabG t) (orcL (e11 ++ e12 ++ e13 ++ e14 ++ e27 ++ e28 ++ e29))) (tabG t)) d48 = true := by kernel_rfl

noncomputable def d49 : List DeepE := [⟨51, [va [vi 2,vi 4]], [], vr 0 0 42 9223372036854775808, [r104]⟩]
theorem d49_run (t : Nat → TypeId) : allL (deepOk Tryz.prog (valOrc (fun _ => false) (tabG t) (orcL (e11 ++ e12 ++ e13 ++ e14 ++ e27 ++ e28))) (tabG t)) d49 = true := by kernel_rfl

noncomputable def d50 : List DeepE := [⟨51, [va [vi 4,vi 2]], [], vr 0 0 42 9223372036854775808, [r105]⟩]
theorem d50_run (t : Nat → TypeId) : allL (deepOk Tryz.prog (valOrc (fun _ => false) (tabG t) (orcL (e11 ++ e12 ++ e13 ++ e14 ++ e27 ++ e28 ++ e29 ++ e30))) (tabG t)) d50 = true := by kernel_rfl

noncomputable def d51 : List DeepE := [⟨51, [va [vi 3,vi 3]], [], vr 0 0 48 9223372036854775808, [r106]⟩]
theorem d51_run (t : Nat → TypeId) : allL (deepOk Tryz.prog (valOrc (fun _ => false) (tabG t) (orcL (e11 ++ e12 ++ e13 ++ e14 ++ e27 ++ e28 ++ e29))) (tabG t)) d51 = true := by kernel_rfl

noncomputable def d52 : List DeepE := [⟨51, [va [vi 2,vi 5]], [], vr 0 0 53 9223372036854775808, [r107]⟩]
theorem d52_run (t : Nat → TypeId) : allL (deepOk Tryz.prog (valOrc (fun _ => false) (tabG t) (orcL (e11 ++ e12 ++ e13 ++ e14 ++ e27 ++ e28))) (tabG t)) d52 = true := by kernel_rfl

end Go.Proofs.YtbghfcllicfnpaaGreatDoor
