/-
  Says: what calls answer, as the kernel runs them (level 4).
-/
import Derived.Test.YtbghfcllicfnpaaGreatDoorKr
import Derived.Test.YtbghfcllicfnpaaGreatDoorKa10
import Derived.Test.YtbghfcllicfnpaaGreatDoorKa11
import Derived.Test.YtbghfcllicfnpaaGreatDoorKa12
import Derived.Test.YtbghfcllicfnpaaGreatDoorKa15
import Derived.Test.YtbghfcllicfnpaaGreatDoorKa3
import Derived.Test.YtbghfcllicfnpaaGreatDoorKa4
import Derived.Test.YtbghfcllicfnpaaGreatDoorKa7
import Derived.Test.YtbghfcllicfnpaaGreatDoorKa8
import Derived.KernelRfl
set_option maxRecDepth 1000000
set_option linter.unusedVariables false
set_option linter.unusedSimpArgs false
namespace Go.Proofs.YtbghfcllicfnpaaGreatDoor
open Go Go.Vx
attribute [local instance] anySyms

noncomputable def d59 : List DeepE := [⟨14, [va [vi 2,vi 2,vr 0 0 5 5], va [vi 2,vi 2]], [r91], vp [vr 1 0 3 3,vi 0], [r114]⟩, ⟨36, [va [vi 2,vi 2,vr 0 0 5 5], va [vi 1,vi 1]], [r91], vr 1 0 1 1, [r115]⟩, ⟨38, [va [vi 2,vi 2], vr 0 0 3 3], [r116], vp [va [vi 2,vi 2,vr 1 0 5 5],vi 0,vi 0], [r91]⟩]
theorem d59_run (t : Nat → TypeId) : allL (deepOk Tryz.prog (deepOrc Tryz.prog (tabG t) (orcL (e10 ++ e31 ++ e41)) 295147905213712564224 (d39 ++ d44 ++ d58) noCuts) (tabG t)) d59 = true := by kernel_rfl

noncomputable def d60 : List DeepE := [⟨51, [va [vi 4,vi 4]], [], vr 0 0 88 9223372036854775808, [r117]⟩]
theorem d60_run (t : Nat → TypeId) : allL (deepOk Tryz.prog (valOrc (fun _ => false) (tabG t) (orcL (e11 ++ e12 ++ e13 ++ e14 ++ e26 ++ e27 ++ e28 ++ e29 ++ e30 ++ e40))) (tabG t)) d60 = true := by kernel_rfl

noncomputable def d61 : List DeepE := [⟨51, [va [vi 4,vi 5]], [], vr 0 0 111 9223372036854775808, [r118]⟩]
theorem d61_run (t : Nat → TypeId) : allL (deepOk Tryz.prog (valOrc (fun _ => false) (tabG t) (orcL (e11 ++ e12 ++ e13 ++ e14 ++ e26 ++ e27 ++ e28 ++ e29 ++ e30 ++ e40))) (tabG t)) d61 = true := by kernel_rfl

noncomputable def d62 : List DeepE := [⟨51, [va [vi 5,vi 4]], [], vr 0 0 111 9223372036854775808, [r119]⟩]
theorem d62_run (t : Nat → TypeId) : allL (deepOk Tryz.prog (valOrc (fun _ => false) (tabG t) (orcL (e11 ++ e12 ++ e13 ++ e14 ++ e26 ++ e27 ++ e28 ++ e29 ++ e30 ++ e31 ++ e40 ++ e41))) (tabG t)) d62 = true := by kernel_rfl

end Go.Proofs.YtbghfcllicfnpaaGreatDoor
