/-
  Says: what calls answer, as the kernel runs them (level 3).
-/
import Derived.Test.YtbghfcllicfnpaaGreatDoorKr
import Derived.Test.YtbghfcllicfnpaaGreatDoorKa0
import Derived.Test.YtbghfcllicfnpaaGreatDoorKa1
import Derived.Test.YtbghfcllicfnpaaGreatDoorKa3
import Derived.Test.YtbghfcllicfnpaaGreatDoorKa4
import Derived.Test.YtbghfcllicfnpaaGreatDoorKa7
import Derived.Test.YtbghfcllicfnpaaGreatDoorKa8
import Derived.KernelRfl
set_option maxRecDepth 1000000
set_option linter.unusedVariables false
set_option linter.unusedSimpArgs false
namespace Go.Proofs.YtbghfcllicfnpaaGreatDoor
open Go Go.Vx
attribute [local instance] anySyms

noncomputable def d44 : List DeepE := [⟨13, [va [vi 5,vi 5], va [vi 2,vi 6]], [], vp [vr 0 0 8 8,vi 0], [r82]⟩, ⟨13, [va [vi 5,vi 5], va [vi 2,vi 8]], [], vp [vr 0 0 8 8,vi 0], [r86]⟩, ⟨13, [va [vi 5,vi 5], va [vi 4,vi 6]], [], vp [vr 0 0 8 8,vi 0], [r83]⟩, ⟨13, [va [vi 5,vi 5], va [vi 4,vi 8]], [], vp [vr 0 0 8 8,vi 0], [r87]⟩, ⟨13, [va [vi 5,vi 5], va [vi 6,vi 6]], [], vp [vr 0 0 8 8,vi 0], [r84]⟩, ⟨13, [va [vi 5,vi 5], va [vi 6,vi 8]], [], vp [vr 0 0 8 8,vi 0], [r88]⟩, ⟨13, [va [vi 5,vi 5], va [vi 8,vi 6]], [], vp [vr 0 0 8 8,vi 0], [r85]⟩, ⟨13, [va [vi 5,vi 5], va [vi 9,vi 9]], [], vp [vr 0 0 4 4,vi 0], [r89]⟩, ⟨13, [va [vi 5,vi 5], va [vi 8,vi 8]], [], vp [vr 0 0 8 8,vi 0], [r90]⟩, ⟨35, [va [vi 2,vi 2,vr 0 0 5 5]], [r91], vi 0, []⟩, ⟨51, [va [vi 1,vi 1]], [], vr 0 0 4 9223372036854775808, [r92]⟩, ⟨51, [va [vi 1,vi 2]], [], vr 0 0 9 9223372036854775808, [r93]⟩]
theorem d44_run (t : Nat → TypeId) : allL (deepOk Tryz.prog (valOrc (fun _ => false) (tabG t) (orcL (e3 ++ e4 ++ e5 ++ e6 ++ e10 ++ e11 ++ e12 ++ e13 ++ e14 ++ e15 ++ e26 ++ e27 ++ e31))) (tabG t)) d44 = true := by kernel_rfl

noncomputable def d45 : List DeepE := [⟨51, [va [vi 2,vi 1]], [], vr 0 0 9 9223372036854775808, [r94]⟩, ⟨51, [va [vi 1,vi 3]], [], vr 0 0 14 9223372036854775808, [r95]⟩, ⟨51, [va [vi 3,vi 1]], [], vr 0 0 14 9223372036854775808, [r96]⟩, ⟨51, [va [vi 1,vi 4]], [], vr 0 0 19 9223372036854775808, [r97]⟩]
theorem d45_run (t : Nat → TypeId) : allL (deepOk Tryz.prog (valOrc (fun _ => false) (tabG t) (orcL (e11 ++ e12 ++ e13 ++ e14 ++ e27 ++ e28 ++ e29))) (tabG t)) d45 = true := by kernel_rfl

noncomputable def d46 : List DeepE := [⟨51, [va [vi 4,vi 1]], [], vr 0 0 19 9223372036854775808, [r98]⟩, ⟨51, [va [vi 2,vi 2]], [], vr 0 0 20 9223372036854775808, [r99]⟩]
theorem d46_run (t : Nat → TypeId) : allL (deepOk Tryz.prog (valOrc (fun _ => false) (tabG t) (orcL (e11 ++ e12 ++ e13 ++ e14 ++ e27 ++ e28 ++ e29))) (tabG t)) d46 = true := by kernel_rfl

noncomputable def d47 : List DeepE := [⟨51, [va [vi 1,vi 5]], [], vr 0 0 24 9223372036854775808, [r100]⟩, ⟨51, [va [vi 5,vi 1]], [], vr 0 0 24 9223372036854775808, [r101]⟩]
theorem d47_run (t : Nat → TypeId) : allL (deepOk Tryz.prog (valOrc (fun _ => false) (tabG t) (orcL (e11 ++ e12 ++ e13 ++ e14 ++ e27 ++ e28 ++ e29 ++ e30))) (tabG t)) d47 = true := by kernel_rfl

end Go.Proofs.YtbghfcllicfnpaaGreatDoor
