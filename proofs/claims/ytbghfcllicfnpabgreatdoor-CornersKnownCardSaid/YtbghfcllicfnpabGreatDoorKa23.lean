/-
  Says: what calls answer, as the kernel runs them (level 3).
-/
import Derived.Test.YtbghfcllicfnpabGreatDoorKr
import Derived.Test.YtbghfcllicfnpabGreatDoorKa0
import Derived.Test.YtbghfcllicfnpabGreatDoorKa1
import Derived.Test.YtbghfcllicfnpabGreatDoorKa10
import Derived.Test.YtbghfcllicfnpabGreatDoorKa11
import Derived.Test.YtbghfcllicfnpabGreatDoorKa12
import Derived.Test.YtbghfcllicfnpabGreatDoorKa14
import Derived.Test.YtbghfcllicfnpabGreatDoorKa15
import Derived.Test.YtbghfcllicfnpabGreatDoorKa2
import Derived.Test.YtbghfcllicfnpabGreatDoorKa8
import Derived.Test.YtbghfcllicfnpabGreatDoorKa9
import Derived.KernelRfl
set_option maxRecDepth 1000000
set_option linter.unusedVariables false
set_option linter.unusedSimpArgs false
namespace Go.Proofs.YtbghfcllicfnpabGreatDoor
open Go Go.Vx
attribute [local instance] anySyms

noncomputable def d69 : List DeepE := [⟨16, [va [vi 4,vi 2,vr 0 0 35 35], va [vi 6,vi 2]], [r115], vp [vr 1 0 7 7,vi 0], [r116]⟩, ⟨27, [va [vi 1,vi 1,vr 0 0 2 9223372036854775808]], [r50], vp [va [vi 1,vi 1,vr 1 0 2 2],vi 0], [r72]⟩, ⟨27, [va [vi 1,vi 1,vr 0 0 3 9223372036854775808]], [r51], vp [va [vi 1,vi 1,vr 1 0 3 3],vi 0], [r117]⟩, ⟨27, [va [vi 2,vi 1,vr 0 0 4 9223372036854775808]], [r53], vp [va [vi 2,vi 1,vr 1 0 4 4],vi 0], [r52]⟩, ⟨27, [va [vi 1,vi 2,vr 0 0 8 9223372036854775808]], [r56], vp [va [vi 1,vi 2,vr 1 0 8 8],vi 0], [r55]⟩]
theorem d69_run (t : Nat → TypeId) : allL (deepOk Tryz.prog (deepOrc Tryz.prog (tabG t) (orcL (e0 ++ e2 ++ e3 ++ e4 ++ e6 ++ e9 ++ e30 ++ e31 ++ e32 ++ e33 ++ e34 ++ e35 ++ e40 ++ e41 ++ e42)) 137438953472 (d50 ++ d51) noCuts) (tabG t)) d69 = true := by kernel_rfl

noncomputable def d70 : List DeepE := [⟨27, [va [vi 3,vi 1,vr 0 0 11 9223372036854775808]], [r61], vp [va [vi 3,vi 1,vr 1 0 11 11],vi 0], [r59]⟩, ⟨27, [va [vi 3,vi 1,vr 0 0 11 9223372036854775808]], [r62], vp [va [vi 3,vi 1,vr 1 0 11 11],vi 0], [r60]⟩]
theorem d70_run (t : Nat → TypeId) : allL (deepOk Tryz.prog (deepOrc Tryz.prog (tabG t) (orcL (e0 ++ e1 ++ e2 ++ e3 ++ e4 ++ e6 ++ e7 ++ e30 ++ e31 ++ e32 ++ e33 ++ e34 ++ e35 ++ e40 ++ e41)) 137438953472 (d51) noCuts) (tabG t)) d70 = true := by kernel_rfl

noncomputable def d71 : List DeepE := [⟨27, [va [vi 2,vi 2,vr 0 0 17 9223372036854775808]], [r64], vp [va [vi 2,vi 2,vr 1 0 17 17],vi 0], [r63]⟩, ⟨37, [va [vi 3,vi 3,vr 0 0 35 9223372036854775808]], [r118], vi 0, []⟩, ⟨38, [va [vi 1,vi 1,vr 0 0 3 3], va [vi 1,vi 1]], [r117], vr 1 0 3 3, [r119]⟩, ⟨38, [va [vi 3,vi 1,vr 0 0 11 11], va [vi 1,vi 1]], [r60], vr 1 0 3 3, [r95]⟩, ⟨38, [va [vi 3,vi 1,vr 0 0 11 11], va [vi 1,vi 1]], [r59], vr 1 0 3 3, [r120]⟩, ⟨38, [va [vi 1,vi 2,vr 0 0 8 8], va [vi 1,vi 1]], [r55], vr 1 0 3 3, [r121]⟩]
theorem d71_run (t : Nat → TypeId) : allL (deepOk Tryz.prog (deepOrc Tryz.prog (tabG t) (orcL (e0 ++ e2 ++ e3 ++ e4 ++ e6 ++ e7 ++ e30 ++ e32 ++ e33 ++ e34 ++ e35 ++ e41 ++ e42 ++ e43)) 137438953472 (d51) noCuts) (tabG t)) d71 = true := by kernel_rfl

noncomputable def d72 : List DeepE := [⟨38, [va [vi 2,vi 2,vr 0 0 17 17], va [vi 3,vi 1]], [r63], vr 1 0 4 4, [r122]⟩, ⟨52, [va [vi 2,vi 4]], [], vr 0 0 42 9223372036854775808, [r123]⟩]
theorem d72_run (t : Nat → TypeId) : allL (deepOk Tryz.prog (valOrc (fun _ => false) (tabG t) (orcL (e3 ++ e4 ++ e5 ++ e28 ++ e29 ++ e30 ++ e35 ++ e38 ++ e39 ++ e41))) (tabG t)) d72 = true := by kernel_rfl

end Go.Proofs.YtbghfcllicfnpabGreatDoor
