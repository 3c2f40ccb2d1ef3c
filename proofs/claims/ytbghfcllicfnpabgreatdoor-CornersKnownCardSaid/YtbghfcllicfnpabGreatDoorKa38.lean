/-
  Says: what calls answer, as the kernel runs them (level 6).
-/
import Derived.Test.YtbghfcllicfnpabGreatDoorKr
import Derived.Test.YtbghfcllicfnpabGreatDoorKa0
import Derived.Test.YtbghfcllicfnpabGreatDoorKa12
import Derived.Test.YtbghfcllicfnpabGreatDoorKa15
import Derived.Test.YtbghfcllicfnpabGreatDoorKa2
import Derived.Test.YtbghfcllicfnpabGreatDoorKa21
import Derived.Test.YtbghfcllicfnpabGreatDoorKa24
import Derived.Test.YtbghfcllicfnpabGreatDoorKa25
import Derived.Test.YtbghfcllicfnpabGreatDoorKa28
import Derived.Test.YtbghfcllicfnpabGreatDoorKa31
import Derived.Test.YtbghfcllicfnpabGreatDoorKa8
import Derived.Test.YtbghfcllicfnpabGreatDoorKa9
import Derived.KernelRfl
set_option maxRecDepth 1000000
set_option linter.unusedVariables false
set_option linter.unusedSimpArgs false
namespace Go.Proofs.YtbghfcllicfnpabGreatDoor
open Go Go.Vx
attribute [local instance] anySyms

noncomputable def d125 : List DeepE := [⟨27, [va [vi 3,vi 4,vr 0 0 36 9223372036854775808]], [r148], vp [va [vi 3,vi 4,vr 1 0 36 36],vi 0], [r216]⟩]
theorem d125_run (t : Nat → TypeId) : allL (deepOk Tryz.prog (deepOrc Tryz.prog (tabG t) (orcL (e2 ++ e3 ++ e9 ++ e30 ++ e31 ++ e32 ++ e33 ++ e34 ++ e41 ++ e42 ++ e62 ++ e63 ++ e64 ++ e74 ++ e100)) 40564819207303340848031941525504 (d52 ++ d73 ++ d90) noCuts) (tabG t)) d125 = true := by kernel_rfl

noncomputable def d126 : List DeepE := [⟨27, [va [vi 4,vi 4,vr 0 0 41 9223372036854775808]], [r154], vp [va [vi 4,vi 4,vr 1 0 41 41],vi 0], [r220]⟩]
theorem d126_run (t : Nat → TypeId) : allL (deepOk Tryz.prog (deepOrc Tryz.prog (tabG t) (orcL (e1 ++ e2 ++ e3 ++ e30 ++ e31 ++ e32 ++ e33 ++ e34 ++ e41 ++ e62 ++ e74 ++ e101)) 40564819207303340848031941525504 (d52 ++ d73 ++ d91) noCuts) (tabG t)) d126 = true := by kernel_rfl

end Go.Proofs.YtbghfcllicfnpabGreatDoor
