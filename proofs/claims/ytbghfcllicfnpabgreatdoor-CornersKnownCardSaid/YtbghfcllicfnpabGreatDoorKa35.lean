/-
  Says: what calls answer, as the kernel runs them (level 5).
-/
import Derived.Test.YtbghfcllicfnpabGreatDoorKr
import Derived.Test.YtbghfcllicfnpabGreatDoorKa0
import Derived.Test.YtbghfcllicfnpabGreatDoorKa1
import Derived.Test.YtbghfcllicfnpabGreatDoorKa10
import Derived.Test.YtbghfcllicfnpabGreatDoorKa12
import Derived.Test.YtbghfcllicfnpabGreatDoorKa15
import Derived.Test.YtbghfcllicfnpabGreatDoorKa2
import Derived.Test.YtbghfcllicfnpabGreatDoorKa21
import Derived.Test.YtbghfcllicfnpabGreatDoorKa23
import Derived.Test.YtbghfcllicfnpabGreatDoorKa24
import Derived.Test.YtbghfcllicfnpabGreatDoorKa25
import Derived.Test.YtbghfcllicfnpabGreatDoorKa28
import Derived.Test.YtbghfcllicfnpabGreatDoorKa8
import Derived.Test.YtbghfcllicfnpabGreatDoorKa9
import Derived.KernelRfl
set_option maxRecDepth 1000000
set_option linter.unusedVariables false
set_option linter.unusedSimpArgs false
namespace Go.Proofs.YtbghfcllicfnpabGreatDoor
open Go Go.Vx
attribute [local instance] anySyms

noncomputable def d114 : List DeepE := [⟨27, [va [vi 3,vi 3,vr 0 0 35 9223372036854775808]], [r118], vp [va [vi 3,vi 3,vr 1 0 35 35],vi 0], [r143]⟩]
theorem d114_run (t : Nat → TypeId) : allL (deepOk Tryz.prog (deepOrc Tryz.prog (tabG t) (orcL (e1 ++ e2 ++ e3 ++ e30 ++ e31 ++ e32 ++ e33 ++ e34 ++ e35 ++ e40 ++ e41 ++ e43 ++ e62 ++ e74)) 40564819207303340848031941525504 (d52 ++ d71 ++ d73) noCuts) (tabG t)) d114 = true := by kernel_rfl

noncomputable def d115 : List DeepE := [⟨27, [va [vi 4,vi 3,vr 0 0 36 9223372036854775808]], [r151], vp [va [vi 4,vi 3,vr 1 0 36 36],vi 0], [r218]⟩]
theorem d115_run (t : Nat → TypeId) : allL (deepOk Tryz.prog (deepOrc Tryz.prog (tabG t) (orcL (e2 ++ e3 ++ e6 ++ e7 ++ e9 ++ e30 ++ e31 ++ e32 ++ e33 ++ e34 ++ e41 ++ e42 ++ e43 ++ e62 ++ e63 ++ e64 ++ e74)) 40564819207303340848031941525504 (d52 ++ d73 ++ d90) noCuts) (tabG t)) d115 = true := by kernel_rfl

noncomputable def d116 : List DeepE := [⟨38, [va [vi 3,vi 4,vr 0 0 36 9223372036854775808], va [vi 1,vi 7]], [r148], vz 0 0, []⟩, ⟨38, [va [vi 3,vi 4,vr 0 0 36 9223372036854775808], va [vi 3,vi 7]], [r148], vz 0 0, []⟩, ⟨38, [va [vi 3,vi 4,vr 0 0 36 9223372036854775808], va [vi 5,vi 7]], [r148], vz 0 0, []⟩, ⟨38, [va [vi 4,vi 3,vr 0 0 36 9223372036854775808], va [vi 3,vi 5]], [r151], vz 0 0, []⟩, ⟨38, [va [vi 4,vi 3,vr 0 0 36 9223372036854775808], va [vi 5,vi 5]], [r151], vz 0 0, []⟩, ⟨38, [va [vi 4,vi 3,vr 0 0 36 9223372036854775808], va [vi 7,vi 5]], [r151], vz 0 0, []⟩, ⟨38, [va [vi 4,vi 4,vr 0 0 41 9223372036854775808], va [vi 3,vi 5]], [r154], vz 0 0, []⟩]
theorem d116_run (t : Nat → TypeId) : allL (deepOk Tryz.prog (valOrc (fun _ => false) (tabG t) (orcL (e5 ++ e74 ++ e75))) (tabG t)) d116 = true := by kernel_rfl

end Go.Proofs.YtbghfcllicfnpabGreatDoor
