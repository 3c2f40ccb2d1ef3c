/-
  Says: what calls answer, as the kernel runs them (level 4).
-/
import Derived.Test.YtbghfcllicfnpabGreatDoorKr
import Derived.Test.YtbghfcllicfnpabGreatDoorKa0
import Derived.Test.YtbghfcllicfnpabGreatDoorKa1
import Derived.Test.YtbghfcllicfnpabGreatDoorKa10
import Derived.Test.YtbghfcllicfnpabGreatDoorKa11
import Derived.Test.YtbghfcllicfnpabGreatDoorKa12
import Derived.Test.YtbghfcllicfnpabGreatDoorKa15
import Derived.Test.YtbghfcllicfnpabGreatDoorKa20
import Derived.Test.YtbghfcllicfnpabGreatDoorKa21
import Derived.Test.YtbghfcllicfnpabGreatDoorKa24
import Derived.Test.YtbghfcllicfnpabGreatDoorKa8
import Derived.Test.YtbghfcllicfnpabGreatDoorKa9
import Derived.KernelRfl
set_option maxRecDepth 1000000
set_option linter.unusedVariables false
set_option linter.unusedSimpArgs false
namespace Go.Proofs.YtbghfcllicfnpabGreatDoor
open Go Go.Vx
attribute [local instance] anySyms

noncomputable def d88 : List DeepE := [⟨27, [va [vi 4,vi 2,vr 0 0 31 9223372036854775808]], [r65], vp [va [vi 4,vi 2,vr 1 0 31 31],vi 0], [r156]⟩]
theorem d88_run (t : Nat → TypeId) : allL (deepOk Tryz.prog (deepOrc Tryz.prog (tabG t) (orcL (e1 ++ e2 ++ e3 ++ e6 ++ e30 ++ e31 ++ e32 ++ e33 ++ e34 ++ e35 ++ e40 ++ e41 ++ e62)) 40564819207303340848031941525504 (d52 ++ d73) noCuts) (tabG t)) d88 = true := by kernel_rfl

noncomputable def d89 : List DeepE := [⟨27, [va [vi 4,vi 2,vr 0 0 35 9223372036854775808]], [r66], vp [va [vi 4,vi 2,vr 1 0 35 35],vi 0], [r115]⟩]
theorem d89_run (t : Nat → TypeId) : allL (deepOk Tryz.prog (deepOrc Tryz.prog (tabG t) (orcL (e1 ++ e2 ++ e3 ++ e4 ++ e6 ++ e7 ++ e30 ++ e31 ++ e32 ++ e33 ++ e34 ++ e35 ++ e40 ++ e41)) 202824096036516704239609951813632 (d52 ++ d73) noCuts) (tabG t)) d89 = true := by kernel_rfl

noncomputable def d90 : List DeepE := [⟨37, [va [vi 2,vi 4,vr 0 0 34 9223372036854775808]], [r146], vi 0, []⟩, ⟨37, [va [vi 4,vi 3,vr 0 0 36 9223372036854775808]], [r151], vi 0, []⟩, ⟨37, [va [vi 3,vi 4,vr 0 0 36 9223372036854775808]], [r148], vi 0, []⟩]
theorem d90_run (t : Nat → TypeId) : allL (deepOk Tryz.prog (valOrc (fun _ => false) (tabG t) (orcL (e2 ++ e3 ++ e6 ++ e32 ++ e33 ++ e63 ++ e64))) (tabG t)) d90 = true := by kernel_rfl

noncomputable def d91 : List DeepE := [⟨37, [va [vi 4,vi 4,vr 0 0 41 9223372036854775808]], [r154], vi 0, []⟩, ⟨52, [va [vi 1,vi 1]], [], vr 0 0 4 9223372036854775808, [r157]⟩, ⟨52, [va [vi 1,vi 2]], [], vr 0 0 9 9223372036854775808, [r158]⟩, ⟨52, [va [vi 2,vi 1]], [], vr 0 0 9 9223372036854775808, [r159]⟩, ⟨52, [va [vi 3,vi 1]], [], vr 0 0 14 9223372036854775808, [r160]⟩, ⟨52, [va [vi 2,vi 2]], [], vr 0 0 20 9223372036854775808, [r161]⟩]
theorem d91_run (t : Nat → TypeId) : allL (deepOk Tryz.prog (valOrc (fun _ => false) (tabG t) (orcL (e2 ++ e3 ++ e7 ++ e28 ++ e29 ++ e30 ++ e32 ++ e33 ++ e37 ++ e38 ++ e39 ++ e58 ++ e64))) (tabG t)) d91 = true := by kernel_rfl

end Go.Proofs.YtbghfcllicfnpabGreatDoor
