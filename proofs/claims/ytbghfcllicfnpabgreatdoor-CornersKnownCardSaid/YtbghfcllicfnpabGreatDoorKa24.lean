/-
  Says: what calls answer, as the kernel runs them (level 3).
-/
import Derived.Test.YtbghfcllicfnpabGreatDoorKr
import Derived.Test.YtbghfcllicfnpabGreatDoorKa0
import Derived.Test.YtbghfcllicfnpabGreatDoorKa1
import Derived.Test.YtbghfcllicfnpabGreatDoorKa10
import Derived.Test.YtbghfcllicfnpabGreatDoorKa11
import Derived.Test.YtbghfcllicfnpabGreatDoorKa12
import Derived.Test.YtbghfcllicfnpabGreatDoorKa15
import Derived.Test.YtbghfcllicfnpabGreatDoorKa8
import Derived.Test.YtbghfcllicfnpabGreatDoorKa9
import Derived.KernelRfl
set_option maxRecDepth 1000000
set_option linter.unusedVariables false
set_option linter.unusedSimpArgs false
namespace Go.Proofs.YtbghfcllicfnpabGreatDoor
open Go Go.Vx
attribute [local instance] anySyms

noncomputable def d73 : List DeepE := [⟨52, [va [vi 3,vi 4]], [], vr 0 0 65 9223372036854775808, [r124]⟩, ⟨79, [vr 0 0 34 34, vi 16, vi 20, vi 6, (vfn 50)], [r67], vp [], []⟩, ⟨105, [vr 0 0 35 35, vi 0, vi 14, (vfn 50)], [r45], vp [vi 6,vi 1], []⟩, ⟨105, [vr 0 0 34 34, vi 16, vi 34, (vfn 50)], [r28], vp [vi 20,vi 0], []⟩, ⟨105, [vr 0 0 34 34, vi 21, vi 34, (vfn 50)], [r67], vp [vi 24,vi 0], []⟩, ⟨105, [vr 0 0 35 35, vi 0, vi 35, (vfn 50)], [r39], vp [vi 24,vi 0], []⟩, ⟨105, [vr 0 0 35 35, vi 15, vi 35, (vfn 50)], [r125], vp [vi 25,vi 0], []⟩, ⟨105, [vr 0 0 31 31, vi 0, vi 31, (vfn 50)], [r126], vp [vi 7,vi 0], []⟩, ⟨105, [vr 0 0 35 35, vi 0, vi 35, (vfn 50)], [r127], vp [vi 8,vi 0], []⟩, ⟨105, [vr 0 0 36 36, vi 13, vi 36, (vfn 50)], [r128], vp [vi 18,vi 0], []⟩, ⟨105, [vr 0 0 41 41, vi 0, vi 29, (vfn 50)], [r129], vp [vi 7,vi 0], []⟩, ⟨105, [vr 0 0 31 31, vi 13, vi 31, (vfn 50)], [r130], vp [vi 21,vi 0], []⟩, ⟨105, [vr 0 0 36 36, vi 0, vi 36, (vfn 50)], [r41], vp [vi 27,vi 0], []⟩, ⟨105, [vr 0 0 36 36, vi 20, vi 36, (vfn 50)], [r131], vp [vi 28,vi 0], []⟩, ⟨107, [vr 0 0 35 35, vi 0, vi 14, (vfn 50)], [r45], vf, []⟩]
theorem d73_run (t : Nat → TypeId) : allL (deepOk Tryz.prog (deepOrc Tryz.prog (tabG t) (orcL (e2 ++ e3 ++ e6 ++ e28 ++ e29 ++ e30 ++ e31 ++ e32 ++ e33 ++ e38 ++ e39 ++ e40 ++ e41)) 43556142970950725724224867357253143887872 (d8 ++ d36 ++ d52) noCuts) (tabG t)) d73 = true := by kernel_rfl

end Go.Proofs.YtbghfcllicfnpabGreatDoor
