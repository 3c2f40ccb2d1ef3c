/-
  Says: what calls answer, as the kernel runs them (level 2).
-/
import Derived.Test.YtbghfcllicfnpaaGreatDoorKr
import Derived.Test.YtbghfcllicfnpaaGreatDoorKa0
import Derived.Test.YtbghfcllicfnpaaGreatDoorKa1
import Derived.Test.YtbghfcllicfnpaaGreatDoorKa3
import Derived.Test.YtbghfcllicfnpaaGreatDoorKa4
import Derived.KernelRfl
set_option maxRecDepth 1000000
set_option linter.unusedVariables false
set_option linter.unusedSimpArgs false
namespace Go.Proofs.YtbghfcllicfnpaaGreatDoor
open Go Go.Vx
attribute [local instance] anySyms

noncomputable def d38 : List DeepE := [⟨13, [va [vi 5,vi 4], va [vi 4,vi 2]], [], vp [vr 0 0 8 8,vi 0], [r43]⟩, ⟨13, [va [vi 5,vi 5], va [vi 4,vi 2]], [], vp [vr 0 0 8 8,vi 0], [r43]⟩, ⟨13, [va [vi 5,vi 4], va [vi 6,vi 2]], [], vp [vr 0 0 8 8,vi 0], [r44]⟩, ⟨13, [va [vi 5,vi 5], va [vi 6,vi 2]], [], vp [vr 0 0 8 8,vi 0], [r44]⟩, ⟨13, [va [vi 5,vi 4], va [vi 8,vi 2]], [], vp [vr 0 0 8 8,vi 0], [r47]⟩, ⟨13, [va [vi 5,vi 5], va [vi 8,vi 2]], [], vp [vr 0 0 8 8,vi 0], [r47]⟩, ⟨13, [va [vi 4,vi 5], va [vi 2,vi 4]], [], vp [vr 0 0 8 8,vi 0], [r50]⟩, ⟨13, [va [vi 4,vi 5], va [vi 4,vi 4]], [], vp [vr 0 0 8 8,vi 0], [r51]⟩, ⟨13, [va [vi 4,vi 5], va [vi 6,vi 4]], [], vp [vr 0 0 8 8,vi 0], [r53]⟩, ⟨13, [va [vi 5,vi 4], va [vi 2,vi 4]], [], vp [vr 0 0 8 8,vi 0], [r55]⟩, ⟨13, [va [vi 5,vi 5], va [vi 2,vi 4]], [], vp [vr 0 0 8 8,vi 0], [r55]⟩, ⟨13, [va [vi 5,vi 4], va [vi 4,vi 4]], [], vp [vr 0 0 8 8,vi 0], [r56]⟩, ⟨13, [va [vi 5,vi 5], va [vi 4,vi 4]], [], vp [vr 0 0 8 8,vi 0], [r56]⟩]
theorem d38_run (t : Nat → TypeId) : allL (deepOk Tryz.prog (deepOrc Tryz.prog (tabG t) (orcL (e3 ++ e4 ++ e5 ++ e10 ++ e11)) 1024 (d16) noCuts) (tabG t)) d38 = true := by kernel_rfl

noncomputable def d39 : List DeepE := [⟨13, [va [vi 5,vi 4], va [vi 6,vi 4]], [], vp [vr 0 0 8 8,vi 0], [r57]⟩, ⟨13, [va [vi 5,vi 5], va [vi 6,vi 4]], [], vp [vr 0 0 8 8,vi 0], [r57]⟩, ⟨13, [va [vi 5,vi 4], va [vi 8,vi 4]], [], vp [vr 0 0 8 8,vi 0], [r58]⟩, ⟨13, [va [vi 5,vi 5], va [vi 8,vi 4]], [], vp [vr 0 0 8 8,vi 0], [r58]⟩, ⟨13, [va [vi 4,vi 5], va [vi 2,vi 6]], [], vp [vr 0 0 8 8,vi 0], [r60]⟩, ⟨68, [va [vi 2,vi 2], va [vu 1,vu 1,vi 1,vi 0,vi 4]], [], vp [vr 0 0 2 2,vi 0], [r68]⟩]
theorem d39_run (t : Nat → TypeId) : allL (deepOk Tryz.prog (deepOrc Tryz.prog (tabG t) (orcL (e0 ++ e3 ++ e4 ++ e5 ++ e10 ++ e11 ++ e15)) 1024 (d16) noCuts) (tabG t)) d39 = true := by kernel_rfl

end Go.Proofs.YtbghfcllicfnpaaGreatDoor
