/-
  Says: what calls answer, as the kernel runs them (level 2).
-/
import Derived.Test.YtbghfcllicfnpaaGreatDoorKr
import Derived.Test.YtbghfcllicfnpaaGreatDoorKa0
import Derived.Test.YtbghfcllicfnpaaGreatDoorKa1
import Derived.Test.YtbghfcllicfnpaaGreatDoorKa2
import Derived.Test.YtbghfcllicfnpaaGreatDoorKa3
import Derived.KernelRfl
set_option maxRecDepth 1000000
set_option linter.unusedVariables false
set_option linter.unusedSimpArgs false
namespace Go.Proofs.YtbghfcllicfnpaaGreatDoor
open Go Go.Vx
attribute [local instance] anySyms

noncomputable def d31 : List DeepE := [⟨13, [va [vi 5,vi 1], va [vi 5,vi 1]], [], vp [vr 0 0 4 4,vi 0], [r41]⟩, ⟨13, [va [vi 5,vi 1], va [vi 7,vi 1]], [], vp [vr 0 0 4 4,vi 0], [r42]⟩, ⟨13, [va [vi 5,vi 1], va [vi 9,vi 1]], [], vp [vr 0 0 4 4,vi 0], [r27]⟩, ⟨13, [va [vi 5,vi 5], va [vi 9,vi 9]], [], vp [vr 0 0 4 4,vi 0], [r88]⟩, ⟨13, [va [vi 5,vi 5], va [vi 8,vi 8]], [], vp [vr 0 0 8 8,vi 0], [r89]⟩, ⟨35, [va [vi 2,vi 2,vr 0 0 5 5]], [r90], vi 0, []⟩, ⟨38, [va [vi 2,vi 2], vr 0 0 3 3], [r91], vp [va [vi 2,vi 2,vr 1 0 5 5],vi 0,vi 0], [r90]⟩]
theorem d31_run (t : Nat → TypeId) : allL (deepOk Tryz.prog (valOrc (fun _ => false) (tabG t) (orcL (e0 ++ e4 ++ e5 ++ e6 ++ e9 ++ e13))) (tabG t)) d31 = true := by kernel_rfl

end Go.Proofs.YtbghfcllicfnpaaGreatDoor
