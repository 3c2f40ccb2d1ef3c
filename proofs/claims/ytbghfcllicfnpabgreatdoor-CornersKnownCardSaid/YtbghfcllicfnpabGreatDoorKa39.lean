/-
  Says: what calls answer, as the kernel runs them (level 7).
-/
import Derived.Test.YtbghfcllicfnpabGreatDoorKr
import Derived.Test.YtbghfcllicfnpabGreatDoorKa10
import Derived.Test.YtbghfcllicfnpabGreatDoorKa25
import Derived.Test.YtbghfcllicfnpabGreatDoorKa33
import Derived.Test.YtbghfcllicfnpabGreatDoorKa34
import Derived.Test.YtbghfcllicfnpabGreatDoorKa37
import Derived.Test.YtbghfcllicfnpabGreatDoorKa38
import Derived.KernelRfl
set_option maxRecDepth 1000000
set_option linter.unusedVariables false
set_option linter.unusedSimpArgs false
namespace Go.Proofs.YtbghfcllicfnpabGreatDoor
open Go Go.Vx
attribute [local instance] anySyms

noncomputable def d127 : List DeepE := [⟨9, [va [vu 11,vu 3,vr 0 0 50 9223372036854775808], vu 11], [r234], vt, []⟩, ⟨17, [va [vi 3,vi 4,vr 0 0 36 9223372036854775808], va [vi 1,vi 7]], [r148], vp [vi 0,vi 0], []⟩, ⟨17, [va [vi 3,vi 4,vr 0 0 36 9223372036854775808], va [vi 3,vi 7]], [r148], vp [vi 0,vi 0], []⟩, ⟨17, [va [vi 3,vi 4,vr 0 0 36 9223372036854775808], va [vi 5,vi 7]], [r148], vp [vi 0,vi 0], []⟩, ⟨17, [va [vi 4,vi 3,vr 0 0 36 9223372036854775808], va [vi 3,vi 5]], [r151], vp [vi 0,vi 0], []⟩, ⟨17, [va [vi 4,vi 3,vr 0 0 36 9223372036854775808], va [vi 5,vi 5]], [r151], vp [vi 0,vi 0], []⟩, ⟨17, [va [vi 4,vi 3,vr 0 0 36 9223372036854775808], va [vi 7,vi 5]], [r151], vp [vi 0,vi 0], []⟩, ⟨17, [va [vi 4,vi 4,vr 0 0 41 9223372036854775808], va [vi 3,vi 5]], [r154], vp [vi 0,vi 0], []⟩]
theorem d127_run (t : Nat → TypeId) : allL (deepOk Tryz.prog (deepOrc Tryz.prog (tabG t) (orcL (e74)) 142680064 (d36 ++ d109 ++ d112 ++ d113 ++ d124 ++ d126) noCuts) (tabG t)) d127 = true := by kernel_rfl

end Go.Proofs.YtbghfcllicfnpabGreatDoor
