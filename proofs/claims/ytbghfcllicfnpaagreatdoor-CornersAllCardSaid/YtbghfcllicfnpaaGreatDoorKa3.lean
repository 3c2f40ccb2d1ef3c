/-
  Says: what calls answer, as the kernel runs them (level 1).
-/
import Derived.Test.YtbghfcllicfnpaaGreatDoorKr
import Derived.Test.YtbghfcllicfnpaaGreatDoorKa0
import Derived.Test.YtbghfcllicfnpaaGreatDoorKa1
import Derived.KernelRfl
set_option maxRecDepth 1000000
set_option linter.unusedVariables false
set_option linter.unusedSimpArgs false
namespace Go.Proofs.YtbghfcllicfnpaaGreatDoor
open Go Go.Vx
attribute [local instance] anySyms

noncomputable def e13 : List Ent := [(31, [va [vi 4,vi 5], va [vi 3,vi 9]], vi 0), (31, [va [vi 5,vi 4], va [vi 5,vi 7]], vi 0), (31, [va [vi 5,vi 5], va [vi 5,vi 7]], vi 0), (31, [va [vi 4,vi 5], va [vi 5,vi 9]], vi 0), (31, [va [vi 5,vi 4], va [vi 7,vi 7]], vi 0), (31, [va [vi 5,vi 5], va [vi 7,vi 7]], vi 0), (31, [va [vi 4,vi 5], va [vi 7,vi 9]], vi 0), (31, [va [vi 5,vi 4], va [vi 9,vi 7]], vi 0), (31, [va [vi 5,vi 5], va [vi 9,vi 7]], vi 0), (31, [va [vi 5,vi 5], va [vi 2,vi 8]], vi 0), (31, [va [vi 5,vi 5], va [vi 4,vi 8]], vi 0), (31, [va [vi 5,vi 5], va [vi 6,vi 8]], vi 0), (31, [va [vi 5,vi 5], va [vi 8,vi 8]], vi 0), (31, [va [vi 5,vi 5], va [vi 1,vi 9]], vi 0), (31, [va [vi 5,vi 5], va [vi 3,vi 9]], vi 0), (31, [va [vi 5,vi 5], va [vi 5,vi 9]], vi 0), (31, [va [vi 5,vi 5], va [vi 7,vi 9]], vi 0), (31, [va [vi 5,vi 5], va [vi 9,vi 9]], vi 0), (77, [va [vi 2,vi 2], vi 1, vu 0], vp [va [vi 1,vu 0],vi 0]), (77, [va [vi 2,vi 2], vi 4, vu 1], vp [va [vi 4,vu 1],vi 0]), (77, [va [vi 2,vi 2], vi 6, vu 1], vp [va [vi 6,vu 1],vi 0]), (77, [va [vi 2,vi 2], vi 9, vu 0], vp [va [vi 9,vu 0],vi 0]), (77, [va [vi 2,vi 2], vi 0, vu 2], vp [va [vi 0,vu 2],vi 0])]
theorem e13_run (t : Nat → TypeId) : allL (entOk Tryz.prog (deepOrc Tryz.prog (tabG t) (orcL (e0 ++ e5)) 1024 (d8) noCuts) (tabG t)) e13 = true := by kernel_rfl

end Go.Proofs.YtbghfcllicfnpaaGreatDoor
