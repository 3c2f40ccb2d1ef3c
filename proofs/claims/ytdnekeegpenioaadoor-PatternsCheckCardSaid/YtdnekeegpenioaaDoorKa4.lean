/-
  Says: what calls answer, as the kernel runs them (level 2).
-/
import Derived.Test.YtdnekeegpenioaaDoorKr
import Derived.Test.YtdnekeegpenioaaDoorKa0
import Derived.Test.YtdnekeegpenioaaDoorKa1
import Derived.Test.YtdnekeegpenioaaDoorKa2
import Derived.KernelRfl
set_option maxRecDepth 1000000
set_option linter.unusedVariables false
set_option linter.unusedSimpArgs false
namespace Go.Proofs.YtdnekeegpenioaaDoor
open Go Go.Vx
attribute [local instance] anySyms

noncomputable def e14 : List Ent := [(44, [va [vi 3,vi 4,vu 2], vi 2], va [vi 3,vi 4,vu 1]), (44, [va [vi 3,vi 4,vu 3], vi 1], va [vi 3,vi 4,vu 2]), (44, [va [vi 3,vi 4,vu 3], vi 2], va [vi 3,vi 4,vu 0]), (44, [va [vi 4,vi 0,vu 0], vi 1], va [vi 4,vi 0,vu 1]), (44, [va [vi 4,vi 0,vu 0], vi 2], va [vi 4,vi 0,vu 3]), (44, [va [vi 4,vi 0,vu 1], vi 1], va [vi 4,vi 0,vu 0]), (44, [va [vi 4,vi 0,vu 1], vi 2], va [vi 4,vi 0,vu 2]), (44, [va [vi 4,vi 0,vu 2], vi 1], va [vi 4,vi 0,vu 3]), (44, [va [vi 4,vi 0,vu 2], vi 2], va [vi 4,vi 0,vu 1]), (44, [va [vi 4,vi 0,vu 3], vi 1], va [vi 4,vi 0,vu 2]), (44, [va [vi 4,vi 0,vu 3], vi 2], va [vi 4,vi 0,vu 0]), (44, [va [vi 4,vi 1,vu 0], vi 1], va [vi 4,vi 1,vu 1]), (44, [va [vi 4,vi 1,vu 0], vi 2], va [vi 4,vi 1,vu 3]), (44, [va [vi 4,vi 1,vu 1], vi 1], va [vi 4,vi 1,vu 0]), (44, [va [vi 4,vi 1,vu 1], vi 2], va [vi 4,vi 1,vu 2]), (44, [va [vi 4,vi 1,vu 2], vi 1], va [vi 4,vi 1,vu 3]), (44, [va [vi 4,vi 1,vu 2], vi 2], va [vi 4,vi 1,vu 1]), (44, [va [vi 4,vi 1,vu 3], vi 1], va [vi 4,vi 1,vu 2]), (44, [va [vi 4,vi 1,vu 3], vi 2], va [vi 4,vi 1,vu 0]), (44, [va [vi 4,vi 2,vu 0], vi 1], va [vi 4,vi 2,vu 1]), (44, [va [vi 4,vi 2,vu 0], vi 2], va [vi 4,vi 2,vu 3]), (44, [va [vi 4,vi 2,vu 1], vi 1], va [vi 4,vi 2,vu 0]), (44, [va [vi 4,vi 2,vu 1], vi 2], va [vi 4,vi 2,vu 2]), (44, [va [vi 4,vi 2,vu 2], vi 1], va [vi 4,vi 2,vu 3]), (44, [va [vi 4,vi 2,vu 2], vi 2], va [vi 4,vi 2,vu 1]), (44, [va [vi 4,vi 2,vu 3], vi 1], va [vi 4,vi 2,vu 2]), (44, [va [vi 4,vi 2,vu 3], vi 2], va [vi 4,vi 2,vu 0]), (44, [va [vi 4,vi 3,vu 0], vi 1], va [vi 4,vi 3,vu 1]), (44, [va [vi 4,vi 3,vu 0], vi 2], va [vi 4,vi 3,vu 3]), (44, [va [vi 4,vi 3,vu 1], vi 1], va [vi 4,vi 3,vu 0]), (44, [va [vi 4,vi 3,vu 1], vi 2], va [vi 4,vi 3,vu 2]), (44, [va [vi 4,vi 3,vu 2], vi 1], va [vi 4,vi 3,vu 3]), (44, [va [vi 4,vi 3,vu 2], vi 2], va [vi 4,vi 3,vu 1]), (44, [va [vi 4,vi 3,vu 3], vi 1], va [vi 4,vi 3,vu 2]), (44, [va [vi 4,vi 3,vu 3], vi 2], va [vi 4,vi 3,vu 0]), (49, [va [vi 2,vi 1], vi 0, vu 1], vp [va [vi 0,vu 1],vi 0]), (49, [va [vi 2,vi 1], vi 1, vu 0], vp [va [vi 1,vu 0],vi 0]), (49, [va [vi 2,vi 1], vi 7, vu 0], vp [va [vi 1,vu 0],vi 0]), (68, [va [vi 2,vi 1], vi 8, vu 0], vp [vi 0,vi 7]), (68, [va [vi 2,vi 1], vi 0, vu 0], vp [vi 0,vi 7]), (68, [va [vi 2,vi 1], vi 4, vu 1], vp [vi 5,vi 0]), (68, [va [vi 2,vi 1], vi 4, vu 2], vp [vi 7,vi 0]), (68, [va [vi 2,vi 1], vi 0, vu 3], vp [vi 0,vi 1])]
theorem e14_run (t : Nat → TypeId) : allL (entOk Tryd.prog (valOrc (fun _ => false) (tabG t) (orcL (e0 ++ e1 ++ e2 ++ e7 ++ e8))) (tabG t)) e14 = true := by kernel_rfl

end Go.Proofs.YtdnekeegpenioaaDoor
