/-
  Says: what calls answer, as the kernel runs them (level 1).
-/
import Derived.Test.YtdnekeegpenioaaDoorKr
import Derived.Test.YtdnekeegpenioaaDoorKa0
import Derived.KernelRfl
set_option maxRecDepth 1000000
set_option linter.unusedVariables false
set_option linter.unusedSimpArgs false
namespace Go.Proofs.YtdnekeegpenioaaDoor
open Go Go.Vx
attribute [local instance] anySyms

noncomputable def e8 : List Ent := [(67, [va [vi 7,vi 5,vi 8,vi 6,vi 6,vi 6]], va [vi 3,vi 2,vu 2]), (67, [va [vi 7,vi 7,vi 8,vi 8,vi 6,vi 8]], va [vi 3,vi 3,vu 2]), (67, [va [vi 7,vi 9,vi 8,vi 10,vi 6,vi 10]], va [vi 3,vi 4,vu 2]), (67, [va [vi 9,vi 1,vi 10,vi 2,vi 8,vi 2]], va [vi 4,vi 0,vu 2]), (67, [va [vi 9,vi 3,vi 10,vi 4,vi 8,vi 4]], va [vi 4,vi 1,vu 2]), (67, [va [vi 9,vi 5,vi 10,vi 6,vi 8,vi 6]], va [vi 4,vi 2,vu 2]), (67, [va [vi 9,vi 7,vi 10,vi 8,vi 8,vi 8]], va [vi 4,vi 3,vu 2]), (67, [va [vi 9,vi 7,vi 8,vi 8,vi 10,vi 8]], va [vi 4,vi 3,vu 2]), (67, [va [vi 9,vi 9,vi 10,vi 10,vi 8,vi 10]], va [vi 4,vi 4,vu 2]), (67, [va [vi 1,vi 1,vi 0,vi 0,vi 0,vi 2]], va [vi 0,vi 0,vu 3]), (67, [va [vi 1,vi 3,vi 0,vi 2,vi 0,vi 4]], va [vi 0,vi 1,vu 3]), (67, [va [vi 1,vi 5,vi 0,vi 4,vi 0,vi 6]], va [vi 0,vi 2,vu 3]), (67, [va [vi 1,vi 7,vi 0,vi 6,vi 0,vi 8]], va [vi 0,vi 3,vu 3]), (67, [va [vi 1,vi 9,vi 0,vi 8,vi 0,vi 10]], va [vi 0,vi 4,vu 3]), (67, [va [vi 3,vi 1,vi 2,vi 0,vi 2,vi 2]], va [vi 1,vi 0,vu 3]), (67, [va [vi 3,vi 3,vi 2,vi 2,vi 2,vi 4]], va [vi 1,vi 1,vu 3]), (67, [va [vi 3,vi 5,vi 2,vi 4,vi 2,vi 6]], va [vi 1,vi 2,vu 3]), (67, [va [vi 3,vi 7,vi 2,vi 6,vi 2,vi 8]], va [vi 1,vi 3,vu 3]), (67, [va [vi 3,vi 9,vi 2,vi 8,vi 2,vi 10]], va [vi 1,vi 4,vu 3]), (67, [va [vi 5,vi 1,vi 4,vi 0,vi 4,vi 2]], va [vi 2,vi 0,vu 3]), (67, [va [vi 5,vi 3,vi 4,vi 2,vi 4,vi 4]], va [vi 2,vi 1,vu 3]), (67, [va [vi 5,vi 5,vi 4,vi 4,vi 4,vi 6]], va [vi 2,vi 2,vu 3]), (67, [va [vi 5,vi 7,vi 4,vi 6,vi 4,vi 8]], va [vi 2,vi 3,vu 3]), (67, [va [vi 5,vi 9,vi 4,vi 8,vi 4,vi 10]], va [vi 2,vi 4,vu 3]), (67, [va [vi 7,vi 1,vi 6,vi 0,vi 6,vi 2]], va [vi 3,vi 0,vu 3]), (67, [va [vi 7,vi 3,vi 6,vi 2,vi 6,vi 4]], va [vi 3,vi 1,vu 3]), (67, [va [vi 7,vi 5,vi 6,vi 4,vi 6,vi 6]], va [vi 3,vi 2,vu 3]), (67, [va [vi 7,vi 7,vi 6,vi 6,vi 6,vi 8]], va [vi 3,vi 3,vu 3]), (67, [va [vi 7,vi 9,vi 6,vi 8,vi 6,vi 10]], va [vi 3,vi 4,vu 3]), (67, [va [vi 9,vi 1,vi 8,vi 0,vi 8,vi 2]], va [vi 4,vi 0,vu 3]), (67, [va [vi 9,vi 3,vi 8,vi 2,vi 8,vi 4]], va [vi 4,vi 1,vu 3]), (67, [va [vi 9,vi 5,vi 8,vi 4,vi 8,vi 6]], va [vi 4,vi 2,vu 3]), (67, [va [vi 9,vi 7,vi 8,vi 6,vi 8,vi 8]], va [vi 4,vi 3,vu 3]), (67, [va [vi 9,vi 9,vi 8,vi 8,vi 8,vi 10]], va [vi 4,vi 4,vu 3])]
theorem e8_run (t : Nat → TypeId) : allL (entOk Tryd.prog (valOrc (fun _ => false) (tabG t) (orcL (e0))) (tabG t)) e8 = true := by kernel_rfl

noncomputable def d9 : List DeepE := [⟨37, [vr 0 0 1 1, va [vi 0,vu 1]], [r2], vp [vi 0,vf], []⟩, ⟨37, [vr 0 0 1 1, va [vi 1,vu 0]], [r2], vp [vi 0,vt], []⟩]
theorem d9_run (t : Nat → TypeId) : allL (deepOk Tryd.prog (valOrc (fun _ => false) (tabG t) (orcL (e0))) (tabG t)) d9 = true := by kernel_rfl

end Go.Proofs.YtdnekeegpenioaaDoor
