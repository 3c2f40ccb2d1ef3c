/-
  Says: what calls answer, as the kernel runs them (level 5).
-/
import Derived.Test.YtdnekeegpenioaaDoorKr
import Derived.Test.YtdnekeegpenioaaDoorKa1
import Derived.Test.YtdnekeegpenioaaDoorKa5
import Derived.Test.YtdnekeegpenioaaDoorKa9
import Derived.KernelRfl
set_option maxRecDepth 1000000
set_option linter.unusedVariables false
set_option linter.unusedSimpArgs false
namespace Go.Proofs.YtdnekeegpenioaaDoor
open Go Go.Vx
attribute [local instance] anySyms

noncomputable def e37 : List Ent := [(14, [va [vi 2,vi 1,vz 0 0], vi 0, vu 0, vu 1], vp [va [vi 0,vi 0,vz 0 0],vi 7]), (14, [va [vi 2,vi 1,vz 0 0], vi 0, vu 3, vu 1], vp [va [vi 0,vi 0,vz 0 0],vi 1]), (14, [va [vi 2,vi 1,vz 0 0], vi 8, vu 0, vu 1], vp [va [vi 0,vi 0,vz 0 0],vi 7])]
theorem e37_run (t : Nat → TypeId) : allL (entOk Tryd.prog (valOrc (fun _ => false) (tabG t) (orcL (e31))) (tabG t)) e37 = true := by kernel_rfl

noncomputable def d38 : List DeepE := [⟨16, [va [vi 2,vi 1,vr 0 0 2 2]], [r5], vp [va [vi 2,vi 1,vr 1 0 2 2],vi 0], [r31]⟩]
theorem d38_run (t : Nat → TypeId) : allL (deepOk Tryd.prog (deepOrc Tryd.prog (tabG t) (orcL (e4 ++ e31)) 1024 (d18) noCuts) (tabG t)) d38 = true := by kernel_rfl

end Go.Proofs.YtdnekeegpenioaaDoor
