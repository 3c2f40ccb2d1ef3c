/-
  Says: what calls answer, as the kernel runs them (level 4).
-/
import Derived.Test.YtdnekeegpenioaaDoorKr
import Derived.Test.YtdnekeegpenioaaDoorKa1
import Derived.Test.YtdnekeegpenioaaDoorKa2
import Derived.Test.YtdnekeegpenioaaDoorKa3
import Derived.Test.YtdnekeegpenioaaDoorKa4
import Derived.Test.YtdnekeegpenioaaDoorKa5
import Derived.KernelRfl
set_option maxRecDepth 1000000
set_option linter.unusedVariables false
set_option linter.unusedSimpArgs false
namespace Go.Proofs.YtdnekeegpenioaaDoor
open Go Go.Vx
attribute [local instance] anySyms

noncomputable def e31 : List Ent := [(36, [va [vi 2,vi 1,vz 0 0], vi 0, vu 0], vp [va [vi 0,vu 0],vi 7]), (36, [va [vi 2,vi 1,vz 0 0], vi 0, vu 3], vp [va [vi 0,vu 0],vi 1]), (36, [va [vi 2,vi 1,vz 0 0], vi 8, vu 0], vp [va [vi 0,vu 0],vi 7]), (40, [va [vi 2,vi 1], va [vi 0,vu 1]], vp [va [vi 4,vu 2],vi 0]), (40, [va [vi 2,vi 1], va [vi 0,vu 2]], vp [va [vi 4,vu 1],vi 0])]
theorem e31_run (t : Nat → TypeId) : allL (entOk Tryd.prog (valOrc (fun _ => false) (tabG t) (orcL (e4 ++ e7 ++ e17))) (tabG t)) e31 = true := by kernel_rfl

noncomputable def d32 : List DeepE := [⟨13, [va [vi 2,vi 1,vr 0 0 1 1], vi 0, vu 1], [r2], vp [vu 0,vi 0], []⟩, ⟨13, [va [vi 2,vi 1,vr 0 0 1 1], vi 1, vu 0], [r2], vp [vu 1,vi 0], []⟩, ⟨16, [va [vi 2,vi 1,vr 0 0 1 1]], [r2], vp [va [vi 2,vi 1,vr 1 0 1 1],vi 0], [r1]⟩, ⟨20, [va [vi 1,vi 1]], [], vr 0 0 4 9223372036854775808, [r24]⟩, ⟨20, [va [vi 1,vi 2]], [], vr 0 0 9 9223372036854775808, [r25]⟩, ⟨20, [va [vi 1,vi 3]], [], vr 0 0 14 9223372036854775808, [r26]⟩]
theorem d32_run (t : Nat → TypeId) : allL (deepOk Tryd.prog (deepOrc Tryd.prog (tabG t) (orcL (e4 ++ e5 ++ e6 ++ e7 ++ e10 ++ e11 ++ e14 ++ e15 ++ e17)) 137438954496 (d9 ++ d18) noCuts) (tabG t)) d32 = true := by kernel_rfl

noncomputable def d33 : List DeepE := [⟨20, [va [vi 4,vi 4]], [], vr 0 0 88 9223372036854775808, [r27]⟩]
theorem d33_run (t : Nat → TypeId) : allL (deepOk Tryd.prog (valOrc (fun _ => false) (tabG t) (orcL (e4 ++ e5 ++ e6 ++ e7 ++ e10 ++ e11 ++ e12 ++ e13 ++ e15))) (tabG t)) d33 = true := by kernel_rfl

noncomputable def d34 : List DeepE := [⟨20, [va [vi 4,vi 5]], [], vr 0 0 111 9223372036854775808, [r28]⟩]
theorem d34_run (t : Nat → TypeId) : allL (deepOk Tryd.prog (valOrc (fun _ => false) (tabG t) (orcL (e4 ++ e5 ++ e6 ++ e7 ++ e10 ++ e11 ++ e12 ++ e13 ++ e14 ++ e15))) (tabG t)) d34 = true := by kernel_rfl

noncomputable def d35 : List DeepE := [⟨20, [va [vi 5,vi 4]], [], vr 0 0 111 9223372036854775808, [r29]⟩]
theorem d35_run (t : Nat → TypeId) : allL (deepOk Tryd.prog (valOrc (fun _ => false) (tabG t) (orcL (e4 ++ e5 ++ e6 ++ e7 ++ e10 ++ e11 ++ e12 ++ e13 ++ e14 ++ e15 ++ e16))) (tabG t)) d35 = true := by kernel_rfl

end Go.Proofs.YtdnekeegpenioaaDoor
