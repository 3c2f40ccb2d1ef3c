/-
  Says: what calls answer, as the kernel runs them (level 1).
-/
import Derived.Test.YtpieoofkikjjjaaGreatDoorKr
import Derived.Test.YtpieoofkikjjjaaGreatDoorKa0
import Derived.KernelRfl
set_option maxRecDepth 1000000
set_option linter.unusedVariables false
set_option linter.unusedSimpArgs false
namespace Go.Proofs.YtpieoofkikjjjaaGreatDoor
open Go Go.Vx
attribute [local instance] anySyms

noncomputable def d283 : List DeepE := [⟨22,[va [vi 5,vi 4],va [vi 9,vi 5]],[],vr 0 0 4 9223372036854775808,[r63]⟩]
theorem d283_run (t : Nat → TypeId) : allL (deepOk Tryz.prog (deepOrc Tryz.prog (tabG t) (gO ([])) 2305843009213693952 (d9) noCuts) (tabG t)) d283 = true := by kernel_rfl

noncomputable def d284 : List DeepE := [⟨22,[va [vi 5,vi 4],va [vi 9,vi 7]],[],vr 0 0 4 9223372036854775808,[r104]⟩]
theorem d284_run (t : Nat → TypeId) : allL (deepOk Tryz.prog (deepOrc Tryz.prog (tabG t) (gO ([])) 2305843009213693952 (d9) noCuts) (tabG t)) d284 = true := by kernel_rfl

noncomputable def d285 : List DeepE := [⟨22,[va [vi 5,vi 5],va [vi 2,vi 2]],[],vr 0 0 8 9223372036854775808,[r70]⟩]
theorem d285_run (t : Nat → TypeId) : allL (deepOk Tryz.prog (deepOrc Tryz.prog (tabG t) (gO ([])) 2305843009213693952 (d9) noCuts) (tabG t)) d285 = true := by kernel_rfl

noncomputable def d286 : List DeepE := [⟨22,[va [vi 5,vi 5],va [vi 2,vi 4]],[],vr 0 0 8 9223372036854775808,[r85]⟩]
theorem d286_run (t : Nat → TypeId) : allL (deepOk Tryz.prog (deepOrc Tryz.prog (tabG t) (gO ([])) 2305843009213693952 (d9) noCuts) (tabG t)) d286 = true := by kernel_rfl

noncomputable def d287 : List DeepE := [⟨22,[va [vi 5,vi 5],va [vi 2,vi 6]],[],vr 0 0 8 9223372036854775808,[r94]⟩]
theorem d287_run (t : Nat → TypeId) : allL (deepOk Tryz.prog (deepOrc Tryz.prog (tabG t) (gO ([])) 2305843009213693952 (d9) noCuts) (tabG t)) d287 = true := by kernel_rfl

noncomputable def d288 : List DeepE := [⟨22,[va [vi 5,vi 5],va [vi 2,vi 8]],[],vr 0 0 8 9223372036854775808,[r105]⟩]
theorem d288_run (t : Nat → TypeId) : allL (deepOk Tryz.prog (deepOrc Tryz.prog (tabG t) (gO ([])) 2305843009213693952 (d9) noCuts) (tabG t)) d288 = true := by kernel_rfl

noncomputable def d289 : List DeepE := [⟨22,[va [vi 5,vi 5],va [vi 4,vi 2]],[],vr 0 0 8 9223372036854775808,[r72]⟩]
theorem d289_run (t : Nat → TypeId) : allL (deepOk Tryz.prog (deepOrc Tryz.prog (tabG t) (gO ([])) 2305843009213693952 (d9) noCuts) (tabG t)) d289 = true := by kernel_rfl

end Go.Proofs.YtpieoofkikjjjaaGreatDoor
