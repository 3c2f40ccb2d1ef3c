/-
  Says: what calls answer, as the kernel runs them (level 1).
-/
import Derived.Test.YtpieoofkikjjjaaGreatDoorKr
import Derived.Test.YtpieoofkikjjjaaGreatDoorKa0
import Derived.KernelRfl
set_option maxRecDepth 1000000
set_option linter.unusedVariables false
set_option linter.unusedSimpArgs false
namespace Go.Proofs.YtpieoofkikjjjaaGreatDoor
open Go Go.Vx
attribute [local instance] anySyms

noncomputable def d304 : List DeepE := [⟨22,[va [vi 5,vi 5],va [vi 1,vi 7]],[],vr 0 0 4 9223372036854775808,[r73]⟩]
theorem d304_run (t : Nat → TypeId) : allL (deepOk Tryz.prog (deepOrc Tryz.prog (tabG t) (gO ([])) 2305843009213693952 (d9) noCuts) (tabG t)) d304 = true := by kernel_rfl

noncomputable def d305 : List DeepE := [⟨22,[va [vi 5,vi 5],va [vi 1,vi 9]],[],vr 0 0 4 9223372036854775808,[r109]⟩]
theorem d305_run (t : Nat → TypeId) : allL (deepOk Tryz.prog (deepOrc Tryz.prog (tabG t) (gO ([])) 2305843009213693952 (d9) noCuts) (tabG t)) d305 = true := by kernel_rfl

noncomputable def d306 : List DeepE := [⟨22,[va [vi 5,vi 5],va [vi 3,vi 1]],[],vr 0 0 4 9223372036854775808,[r50]⟩]
theorem d306_run (t : Nat → TypeId) : allL (deepOk Tryz.prog (deepOrc Tryz.prog (tabG t) (gO ([])) 2305843009213693952 (d9) noCuts) (tabG t)) d306 = true := by kernel_rfl

noncomputable def d307 : List DeepE := [⟨22,[va [vi 5,vi 5],va [vi 3,vi 3]],[],vr 0 0 4 9223372036854775808,[r54]⟩]
theorem d307_run (t : Nat → TypeId) : allL (deepOk Tryz.prog (deepOrc Tryz.prog (tabG t) (gO ([])) 2305843009213693952 (d9) noCuts) (tabG t)) d307 = true := by kernel_rfl

noncomputable def d308 : List DeepE := [⟨22,[va [vi 5,vi 5],va [vi 3,vi 5]],[],vr 0 0 4 9223372036854775808,[r60]⟩]
theorem d308_run (t : Nat → TypeId) : allL (deepOk Tryz.prog (deepOrc Tryz.prog (tabG t) (gO ([])) 2305843009213693952 (d9) noCuts) (tabG t)) d308 = true := by kernel_rfl

noncomputable def d309 : List DeepE := [⟨22,[va [vi 5,vi 5],va [vi 3,vi 7]],[],vr 0 0 4 9223372036854775808,[r101]⟩]
theorem d309_run (t : Nat → TypeId) : allL (deepOk Tryz.prog (deepOrc Tryz.prog (tabG t) (gO ([])) 2305843009213693952 (d9) noCuts) (tabG t)) d309 = true := by kernel_rfl

noncomputable def d310 : List DeepE := [⟨22,[va [vi 5,vi 5],va [vi 3,vi 9]],[],vr 0 0 4 9223372036854775808,[r110]⟩]
theorem d310_run (t : Nat → TypeId) : allL (deepOk Tryz.prog (deepOrc Tryz.prog (tabG t) (gO ([])) 2305843009213693952 (d9) noCuts) (tabG t)) d310 = true := by kernel_rfl

end Go.Proofs.YtpieoofkikjjjaaGreatDoor
