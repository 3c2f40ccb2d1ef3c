/-
  Says: what calls answer, as the kernel runs them (level 1).
-/
import Derived.Test.YtpieoofkikjjjaaGreatDoorKr
import Derived.Test.YtpieoofkikjjjaaGreatDoorKa0
import Derived.KernelRfl
set_option maxRecDepth 1000000
set_option linter.unusedVariables false
set_option linter.unusedSimpArgs false
namespace Go.Proofs.YtpieoofkikjjjaaGreatDoor
open Go Go.Vx
attribute [local instance] anySyms

noncomputable def d243 : List DeepE := [⟨22,[va [vi 5,vi 4],va [vi 8,vi 4]],[],vr 0 0 8 9223372036854775808,[r88]⟩]
theorem d243_run (t : Nat → TypeId) : allL (deepOk Tryz.prog (deepOrc Tryz.prog (tabG t) (gO ([])) 2305843009213693952 (d9) noCuts) (tabG t)) d243 = true := by kernel_rfl

noncomputable def d244 : List DeepE := [⟨22,[va [vi 5,vi 4],va [vi 8,vi 6]],[],vr 0 0 8 9223372036854775808,[r100]⟩]
theorem d244_run (t : Nat → TypeId) : allL (deepOk Tryz.prog (deepOrc Tryz.prog (tabG t) (gO ([])) 2305843009213693952 (d9) noCuts) (tabG t)) d244 = true := by kernel_rfl

noncomputable def d245 : List DeepE := [⟨22,[va [vi 4,vi 5],va [vi 1,vi 1]],[],vr 0 0 4 9223372036854775808,[r25]⟩]
theorem d245_run (t : Nat → TypeId) : allL (deepOk Tryz.prog (deepOrc Tryz.prog (tabG t) (gO ([])) 2305843009213693952 (d9) noCuts) (tabG t)) d245 = true := by kernel_rfl

noncomputable def d246 : List DeepE := [⟨22,[va [vi 4,vi 5],va [vi 1,vi 3]],[],vr 0 0 4 9223372036854775808,[r51]⟩]
theorem d246_run (t : Nat → TypeId) : allL (deepOk Tryz.prog (deepOrc Tryz.prog (tabG t) (gO ([])) 2305843009213693952 (d9) noCuts) (tabG t)) d246 = true := by kernel_rfl

noncomputable def d247 : List DeepE := [⟨22,[va [vi 4,vi 5],va [vi 1,vi 5]],[],vr 0 0 4 9223372036854775808,[r57]⟩]
theorem d247_run (t : Nat → TypeId) : allL (deepOk Tryz.prog (deepOrc Tryz.prog (tabG t) (gO ([])) 2305843009213693952 (d9) noCuts) (tabG t)) d247 = true := by kernel_rfl

noncomputable def d248 : List DeepE := [⟨22,[va [vi 4,vi 5],va [vi 1,vi 7]],[],vr 0 0 4 9223372036854775808,[r61]⟩]
theorem d248_run (t : Nat → TypeId) : allL (deepOk Tryz.prog (deepOrc Tryz.prog (tabG t) (gO ([])) 2305843009213693952 (d9) noCuts) (tabG t)) d248 = true := by kernel_rfl

noncomputable def d249 : List DeepE := [⟨22,[va [vi 4,vi 5],va [vi 1,vi 9]],[],vr 0 0 4 9223372036854775808,[r101]⟩]
theorem d249_run (t : Nat → TypeId) : allL (deepOk Tryz.prog (deepOrc Tryz.prog (tabG t) (gO ([])) 2305843009213693952 (d9) noCuts) (tabG t)) d249 = true := by kernel_rfl

noncomputable def d250 : List DeepE := [⟨22,[va [vi 4,vi 5],va [vi 3,vi 1]],[],vr 0 0 4 9223372036854775808,[r50]⟩]
theorem d250_run (t : Nat → TypeId) : allL (deepOk Tryz.prog (deepOrc Tryz.prog (tabG t) (gO ([])) 2305843009213693952 (d9) noCuts) (tabG t)) d250 = true := by kernel_rfl

end Go.Proofs.YtpieoofkikjjjaaGreatDoor
