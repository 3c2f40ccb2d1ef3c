/-
  Says: what calls answer, as the kernel runs them (level 1).
-/
import Derived.Test.YtpieoofkikjjjaaGreatDoorKr
import Derived.Test.YtpieoofkikjjjaaGreatDoorKa0
import Derived.KernelRfl
set_option maxRecDepth 1000000
set_option linter.unusedVariables false
set_option linter.unusedSimpArgs false
namespace Go.Proofs.YtpieoofkikjjjaaGreatDoor
open Go Go.Vx
attribute [local instance] anySyms

noncomputable def d297 : List DeepE := [⟨22,[va [vi 5,vi 5],va [vi 8,vi 2]],[],vr 0 0 8 9223372036854775808,[r77]⟩]
theorem d297_run (t : Nat → TypeId) : allL (deepOk Tryz.prog (deepOrc Tryz.prog (tabG t) (gO ([])) 2305843009213693952 (d9) noCuts) (tabG t)) d297 = true := by kernel_rfl

noncomputable def d298 : List DeepE := [⟨22,[va [vi 5,vi 5],va [vi 8,vi 4]],[],vr 0 0 8 9223372036854775808,[r88]⟩]
theorem d298_run (t : Nat → TypeId) : allL (deepOk Tryz.prog (deepOrc Tryz.prog (tabG t) (gO ([])) 2305843009213693952 (d9) noCuts) (tabG t)) d298 = true := by kernel_rfl

noncomputable def d299 : List DeepE := [⟨22,[va [vi 5,vi 5],va [vi 8,vi 6]],[],vr 0 0 8 9223372036854775808,[r100]⟩]
theorem d299_run (t : Nat → TypeId) : allL (deepOk Tryz.prog (deepOrc Tryz.prog (tabG t) (gO ([])) 2305843009213693952 (d9) noCuts) (tabG t)) d299 = true := by kernel_rfl

noncomputable def d300 : List DeepE := [⟨22,[va [vi 5,vi 5],va [vi 8,vi 8]],[],vr 0 0 8 9223372036854775808,[r108]⟩]
theorem d300_run (t : Nat → TypeId) : allL (deepOk Tryz.prog (deepOrc Tryz.prog (tabG t) (gO ([])) 2305843009213693952 (d9) noCuts) (tabG t)) d300 = true := by kernel_rfl

noncomputable def d301 : List DeepE := [⟨22,[va [vi 5,vi 5],va [vi 1,vi 1]],[],vr 0 0 4 9223372036854775808,[r25]⟩]
theorem d301_run (t : Nat → TypeId) : allL (deepOk Tryz.prog (deepOrc Tryz.prog (tabG t) (gO ([])) 2305843009213693952 (d9) noCuts) (tabG t)) d301 = true := by kernel_rfl

noncomputable def d302 : List DeepE := [⟨22,[va [vi 5,vi 5],va [vi 1,vi 3]],[],vr 0 0 4 9223372036854775808,[r52]⟩]
theorem d302_run (t : Nat → TypeId) : allL (deepOk Tryz.prog (deepOrc Tryz.prog (tabG t) (gO ([])) 2305843009213693952 (d9) noCuts) (tabG t)) d302 = true := by kernel_rfl

noncomputable def d303 : List DeepE := [⟨22,[va [vi 5,vi 5],va [vi 1,vi 5]],[],vr 0 0 4 9223372036854775808,[r59]⟩]
theorem d303_run (t : Nat → TypeId) : allL (deepOk Tryz.prog (deepOrc Tryz.prog (tabG t) (gO ([])) 2305843009213693952 (d9) noCuts) (tabG t)) d303 = true := by kernel_rfl

end Go.Proofs.YtpieoofkikjjjaaGreatDoor
