/-
  Says: what calls answer, as the kernel runs them (level 1).
-/
import Derived.Test.YtpieoofkikjjjaaGreatDoorKr
import Derived.Test.YtpieoofkikjjjaaGreatDoorKa0
import Derived.KernelRfl
set_option maxRecDepth 1000000
set_option linter.unusedVariables false
set_option linter.unusedSimpArgs false
namespace Go.Proofs.YtpieoofkikjjjaaGreatDoor
open Go Go.Vx
attribute [local instance] anySyms

noncomputable def d259 : List DeepE := [⟨22,[va [vi 4,vi 5],va [vi 5,vi 9]],[],vr 0 0 4 9223372036854775808,[r103]⟩]
theorem d259_run (t : Nat → TypeId) : allL (deepOk Tryz.prog (deepOrc Tryz.prog (tabG t) (gO ([])) 2305843009213693952 (d9) noCuts) (tabG t)) d259 = true := by kernel_rfl

noncomputable def d260 : List DeepE := [⟨22,[va [vi 4,vi 5],va [vi 7,vi 1]],[],vr 0 0 4 9223372036854775808,[r55]⟩]
theorem d260_run (t : Nat → TypeId) : allL (deepOk Tryz.prog (deepOrc Tryz.prog (tabG t) (gO ([])) 2305843009213693952 (d9) noCuts) (tabG t)) d260 = true := by kernel_rfl

noncomputable def d261 : List DeepE := [⟨22,[va [vi 4,vi 5],va [vi 7,vi 3]],[],vr 0 0 4 9223372036854775808,[r56]⟩]
theorem d261_run (t : Nat → TypeId) : allL (deepOk Tryz.prog (deepOrc Tryz.prog (tabG t) (gO ([])) 2305843009213693952 (d9) noCuts) (tabG t)) d261 = true := by kernel_rfl

noncomputable def d262 : List DeepE := [⟨22,[va [vi 4,vi 5],va [vi 7,vi 5]],[],vr 0 0 4 9223372036854775808,[r60]⟩]
theorem d262_run (t : Nat → TypeId) : allL (deepOk Tryz.prog (deepOrc Tryz.prog (tabG t) (gO ([])) 2305843009213693952 (d9) noCuts) (tabG t)) d262 = true := by kernel_rfl

noncomputable def d263 : List DeepE := [⟨22,[va [vi 4,vi 5],va [vi 7,vi 7]],[],vr 0 0 4 9223372036854775808,[r73]⟩]
theorem d263_run (t : Nat → TypeId) : allL (deepOk Tryz.prog (deepOrc Tryz.prog (tabG t) (gO ([])) 2305843009213693952 (d9) noCuts) (tabG t)) d263 = true := by kernel_rfl

noncomputable def d264 : List DeepE := [⟨22,[va [vi 4,vi 5],va [vi 7,vi 9]],[],vr 0 0 4 9223372036854775808,[r104]⟩]
theorem d264_run (t : Nat → TypeId) : allL (deepOk Tryz.prog (deepOrc Tryz.prog (tabG t) (gO ([])) 2305843009213693952 (d9) noCuts) (tabG t)) d264 = true := by kernel_rfl

noncomputable def d265 : List DeepE := [⟨22,[va [vi 5,vi 4],va [vi 1,vi 1]],[],vr 0 0 4 9223372036854775808,[r25]⟩]
theorem d265_run (t : Nat → TypeId) : allL (deepOk Tryz.prog (deepOrc Tryz.prog (tabG t) (gO ([])) 2305843009213693952 (d9) noCuts) (tabG t)) d265 = true := by kernel_rfl

noncomputable def d266 : List DeepE := [⟨22,[va [vi 5,vi 4],va [vi 1,vi 3]],[],vr 0 0 4 9223372036854775808,[r52]⟩]
theorem d266_run (t : Nat → TypeId) : allL (deepOk Tryz.prog (deepOrc Tryz.prog (tabG t) (gO ([])) 2305843009213693952 (d9) noCuts) (tabG t)) d266 = true := by kernel_rfl

end Go.Proofs.YtpieoofkikjjjaaGreatDoor
