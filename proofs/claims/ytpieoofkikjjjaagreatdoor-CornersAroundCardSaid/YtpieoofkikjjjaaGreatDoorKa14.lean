/-
  Says: what calls answer, as the kernel runs them (level 1).
-/
import Derived.Test.YtpieoofkikjjjaaGreatDoorKr
import Derived.Test.YtpieoofkikjjjaaGreatDoorKa0
import Derived.KernelRfl
set_option maxRecDepth 1000000
set_option linter.unusedVariables false
set_option linter.unusedSimpArgs false
namespace Go.Proofs.YtpieoofkikjjjaaGreatDoor
open Go Go.Vx
attribute [local instance] anySyms

noncomputable def d207 : List DeepE := [⟨22,[va [vi 4,vi 4],va [vi 1,vi 5]],[],vr 0 0 4 9223372036854775808,[r57]⟩]
theorem d207_run (t : Nat → TypeId) : allL (deepOk Tryz.prog (deepOrc Tryz.prog (tabG t) (gO ([])) 2305843009213693952 (d9) noCuts) (tabG t)) d207 = true := by kernel_rfl

noncomputable def d208 : List DeepE := [⟨22,[va [vi 4,vi 4],va [vi 1,vi 7]],[],vr 0 0 4 9223372036854775808,[r61]⟩]
theorem d208_run (t : Nat → TypeId) : allL (deepOk Tryz.prog (deepOrc Tryz.prog (tabG t) (gO ([])) 2305843009213693952 (d9) noCuts) (tabG t)) d208 = true := by kernel_rfl

noncomputable def d209 : List DeepE := [⟨22,[va [vi 4,vi 4],va [vi 3,vi 1]],[],vr 0 0 4 9223372036854775808,[r50]⟩]
theorem d209_run (t : Nat → TypeId) : allL (deepOk Tryz.prog (deepOrc Tryz.prog (tabG t) (gO ([])) 2305843009213693952 (d9) noCuts) (tabG t)) d209 = true := by kernel_rfl

noncomputable def d210 : List DeepE := [⟨22,[va [vi 4,vi 4],va [vi 3,vi 3]],[],vr 0 0 4 9223372036854775808,[r52]⟩]
theorem d210_run (t : Nat → TypeId) : allL (deepOk Tryz.prog (deepOrc Tryz.prog (tabG t) (gO ([])) 2305843009213693952 (d9) noCuts) (tabG t)) d210 = true := by kernel_rfl

noncomputable def d211 : List DeepE := [⟨22,[va [vi 4,vi 4],va [vi 3,vi 5]],[],vr 0 0 4 9223372036854775808,[r58]⟩]
theorem d211_run (t : Nat → TypeId) : allL (deepOk Tryz.prog (deepOrc Tryz.prog (tabG t) (gO ([])) 2305843009213693952 (d9) noCuts) (tabG t)) d211 = true := by kernel_rfl

noncomputable def d212 : List DeepE := [⟨22,[va [vi 4,vi 4],va [vi 3,vi 7]],[],vr 0 0 4 9223372036854775808,[r62]⟩]
theorem d212_run (t : Nat → TypeId) : allL (deepOk Tryz.prog (deepOrc Tryz.prog (tabG t) (gO ([])) 2305843009213693952 (d9) noCuts) (tabG t)) d212 = true := by kernel_rfl

noncomputable def d213 : List DeepE := [⟨22,[va [vi 4,vi 4],va [vi 5,vi 1]],[],vr 0 0 4 9223372036854775808,[r53]⟩]
theorem d213_run (t : Nat → TypeId) : allL (deepOk Tryz.prog (deepOrc Tryz.prog (tabG t) (gO ([])) 2305843009213693952 (d9) noCuts) (tabG t)) d213 = true := by kernel_rfl

noncomputable def d214 : List DeepE := [⟨22,[va [vi 4,vi 4],va [vi 5,vi 3]],[],vr 0 0 4 9223372036854775808,[r54]⟩]
theorem d214_run (t : Nat → TypeId) : allL (deepOk Tryz.prog (deepOrc Tryz.prog (tabG t) (gO ([])) 2305843009213693952 (d9) noCuts) (tabG t)) d214 = true := by kernel_rfl

noncomputable def d215 : List DeepE := [⟨22,[va [vi 4,vi 4],va [vi 5,vi 5]],[],vr 0 0 4 9223372036854775808,[r59]⟩]
theorem d215_run (t : Nat → TypeId) : allL (deepOk Tryz.prog (deepOrc Tryz.prog (tabG t) (gO ([])) 2305843009213693952 (d9) noCuts) (tabG t)) d215 = true := by kernel_rfl

noncomputable def d216 : List DeepE := [⟨22,[va [vi 4,vi 4],va [vi 5,vi 7]],[],vr 0 0 4 9223372036854775808,[r63]⟩]
theorem d216_run (t : Nat → TypeId) : allL (deepOk Tryz.prog (deepOrc Tryz.prog (tabG t) (gO ([])) 2305843009213693952 (d9) noCuts) (tabG t)) d216 = true := by kernel_rfl

noncomputable def d217 : List DeepE := [⟨22,[va [vi 4,vi 4],va [vi 7,vi 1]],[],vr 0 0 4 9223372036854775808,[r55]⟩]
theorem d217_run (t : Nat → TypeId) : allL (deepOk Tryz.prog (deepOrc Tryz.prog (tabG t) (gO ([])) 2305843009213693952 (d9) noCuts) (tabG t)) d217 = true := by kernel_rfl

end Go.Proofs.YtpieoofkikjjjaaGreatDoor
