/-
  Says: what calls answer, as the kernel runs them (level 1).
-/
import Derived.Test.YtpieoofkikjjjaaGreatDoorKr
import Derived.Test.YtpieoofkikjjjaaGreatDoorKa0
import Derived.KernelRfl
set_option maxRecDepth 1000000
set_option linter.unusedVariables false
set_option linter.unusedSimpArgs false
namespace Go.Proofs.YtpieoofkikjjjaaGreatDoor
open Go Go.Vx
attribute [local instance] anySyms

noncomputable def d196 : List DeepE := [⟨22,[va [vi 4,vi 4],va [vi 2,vi 2]],[],vr 0 0 8 9223372036854775808,[r67]⟩]
theorem d196_run (t : Nat → TypeId) : allL (deepOk Tryz.prog (deepOrc Tryz.prog (tabG t) (gO ([])) 2305843009213693952 (d9) noCuts) (tabG t)) d196 = true := by kernel_rfl

noncomputable def d197 : List DeepE := [⟨22,[va [vi 4,vi 4],va [vi 2,vi 4]],[],vr 0 0 8 9223372036854775808,[r80]⟩]
theorem d197_run (t : Nat → TypeId) : allL (deepOk Tryz.prog (deepOrc Tryz.prog (tabG t) (gO ([])) 2305843009213693952 (d9) noCuts) (tabG t)) d197 = true := by kernel_rfl

noncomputable def d198 : List DeepE := [⟨22,[va [vi 4,vi 4],va [vi 2,vi 6]],[],vr 0 0 8 9223372036854775808,[r90]⟩]
theorem d198_run (t : Nat → TypeId) : allL (deepOk Tryz.prog (deepOrc Tryz.prog (tabG t) (gO ([])) 2305843009213693952 (d9) noCuts) (tabG t)) d198 = true := by kernel_rfl

noncomputable def d199 : List DeepE := [⟨22,[va [vi 4,vi 4],va [vi 4,vi 2]],[],vr 0 0 8 9223372036854775808,[r69]⟩]
theorem d199_run (t : Nat → TypeId) : allL (deepOk Tryz.prog (deepOrc Tryz.prog (tabG t) (gO ([])) 2305843009213693952 (d9) noCuts) (tabG t)) d199 = true := by kernel_rfl

noncomputable def d200 : List DeepE := [⟨22,[va [vi 4,vi 4],va [vi 4,vi 4]],[],vr 0 0 8 9223372036854775808,[r81]⟩]
theorem d200_run (t : Nat → TypeId) : allL (deepOk Tryz.prog (deepOrc Tryz.prog (tabG t) (gO ([])) 2305843009213693952 (d9) noCuts) (tabG t)) d200 = true := by kernel_rfl

noncomputable def d201 : List DeepE := [⟨22,[va [vi 4,vi 4],va [vi 4,vi 6]],[],vr 0 0 8 9223372036854775808,[r92]⟩]
theorem d201_run (t : Nat → TypeId) : allL (deepOk Tryz.prog (deepOrc Tryz.prog (tabG t) (gO ([])) 2305843009213693952 (d9) noCuts) (tabG t)) d201 = true := by kernel_rfl

noncomputable def d202 : List DeepE := [⟨22,[va [vi 4,vi 4],va [vi 6,vi 2]],[],vr 0 0 8 9223372036854775808,[r71]⟩]
theorem d202_run (t : Nat → TypeId) : allL (deepOk Tryz.prog (deepOrc Tryz.prog (tabG t) (gO ([])) 2305843009213693952 (d9) noCuts) (tabG t)) d202 = true := by kernel_rfl

noncomputable def d203 : List DeepE := [⟨22,[va [vi 4,vi 4],va [vi 6,vi 4]],[],vr 0 0 8 9223372036854775808,[r83]⟩]
theorem d203_run (t : Nat → TypeId) : allL (deepOk Tryz.prog (deepOrc Tryz.prog (tabG t) (gO ([])) 2305843009213693952 (d9) noCuts) (tabG t)) d203 = true := by kernel_rfl

noncomputable def d204 : List DeepE := [⟨22,[va [vi 4,vi 4],va [vi 6,vi 6]],[],vr 0 0 8 9223372036854775808,[r93]⟩]
theorem d204_run (t : Nat → TypeId) : allL (deepOk Tryz.prog (deepOrc Tryz.prog (tabG t) (gO ([])) 2305843009213693952 (d9) noCuts) (tabG t)) d204 = true := by kernel_rfl

noncomputable def d205 : List DeepE := [⟨22,[va [vi 4,vi 4],va [vi 1,vi 1]],[],vr 0 0 4 9223372036854775808,[r25]⟩]
theorem d205_run (t : Nat → TypeId) : allL (deepOk Tryz.prog (deepOrc Tryz.prog (tabG t) (gO ([])) 2305843009213693952 (d9) noCuts) (tabG t)) d205 = true := by kernel_rfl

noncomputable def d206 : List DeepE := [⟨22,[va [vi 4,vi 4],va [vi 1,vi 3]],[],vr 0 0 4 9223372036854775808,[r51]⟩]
theorem d206_run (t : Nat → TypeId) : allL (deepOk Tryz.prog (deepOrc Tryz.prog (tabG t) (gO ([])) 2305843009213693952 (d9) noCuts) (tabG t)) d206 = true := by kernel_rfl

end Go.Proofs.YtpieoofkikjjjaaGreatDoor
