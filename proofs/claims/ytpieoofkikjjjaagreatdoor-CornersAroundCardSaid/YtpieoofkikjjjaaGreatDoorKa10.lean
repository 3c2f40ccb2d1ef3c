/-
  Says: what calls answer, as the kernel runs them (level 1).
-/
import Derived.Test.YtpieoofkikjjjaaGreatDoorKr
import Derived.Test.YtpieoofkikjjjaaGreatDoorKa0
import Derived.KernelRfl
set_option maxRecDepth 1000000
set_option linter.unusedVariables false
set_option linter.unusedSimpArgs false
namespace Go.Proofs.YtpieoofkikjjjaaGreatDoor
open Go Go.Vx
attribute [local instance] anySyms

noncomputable def d163 : List DeepE := [⟨22,[va [vi 5,vi 3],va [vi 6,vi 4]],[],vr 0 0 8 9223372036854775808,[r87]⟩]
theorem d163_run (t : Nat → TypeId) : allL (deepOk Tryz.prog (deepOrc Tryz.prog (tabG t) (gO ([])) 2305843009213693952 (d9) noCuts) (tabG t)) d163 = true := by kernel_rfl

noncomputable def d164 : List DeepE := [⟨22,[va [vi 5,vi 3],va [vi 8,vi 2]],[],vr 0 0 8 9223372036854775808,[r77]⟩]
theorem d164_run (t : Nat → TypeId) : allL (deepOk Tryz.prog (deepOrc Tryz.prog (tabG t) (gO ([])) 2305843009213693952 (d9) noCuts) (tabG t)) d164 = true := by kernel_rfl

noncomputable def d165 : List DeepE := [⟨22,[va [vi 5,vi 3],va [vi 8,vi 4]],[],vr 0 0 8 9223372036854775808,[r88]⟩]
theorem d165_run (t : Nat → TypeId) : allL (deepOk Tryz.prog (deepOrc Tryz.prog (tabG t) (gO ([])) 2305843009213693952 (d9) noCuts) (tabG t)) d165 = true := by kernel_rfl

noncomputable def d166 : List DeepE := [⟨22,[va [vi 3,vi 5],va [vi 1,vi 1]],[],vr 0 0 4 9223372036854775808,[r25]⟩]
theorem d166_run (t : Nat → TypeId) : allL (deepOk Tryz.prog (deepOrc Tryz.prog (tabG t) (gO ([])) 2305843009213693952 (d9) noCuts) (tabG t)) d166 = true := by kernel_rfl

noncomputable def d167 : List DeepE := [⟨22,[va [vi 3,vi 5],va [vi 1,vi 3]],[],vr 0 0 4 9223372036854775808,[r55]⟩]
theorem d167_run (t : Nat → TypeId) : allL (deepOk Tryz.prog (deepOrc Tryz.prog (tabG t) (gO ([])) 2305843009213693952 (d9) noCuts) (tabG t)) d167 = true := by kernel_rfl

noncomputable def d168 : List DeepE := [⟨22,[va [vi 3,vi 5],va [vi 1,vi 5]],[],vr 0 0 4 9223372036854775808,[r54]⟩]
theorem d168_run (t : Nat → TypeId) : allL (deepOk Tryz.prog (deepOrc Tryz.prog (tabG t) (gO ([])) 2305843009213693952 (d9) noCuts) (tabG t)) d168 = true := by kernel_rfl

noncomputable def d169 : List DeepE := [⟨22,[va [vi 3,vi 5],va [vi 1,vi 7]],[],vr 0 0 4 9223372036854775808,[r58]⟩]
theorem d169_run (t : Nat → TypeId) : allL (deepOk Tryz.prog (deepOrc Tryz.prog (tabG t) (gO ([])) 2305843009213693952 (d9) noCuts) (tabG t)) d169 = true := by kernel_rfl

noncomputable def d170 : List DeepE := [⟨22,[va [vi 3,vi 5],va [vi 1,vi 9]],[],vr 0 0 4 9223372036854775808,[r61]⟩]
theorem d170_run (t : Nat → TypeId) : allL (deepOk Tryz.prog (deepOrc Tryz.prog (tabG t) (gO ([])) 2305843009213693952 (d9) noCuts) (tabG t)) d170 = true := by kernel_rfl

noncomputable def d171 : List DeepE := [⟨22,[va [vi 3,vi 5],va [vi 3,vi 1]],[],vr 0 0 4 9223372036854775808,[r50]⟩]
theorem d171_run (t : Nat → TypeId) : allL (deepOk Tryz.prog (deepOrc Tryz.prog (tabG t) (gO ([])) 2305843009213693952 (d9) noCuts) (tabG t)) d171 = true := by kernel_rfl

noncomputable def d172 : List DeepE := [⟨22,[va [vi 3,vi 5],va [vi 3,vi 3]],[],vr 0 0 4 9223372036854775808,[r51]⟩]
theorem d172_run (t : Nat → TypeId) : allL (deepOk Tryz.prog (deepOrc Tryz.prog (tabG t) (gO ([])) 2305843009213693952 (d9) noCuts) (tabG t)) d172 = true := by kernel_rfl

noncomputable def d173 : List DeepE := [⟨22,[va [vi 3,vi 5],va [vi 3,vi 5]],[],vr 0 0 4 9223372036854775808,[r56]⟩]
theorem d173_run (t : Nat → TypeId) : allL (deepOk Tryz.prog (deepOrc Tryz.prog (tabG t) (gO ([])) 2305843009213693952 (d9) noCuts) (tabG t)) d173 = true := by kernel_rfl

end Go.Proofs.YtpieoofkikjjjaaGreatDoor
