/-
  Says: what calls answer, as the kernel runs them (level 1).
-/
import Derived.Test.YtpieoofkikjjjaaGreatDoorKr
import Derived.Test.YtpieoofkikjjjaaGreatDoorKa0
import Derived.KernelRfl
set_option maxRecDepth 1000000
set_option linter.unusedVariables false
set_option linter.unusedSimpArgs false
namespace Go.Proofs.YtpieoofkikjjjaaGreatDoor
open Go Go.Vx
attribute [local instance] anySyms

noncomputable def d185 : List DeepE := [⟨22,[va [vi 5,vi 3],va [vi 3,vi 3]],[],vr 0 0 4 9223372036854775808,[r54]⟩]
theorem d185_run (t : Nat → TypeId) : allL (deepOk Tryz.prog (deepOrc Tryz.prog (tabG t) (gO ([])) 2305843009213693952 (d9) noCuts) (tabG t)) d185 = true := by kernel_rfl

noncomputable def d186 : List DeepE := [⟨22,[va [vi 5,vi 3],va [vi 3,vi 5]],[],vr 0 0 4 9223372036854775808,[r60]⟩]
theorem d186_run (t : Nat → TypeId) : allL (deepOk Tryz.prog (deepOrc Tryz.prog (tabG t) (gO ([])) 2305843009213693952 (d9) noCuts) (tabG t)) d186 = true := by kernel_rfl

noncomputable def d187 : List DeepE := [⟨22,[va [vi 5,vi 3],va [vi 5,vi 1]],[],vr 0 0 4 9223372036854775808,[r53]⟩]
theorem d187_run (t : Nat → TypeId) : allL (deepOk Tryz.prog (deepOrc Tryz.prog (tabG t) (gO ([])) 2305843009213693952 (d9) noCuts) (tabG t)) d187 = true := by kernel_rfl

noncomputable def d188 : List DeepE := [⟨22,[va [vi 5,vi 3],va [vi 5,vi 3]],[],vr 0 0 4 9223372036854775808,[r56]⟩]
theorem d188_run (t : Nat → TypeId) : allL (deepOk Tryz.prog (deepOrc Tryz.prog (tabG t) (gO ([])) 2305843009213693952 (d9) noCuts) (tabG t)) d188 = true := by kernel_rfl

noncomputable def d189 : List DeepE := [⟨22,[va [vi 5,vi 3],va [vi 5,vi 5]],[],vr 0 0 4 9223372036854775808,[r61]⟩]
theorem d189_run (t : Nat → TypeId) : allL (deepOk Tryz.prog (deepOrc Tryz.prog (tabG t) (gO ([])) 2305843009213693952 (d9) noCuts) (tabG t)) d189 = true := by kernel_rfl

noncomputable def d190 : List DeepE := [⟨22,[va [vi 5,vi 3],va [vi 7,vi 1]],[],vr 0 0 4 9223372036854775808,[r55]⟩]
theorem d190_run (t : Nat → TypeId) : allL (deepOk Tryz.prog (deepOrc Tryz.prog (tabG t) (gO ([])) 2305843009213693952 (d9) noCuts) (tabG t)) d190 = true := by kernel_rfl

noncomputable def d191 : List DeepE := [⟨22,[va [vi 5,vi 3],va [vi 7,vi 3]],[],vr 0 0 4 9223372036854775808,[r57]⟩]
theorem d191_run (t : Nat → TypeId) : allL (deepOk Tryz.prog (deepOrc Tryz.prog (tabG t) (gO ([])) 2305843009213693952 (d9) noCuts) (tabG t)) d191 = true := by kernel_rfl

noncomputable def d192 : List DeepE := [⟨22,[va [vi 5,vi 3],va [vi 7,vi 5]],[],vr 0 0 4 9223372036854775808,[r62]⟩]
theorem d192_run (t : Nat → TypeId) : allL (deepOk Tryz.prog (deepOrc Tryz.prog (tabG t) (gO ([])) 2305843009213693952 (d9) noCuts) (tabG t)) d192 = true := by kernel_rfl

noncomputable def d193 : List DeepE := [⟨22,[va [vi 5,vi 3],va [vi 9,vi 1]],[],vr 0 0 4 9223372036854775808,[r51]⟩]
theorem d193_run (t : Nat → TypeId) : allL (deepOk Tryz.prog (deepOrc Tryz.prog (tabG t) (gO ([])) 2305843009213693952 (d9) noCuts) (tabG t)) d193 = true := by kernel_rfl

noncomputable def d194 : List DeepE := [⟨22,[va [vi 5,vi 3],va [vi 9,vi 3]],[],vr 0 0 4 9223372036854775808,[r58]⟩]
theorem d194_run (t : Nat → TypeId) : allL (deepOk Tryz.prog (deepOrc Tryz.prog (tabG t) (gO ([])) 2305843009213693952 (d9) noCuts) (tabG t)) d194 = true := by kernel_rfl

noncomputable def d195 : List DeepE := [⟨22,[va [vi 5,vi 3],va [vi 9,vi 5]],[],vr 0 0 4 9223372036854775808,[r63]⟩]
theorem d195_run (t : Nat → TypeId) : allL (deepOk Tryz.prog (deepOrc Tryz.prog (tabG t) (gO ([])) 2305843009213693952 (d9) noCuts) (tabG t)) d195 = true := by kernel_rfl

end Go.Proofs.YtpieoofkikjjjaaGreatDoor
