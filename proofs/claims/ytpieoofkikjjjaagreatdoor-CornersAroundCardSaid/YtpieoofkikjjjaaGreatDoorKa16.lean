/-
  Says: what calls answer, as the kernel runs them (level 1).
-/
import Derived.Test.YtpieoofkikjjjaaGreatDoorKr
import Derived.Test.YtpieoofkikjjjaaGreatDoorKa0
import Derived.KernelRfl
set_option maxRecDepth 1000000
set_option linter.unusedVariables false
set_option linter.unusedSimpArgs false
namespace Go.Proofs.YtpieoofkikjjjaaGreatDoor
open Go Go.Vx
attribute [local instance] anySyms

noncomputable def d227 : List DeepE := [⟨22,[va [vi 4,vi 5],va [vi 4,vi 6]],[],vr 0 0 8 9223372036854775808,[r92]⟩]
theorem d227_run (t : Nat → TypeId) : allL (deepOk Tryz.prog (deepOrc Tryz.prog (tabG t) (gO ([])) 2305843009213693952 (d9) noCuts) (tabG t)) d227 = true := by kernel_rfl

noncomputable def d228 : List DeepE := [⟨22,[va [vi 4,vi 5],va [vi 4,vi 8]],[],vr 0 0 8 9223372036854775808,[r98]⟩]
theorem d228_run (t : Nat → TypeId) : allL (deepOk Tryz.prog (deepOrc Tryz.prog (tabG t) (gO ([])) 2305843009213693952 (d9) noCuts) (tabG t)) d228 = true := by kernel_rfl

noncomputable def d229 : List DeepE := [⟨22,[va [vi 4,vi 5],va [vi 6,vi 2]],[],vr 0 0 8 9223372036854775808,[r71]⟩]
theorem d229_run (t : Nat → TypeId) : allL (deepOk Tryz.prog (deepOrc Tryz.prog (tabG t) (gO ([])) 2305843009213693952 (d9) noCuts) (tabG t)) d229 = true := by kernel_rfl

noncomputable def d230 : List DeepE := [⟨22,[va [vi 4,vi 5],va [vi 6,vi 4]],[],vr 0 0 8 9223372036854775808,[r83]⟩]
theorem d230_run (t : Nat → TypeId) : allL (deepOk Tryz.prog (deepOrc Tryz.prog (tabG t) (gO ([])) 2305843009213693952 (d9) noCuts) (tabG t)) d230 = true := by kernel_rfl

noncomputable def d231 : List DeepE := [⟨22,[va [vi 4,vi 5],va [vi 6,vi 6]],[],vr 0 0 8 9223372036854775808,[r93]⟩]
theorem d231_run (t : Nat → TypeId) : allL (deepOk Tryz.prog (deepOrc Tryz.prog (tabG t) (gO ([])) 2305843009213693952 (d9) noCuts) (tabG t)) d231 = true := by kernel_rfl

noncomputable def d232 : List DeepE := [⟨22,[va [vi 4,vi 5],va [vi 6,vi 8]],[],vr 0 0 8 9223372036854775808,[r99]⟩]
theorem d232_run (t : Nat → TypeId) : allL (deepOk Tryz.prog (deepOrc Tryz.prog (tabG t) (gO ([])) 2305843009213693952 (d9) noCuts) (tabG t)) d232 = true := by kernel_rfl

noncomputable def d233 : List DeepE := [⟨22,[va [vi 5,vi 4],va [vi 2,vi 2]],[],vr 0 0 8 9223372036854775808,[r70]⟩]
theorem d233_run (t : Nat → TypeId) : allL (deepOk Tryz.prog (deepOrc Tryz.prog (tabG t) (gO ([])) 2305843009213693952 (d9) noCuts) (tabG t)) d233 = true := by kernel_rfl

noncomputable def d234 : List DeepE := [⟨22,[va [vi 5,vi 4],va [vi 2,vi 4]],[],vr 0 0 8 9223372036854775808,[r85]⟩]
theorem d234_run (t : Nat → TypeId) : allL (deepOk Tryz.prog (deepOrc Tryz.prog (tabG t) (gO ([])) 2305843009213693952 (d9) noCuts) (tabG t)) d234 = true := by kernel_rfl

end Go.Proofs.YtpieoofkikjjjaaGreatDoor
