/-
  Says: what calls answer, as the kernel runs them (level 1).
-/
import Derived.Test.YtpieoofkikjjjaaGreatDoorKr
import Derived.Test.YtpieoofkikjjjaaGreatDoorKa0
import Derived.KernelRfl
set_option maxRecDepth 1000000
set_option linter.unusedVariables false
set_option linter.unusedSimpArgs false
namespace Go.Proofs.YtpieoofkikjjjaaGreatDoor
open Go Go.Vx
attribute [local instance] anySyms

noncomputable def d311 : List DeepE := [⟨22,[va [vi 5,vi 5],va [vi 5,vi 1]],[],vr 0 0 4 9223372036854775808,[r53]⟩]
theorem d311_run (t : Nat → TypeId) : allL (deepOk Tryz.prog (deepOrc Tryz.prog (tabG t) (gO ([])) 2305843009213693952 (d9) noCuts) (tabG t)) d311 = true := by kernel_rfl

noncomputable def d312 : List DeepE := [⟨22,[va [vi 5,vi 5],va [vi 5,vi 3]],[],vr 0 0 4 9223372036854775808,[r56]⟩]
theorem d312_run (t : Nat → TypeId) : allL (deepOk Tryz.prog (deepOrc Tryz.prog (tabG t) (gO ([])) 2305843009213693952 (d9) noCuts) (tabG t)) d312 = true := by kernel_rfl

noncomputable def d313 : List DeepE := [⟨22,[va [vi 5,vi 5],va [vi 5,vi 5]],[],vr 0 0 4 9223372036854775808,[r61]⟩]
theorem d313_run (t : Nat → TypeId) : allL (deepOk Tryz.prog (deepOrc Tryz.prog (tabG t) (gO ([])) 2305843009213693952 (d9) noCuts) (tabG t)) d313 = true := by kernel_rfl

noncomputable def d314 : List DeepE := [⟨22,[va [vi 5,vi 5],va [vi 5,vi 7]],[],vr 0 0 4 9223372036854775808,[r102]⟩]
theorem d314_run (t : Nat → TypeId) : allL (deepOk Tryz.prog (deepOrc Tryz.prog (tabG t) (gO ([])) 2305843009213693952 (d9) noCuts) (tabG t)) d314 = true := by kernel_rfl

noncomputable def d315 : List DeepE := [⟨22,[va [vi 5,vi 5],va [vi 5,vi 9]],[],vr 0 0 4 9223372036854775808,[r111]⟩]
theorem d315_run (t : Nat → TypeId) : allL (deepOk Tryz.prog (deepOrc Tryz.prog (tabG t) (gO ([])) 2305843009213693952 (d9) noCuts) (tabG t)) d315 = true := by kernel_rfl

noncomputable def d316 : List DeepE := [⟨22,[va [vi 5,vi 5],va [vi 7,vi 1]],[],vr 0 0 4 9223372036854775808,[r55]⟩]
theorem d316_run (t : Nat → TypeId) : allL (deepOk Tryz.prog (deepOrc Tryz.prog (tabG t) (gO ([])) 2305843009213693952 (d9) noCuts) (tabG t)) d316 = true := by kernel_rfl

noncomputable def d317 : List DeepE := [⟨22,[va [vi 5,vi 5],va [vi 7,vi 3]],[],vr 0 0 4 9223372036854775808,[r57]⟩]
theorem d317_run (t : Nat → TypeId) : allL (deepOk Tryz.prog (deepOrc Tryz.prog (tabG t) (gO ([])) 2305843009213693952 (d9) noCuts) (tabG t)) d317 = true := by kernel_rfl

end Go.Proofs.YtpieoofkikjjjaaGreatDoor
