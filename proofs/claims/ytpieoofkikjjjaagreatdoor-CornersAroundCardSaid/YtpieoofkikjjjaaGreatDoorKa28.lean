/-
  Says: what calls answer, as the kernel runs them (level 1).
-/
import Derived.Test.YtpieoofkikjjjaaGreatDoorKr
import Derived.Test.YtpieoofkikjjjaaGreatDoorKa0
import Derived.KernelRfl
set_option maxRecDepth 1000000
set_option linter.unusedVariables false
set_option linter.unusedSimpArgs false
namespace Go.Proofs.YtpieoofkikjjjaaGreatDoor
open Go Go.Vx
attribute [local instance] anySyms

noncomputable def d318 : List DeepE := [⟨22,[va [vi 5,vi 5],va [vi 7,vi 5]],[],vr 0 0 4 9223372036854775808,[r62]⟩]
theorem d318_run (t : Nat → TypeId) : allL (deepOk Tryz.prog (deepOrc Tryz.prog (tabG t) (gO ([])) 2305843009213693952 (d9) noCuts) (tabG t)) d318 = true := by kernel_rfl

noncomputable def d319 : List DeepE := [⟨22,[va [vi 5,vi 5],va [vi 7,vi 7]],[],vr 0 0 4 9223372036854775808,[r103]⟩]
theorem d319_run (t : Nat → TypeId) : allL (deepOk Tryz.prog (deepOrc Tryz.prog (tabG t) (gO ([])) 2305843009213693952 (d9) noCuts) (tabG t)) d319 = true := by kernel_rfl

noncomputable def d320 : List DeepE := [⟨22,[va [vi 5,vi 5],va [vi 7,vi 9]],[],vr 0 0 4 9223372036854775808,[r112]⟩]
theorem d320_run (t : Nat → TypeId) : allL (deepOk Tryz.prog (deepOrc Tryz.prog (tabG t) (gO ([])) 2305843009213693952 (d9) noCuts) (tabG t)) d320 = true := by kernel_rfl

noncomputable def d321 : List DeepE := [⟨22,[va [vi 5,vi 5],va [vi 9,vi 1]],[],vr 0 0 4 9223372036854775808,[r51]⟩]
theorem d321_run (t : Nat → TypeId) : allL (deepOk Tryz.prog (deepOrc Tryz.prog (tabG t) (gO ([])) 2305843009213693952 (d9) noCuts) (tabG t)) d321 = true := by kernel_rfl

noncomputable def d322 : List DeepE := [⟨22,[va [vi 5,vi 5],va [vi 9,vi 3]],[],vr 0 0 4 9223372036854775808,[r58]⟩]
theorem d322_run (t : Nat → TypeId) : allL (deepOk Tryz.prog (deepOrc Tryz.prog (tabG t) (gO ([])) 2305843009213693952 (d9) noCuts) (tabG t)) d322 = true := by kernel_rfl

noncomputable def d323 : List DeepE := [⟨22,[va [vi 5,vi 5],va [vi 9,vi 5]],[],vr 0 0 4 9223372036854775808,[r63]⟩]
theorem d323_run (t : Nat → TypeId) : allL (deepOk Tryz.prog (deepOrc Tryz.prog (tabG t) (gO ([])) 2305843009213693952 (d9) noCuts) (tabG t)) d323 = true := by kernel_rfl

noncomputable def d324 : List DeepE := [⟨22,[va [vi 5,vi 5],va [vi 9,vi 7]],[],vr 0 0 4 9223372036854775808,[r104]⟩]
theorem d324_run (t : Nat → TypeId) : allL (deepOk Tryz.prog (deepOrc Tryz.prog (tabG t) (gO ([])) 2305843009213693952 (d9) noCuts) (tabG t)) d324 = true := by kernel_rfl

end Go.Proofs.YtpieoofkikjjjaaGreatDoor
