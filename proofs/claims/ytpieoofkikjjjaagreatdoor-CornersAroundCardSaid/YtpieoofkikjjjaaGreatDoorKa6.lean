/-
  Says: what calls answer, as the kernel runs them (level 1).
-/
import Derived.Test.YtpieoofkikjjjaaGreatDoorKr
import Derived.Test.YtpieoofkikjjjaaGreatDoorKa0
import Derived.KernelRfl
set_option maxRecDepth 1000000
set_option linter.unusedVariables false
set_option linter.unusedSimpArgs false
namespace Go.Proofs.YtpieoofkikjjjaaGreatDoor
open Go Go.Vx
attribute [local instance] anySyms

noncomputable def d109 : List DeepE := [⟨22,[va [vi 5,vi 2],va [vi 5,vi 3]],[],vr 0 0 4 9223372036854775808,[r56]⟩]
theorem d109_run (t : Nat → TypeId) : allL (deepOk Tryz.prog (deepOrc Tryz.prog (tabG t) (gO ([])) 2305843009213693952 (d9) noCuts) (tabG t)) d109 = true := by kernel_rfl

noncomputable def d110 : List DeepE := [⟨22,[va [vi 5,vi 2],va [vi 7,vi 1]],[],vr 0 0 4 9223372036854775808,[r55]⟩]
theorem d110_run (t : Nat → TypeId) : allL (deepOk Tryz.prog (deepOrc Tryz.prog (tabG t) (gO ([])) 2305843009213693952 (d9) noCuts) (tabG t)) d110 = true := by kernel_rfl

noncomputable def d111 : List DeepE := [⟨22,[va [vi 5,vi 2],va [vi 7,vi 3]],[],vr 0 0 4 9223372036854775808,[r57]⟩]
theorem d111_run (t : Nat → TypeId) : allL (deepOk Tryz.prog (deepOrc Tryz.prog (tabG t) (gO ([])) 2305843009213693952 (d9) noCuts) (tabG t)) d111 = true := by kernel_rfl

noncomputable def d112 : List DeepE := [⟨22,[va [vi 5,vi 2],va [vi 9,vi 1]],[],vr 0 0 4 9223372036854775808,[r51]⟩]
theorem d112_run (t : Nat → TypeId) : allL (deepOk Tryz.prog (deepOrc Tryz.prog (tabG t) (gO ([])) 2305843009213693952 (d9) noCuts) (tabG t)) d112 = true := by kernel_rfl

noncomputable def d113 : List DeepE := [⟨22,[va [vi 5,vi 2],va [vi 9,vi 3]],[],vr 0 0 4 9223372036854775808,[r58]⟩]
theorem d113_run (t : Nat → TypeId) : allL (deepOk Tryz.prog (deepOrc Tryz.prog (tabG t) (gO ([])) 2305843009213693952 (d9) noCuts) (tabG t)) d113 = true := by kernel_rfl

noncomputable def d114 : List DeepE := [⟨22,[va [vi 3,vi 4],va [vi 2,vi 2]],[],vr 0 0 8 9223372036854775808,[r65]⟩]
theorem d114_run (t : Nat → TypeId) : allL (deepOk Tryz.prog (deepOrc Tryz.prog (tabG t) (gO ([])) 2305843009213693952 (d9) noCuts) (tabG t)) d114 = true := by kernel_rfl

noncomputable def d115 : List DeepE := [⟨22,[va [vi 3,vi 4],va [vi 2,vi 4]],[],vr 0 0 8 9223372036854775808,[r76]⟩]
theorem d115_run (t : Nat → TypeId) : allL (deepOk Tryz.prog (deepOrc Tryz.prog (tabG t) (gO ([])) 2305843009213693952 (d9) noCuts) (tabG t)) d115 = true := by kernel_rfl

noncomputable def d116 : List DeepE := [⟨22,[va [vi 3,vi 4],va [vi 2,vi 6]],[],vr 0 0 8 9223372036854775808,[r82]⟩]
theorem d116_run (t : Nat → TypeId) : allL (deepOk Tryz.prog (deepOrc Tryz.prog (tabG t) (gO ([])) 2305843009213693952 (d9) noCuts) (tabG t)) d116 = true := by kernel_rfl

noncomputable def d117 : List DeepE := [⟨22,[va [vi 3,vi 4],va [vi 4,vi 2]],[],vr 0 0 8 9223372036854775808,[r66]⟩]
theorem d117_run (t : Nat → TypeId) : allL (deepOk Tryz.prog (deepOrc Tryz.prog (tabG t) (gO ([])) 2305843009213693952 (d9) noCuts) (tabG t)) d117 = true := by kernel_rfl

noncomputable def d118 : List DeepE := [⟨22,[va [vi 3,vi 4],va [vi 4,vi 4]],[],vr 0 0 8 9223372036854775808,[r78]⟩]
theorem d118_run (t : Nat → TypeId) : allL (deepOk Tryz.prog (deepOrc Tryz.prog (tabG t) (gO ([])) 2305843009213693952 (d9) noCuts) (tabG t)) d118 = true := by kernel_rfl

noncomputable def d119 : List DeepE := [⟨22,[va [vi 3,vi 4],va [vi 4,vi 6]],[],vr 0 0 8 9223372036854775808,[r84]⟩]
theorem d119_run (t : Nat → TypeId) : allL (deepOk Tryz.prog (deepOrc Tryz.prog (tabG t) (gO ([])) 2305843009213693952 (d9) noCuts) (tabG t)) d119 = true := by kernel_rfl

noncomputable def d120 : List DeepE := [⟨22,[va [vi 4,vi 3],va [vi 2,vi 2]],[],vr 0 0 8 9223372036854775808,[r67]⟩]
theorem d120_run (t : Nat → TypeId) : allL (deepOk Tryz.prog (deepOrc Tryz.prog (tabG t) (gO ([])) 2305843009213693952 (d9) noCuts) (tabG t)) d120 = true := by kernel_rfl

noncomputable def d121 : List DeepE := [⟨22,[va [vi 4,vi 3],va [vi 2,vi 4]],[],vr 0 0 8 9223372036854775808,[r80]⟩]
theorem d121_run (t : Nat → TypeId) : allL (deepOk Tryz.prog (deepOrc Tryz.prog (tabG t) (gO ([])) 2305843009213693952 (d9) noCuts) (tabG t)) d121 = true := by kernel_rfl

noncomputable def d122 : List DeepE := [⟨22,[va [vi 4,vi 3],va [vi 4,vi 2]],[],vr 0 0 8 9223372036854775808,[r69]⟩]
theorem d122_run (t : Nat → TypeId) : allL (deepOk Tryz.prog (deepOrc Tryz.prog (tabG t) (gO ([])) 2305843009213693952 (d9) noCuts) (tabG t)) d122 = true := by kernel_rfl

noncomputable def d123 : List DeepE := [⟨22,[va [vi 4,vi 3],va [vi 4,vi 4]],[],vr 0 0 8 9223372036854775808,[r81]⟩]
theorem d123_run (t : Nat → TypeId) : allL (deepOk Tryz.prog (deepOrc Tryz.prog (tabG t) (gO ([])) 2305843009213693952 (d9) noCuts) (tabG t)) d123 = true := by kernel_rfl

end Go.Proofs.YtpieoofkikjjjaaGreatDoor
