/-
  Says: what calls answer, as the kernel runs them (level 1).
-/
import Derived.Test.YtpieoofkikjjjaaGreatDoorKr
import Derived.Test.YtpieoofkikjjjaaGreatDoorKa0
import Derived.KernelRfl
set_option maxRecDepth 1000000
set_option linter.unusedVariables false
set_option linter.unusedSimpArgs false
namespace Go.Proofs.YtpieoofkikjjjaaGreatDoor
open Go Go.Vx
attribute [local instance] anySyms

noncomputable def d27 : List DeepE := [⟨22,[va [vi 2,vi 2],va [vi 1,vi 3]],[],vr 0 0 4 9223372036854775808,[r53]⟩,⟨22,[va [vi 2,vi 2],va [vi 3,vi 1]],[],vr 0 0 4 9223372036854775808,[r50]⟩]
theorem d27_run (t : Nat → TypeId) : allL (deepOk Tryz.prog (deepOrc Tryz.prog (tabG t) (gO ([])) 2305843009213693952 (d9) noCuts) (tabG t)) d27 = true := by kernel_rfl

noncomputable def d28 : List DeepE := [⟨22,[va [vi 2,vi 2],va [vi 3,vi 3]],[],vr 0 0 4 9223372036854775808,[r55]⟩,⟨22,[va [vi 4,vi 1],va [vi 1,vi 1]],[],vr 0 0 4 9223372036854775808,[r25]⟩]
theorem d28_run (t : Nat → TypeId) : allL (deepOk Tryz.prog (deepOrc Tryz.prog (tabG t) (gO ([])) 2305843009213693952 (d9) noCuts) (tabG t)) d28 = true := by kernel_rfl

noncomputable def d29 : List DeepE := [⟨22,[va [vi 4,vi 1],va [vi 3,vi 1]],[],vr 0 0 4 9223372036854775808,[r50]⟩,⟨22,[va [vi 4,vi 1],va [vi 5,vi 1]],[],vr 0 0 4 9223372036854775808,[r53]⟩]
theorem d29_run (t : Nat → TypeId) : allL (deepOk Tryz.prog (deepOrc Tryz.prog (tabG t) (gO ([])) 2305843009213693952 (d9) noCuts) (tabG t)) d29 = true := by kernel_rfl

noncomputable def d30 : List DeepE := [⟨22,[va [vi 4,vi 1],va [vi 7,vi 1]],[],vr 0 0 4 9223372036854775808,[r55]⟩,⟨22,[va [vi 1,vi 5],va [vi 1,vi 1]],[],vr 0 0 4 9223372036854775808,[r25]⟩]
theorem d30_run (t : Nat → TypeId) : allL (deepOk Tryz.prog (deepOrc Tryz.prog (tabG t) (gO ([])) 2305843009213693952 (d9) noCuts) (tabG t)) d30 = true := by kernel_rfl

noncomputable def d31 : List DeepE := [⟨22,[va [vi 1,vi 5],va [vi 1,vi 3]],[],vr 0 0 4 9223372036854775808,[r50]⟩,⟨22,[va [vi 1,vi 5],va [vi 1,vi 5]],[],vr 0 0 4 9223372036854775808,[r53]⟩]
theorem d31_run (t : Nat → TypeId) : allL (deepOk Tryz.prog (deepOrc Tryz.prog (tabG t) (gO ([])) 2305843009213693952 (d9) noCuts) (tabG t)) d31 = true := by kernel_rfl

noncomputable def d32 : List DeepE := [⟨22,[va [vi 1,vi 5],va [vi 1,vi 7]],[],vr 0 0 4 9223372036854775808,[r55]⟩,⟨22,[va [vi 1,vi 5],va [vi 1,vi 9]],[],vr 0 0 4 9223372036854775808,[r51]⟩]
theorem d32_run (t : Nat → TypeId) : allL (deepOk Tryz.prog (deepOrc Tryz.prog (tabG t) (gO ([])) 2305843009213693952 (d9) noCuts) (tabG t)) d32 = true := by kernel_rfl

noncomputable def d33 : List DeepE := [⟨22,[va [vi 5,vi 1],va [vi 1,vi 1]],[],vr 0 0 4 9223372036854775808,[r25]⟩,⟨22,[va [vi 5,vi 1],va [vi 3,vi 1]],[],vr 0 0 4 9223372036854775808,[r50]⟩]
theorem d33_run (t : Nat → TypeId) : allL (deepOk Tryz.prog (deepOrc Tryz.prog (tabG t) (gO ([])) 2305843009213693952 (d9) noCuts) (tabG t)) d33 = true := by kernel_rfl

noncomputable def d34 : List DeepE := [⟨22,[va [vi 5,vi 1],va [vi 5,vi 1]],[],vr 0 0 4 9223372036854775808,[r53]⟩,⟨22,[va [vi 5,vi 1],va [vi 7,vi 1]],[],vr 0 0 4 9223372036854775808,[r55]⟩]
theorem d34_run (t : Nat → TypeId) : allL (deepOk Tryz.prog (deepOrc Tryz.prog (tabG t) (gO ([])) 2305843009213693952 (d9) noCuts) (tabG t)) d34 = true := by kernel_rfl

noncomputable def d35 : List DeepE := [⟨22,[va [vi 5,vi 1],va [vi 9,vi 1]],[],vr 0 0 4 9223372036854775808,[r51]⟩,⟨22,[va [vi 2,vi 3],va [vi 2,vi 2]],[],vr 0 0 8 9223372036854775808,[r64]⟩]
theorem d35_run (t : Nat → TypeId) : allL (deepOk Tryz.prog (deepOrc Tryz.prog (tabG t) (gO ([])) 2305843009213693952 (d9) noCuts) (tabG t)) d35 = true := by kernel_rfl

noncomputable def d36 : List DeepE := [⟨22,[va [vi 2,vi 3],va [vi 2,vi 4]],[],vr 0 0 8 9223372036854775808,[r68]⟩]
theorem d36_run (t : Nat → TypeId) : allL (deepOk Tryz.prog (deepOrc Tryz.prog (tabG t) (gO ([])) 2305843009213693952 (d9) noCuts) (tabG t)) d36 = true := by kernel_rfl

noncomputable def d37 : List DeepE := [⟨22,[va [vi 3,vi 2],va [vi 2,vi 2]],[],vr 0 0 8 9223372036854775808,[r65]⟩]
theorem d37_run (t : Nat → TypeId) : allL (deepOk Tryz.prog (deepOrc Tryz.prog (tabG t) (gO ([])) 2305843009213693952 (d9) noCuts) (tabG t)) d37 = true := by kernel_rfl

noncomputable def d38 : List DeepE := [⟨22,[va [vi 3,vi 2],va [vi 4,vi 2]],[],vr 0 0 8 9223372036854775808,[r66]⟩]
theorem d38_run (t : Nat → TypeId) : allL (deepOk Tryz.prog (deepOrc Tryz.prog (tabG t) (gO ([])) 2305843009213693952 (d9) noCuts) (tabG t)) d38 = true := by kernel_rfl

noncomputable def d39 : List DeepE := [⟨22,[va [vi 2,vi 3],va [vi 1,vi 1]],[],vr 0 0 4 9223372036854775808,[r25]⟩]
theorem d39_run (t : Nat → TypeId) : allL (deepOk Tryz.prog (deepOrc Tryz.prog (tabG t) (gO ([])) 2305843009213693952 (d9) noCuts) (tabG t)) d39 = true := by kernel_rfl

noncomputable def d40 : List DeepE := [⟨22,[va [vi 2,vi 3],va [vi 1,vi 3]],[],vr 0 0 4 9223372036854775808,[r53]⟩]
theorem d40_run (t : Nat → TypeId) : allL (deepOk Tryz.prog (deepOrc Tryz.prog (tabG t) (gO ([])) 2305843009213693952 (d9) noCuts) (tabG t)) d40 = true := by kernel_rfl

noncomputable def d41 : List DeepE := [⟨22,[va [vi 2,vi 3],va [vi 1,vi 5]],[],vr 0 0 4 9223372036854775808,[r51]⟩]
theorem d41_run (t : Nat → TypeId) : allL (deepOk Tryz.prog (deepOrc Tryz.prog (tabG t) (gO ([])) 2305843009213693952 (d9) noCuts) (tabG t)) d41 = true := by kernel_rfl

noncomputable def d42 : List DeepE := [⟨22,[va [vi 2,vi 3],va [vi 3,vi 1]],[],vr 0 0 4 9223372036854775808,[r50]⟩]
theorem d42_run (t : Nat → TypeId) : allL (deepOk Tryz.prog (deepOrc Tryz.prog (tabG t) (gO ([])) 2305843009213693952 (d9) noCuts) (tabG t)) d42 = true := by kernel_rfl

noncomputable def d43 : List DeepE := [⟨22,[va [vi 2,vi 3],va [vi 3,vi 3]],[],vr 0 0 4 9223372036854775808,[r55]⟩]
theorem d43_run (t : Nat → TypeId) : allL (deepOk Tryz.prog (deepOrc Tryz.prog (tabG t) (gO ([])) 2305843009213693952 (d9) noCuts) (tabG t)) d43 = true := by kernel_rfl

noncomputable def d44 : List DeepE := [⟨22,[va [vi 2,vi 3],va [vi 3,vi 5]],[],vr 0 0 4 9223372036854775808,[r52]⟩]
theorem d44_run (t : Nat → TypeId) : allL (deepOk Tryz.prog (deepOrc Tryz.prog (tabG t) (gO ([])) 2305843009213693952 (d9) noCuts) (tabG t)) d44 = true := by kernel_rfl

noncomputable def d45 : List DeepE := [⟨22,[va [vi 3,vi 2],va [vi 1,vi 1]],[],vr 0 0 4 9223372036854775808,[r25]⟩]
theorem d45_run (t : Nat → TypeId) : allL (deepOk Tryz.prog (deepOrc Tryz.prog (tabG t) (gO ([])) 2305843009213693952 (d9) noCuts) (tabG t)) d45 = true := by kernel_rfl

noncomputable def d46 : List DeepE := [⟨22,[va [vi 3,vi 2],va [vi 1,vi 3]],[],vr 0 0 4 9223372036854775808,[r55]⟩]
theorem d46_run (t : Nat → TypeId) : allL (deepOk Tryz.prog (deepOrc Tryz.prog (tabG t) (gO ([])) 2305843009213693952 (d9) noCuts) (tabG t)) d46 = true := by kernel_rfl

noncomputable def d47 : List DeepE := [⟨22,[va [vi 3,vi 2],va [vi 3,vi 1]],[],vr 0 0 4 9223372036854775808,[r50]⟩]
theorem d47_run (t : Nat → TypeId) : allL (deepOk Tryz.prog (deepOrc Tryz.prog (tabG t) (gO ([])) 2305843009213693952 (d9) noCuts) (tabG t)) d47 = true := by kernel_rfl

noncomputable def d48 : List DeepE := [⟨22,[va [vi 3,vi 2],va [vi 3,vi 3]],[],vr 0 0 4 9223372036854775808,[r51]⟩]
theorem d48_run (t : Nat → TypeId) : allL (deepOk Tryz.prog (deepOrc Tryz.prog (tabG t) (gO ([])) 2305843009213693952 (d9) noCuts) (tabG t)) d48 = true := by kernel_rfl

noncomputable def d49 : List DeepE := [⟨22,[va [vi 3,vi 2],va [vi 5,vi 1]],[],vr 0 0 4 9223372036854775808,[r53]⟩]
theorem d49_run (t : Nat → TypeId) : allL (deepOk Tryz.prog (deepOrc Tryz.prog (tabG t) (gO ([])) 2305843009213693952 (d9) noCuts) (tabG t)) d49 = true := by kernel_rfl

noncomputable def d50 : List DeepE := [⟨22,[va [vi 3,vi 2],va [vi 5,vi 3]],[],vr 0 0 4 9223372036854775808,[r52]⟩]
theorem d50_run (t : Nat → TypeId) : allL (deepOk Tryz.prog (deepOrc Tryz.prog (tabG t) (gO ([])) 2305843009213693952 (d9) noCuts) (tabG t)) d50 = true := by kernel_rfl

end Go.Proofs.YtpieoofkikjjjaaGreatDoor
