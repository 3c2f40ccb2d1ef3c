/-
  Says: what calls answer, as the kernel runs them (level 1).
-/
import Derived.Test.YtpieoofkikjjjaaGreatDoorKr
import Derived.Test.YtpieoofkikjjjaaGreatDoorKa0
import Derived.KernelRfl
set_option maxRecDepth 1000000
set_option linter.unusedVariables false
set_option linter.unusedSimpArgs false
namespace Go.Proofs.YtpieoofkikjjjaaGreatDoor
open Go Go.Vx
attribute [local instance] anySyms

noncomputable def d51 : List DeepE := [⟨22,[va [vi 2,vi 4],va [vi 2,vi 2]],[],vr 0 0 8 9223372036854775808,[r64]⟩]
theorem d51_run (t : Nat → TypeId) : allL (deepOk Tryz.prog (deepOrc Tryz.prog (tabG t) (gO ([])) 2305843009213693952 (d9) noCuts) (tabG t)) d51 = true := by kernel_rfl

noncomputable def d52 : List DeepE := [⟨22,[va [vi 2,vi 4],va [vi 2,vi 4]],[],vr 0 0 8 9223372036854775808,[r68]⟩]
theorem d52_run (t : Nat → TypeId) : allL (deepOk Tryz.prog (deepOrc Tryz.prog (tabG t) (gO ([])) 2305843009213693952 (d9) noCuts) (tabG t)) d52 = true := by kernel_rfl

noncomputable def d53 : List DeepE := [⟨22,[va [vi 2,vi 4],va [vi 2,vi 6]],[],vr 0 0 8 9223372036854775808,[r75]⟩]
theorem d53_run (t : Nat → TypeId) : allL (deepOk Tryz.prog (deepOrc Tryz.prog (tabG t) (gO ([])) 2305843009213693952 (d9) noCuts) (tabG t)) d53 = true := by kernel_rfl

noncomputable def d54 : List DeepE := [⟨22,[va [vi 4,vi 2],va [vi 2,vi 2]],[],vr 0 0 8 9223372036854775808,[r67]⟩]
theorem d54_run (t : Nat → TypeId) : allL (deepOk Tryz.prog (deepOrc Tryz.prog (tabG t) (gO ([])) 2305843009213693952 (d9) noCuts) (tabG t)) d54 = true := by kernel_rfl

noncomputable def d55 : List DeepE := [⟨22,[va [vi 4,vi 2],va [vi 4,vi 2]],[],vr 0 0 8 9223372036854775808,[r69]⟩]
theorem d55_run (t : Nat → TypeId) : allL (deepOk Tryz.prog (deepOrc Tryz.prog (tabG t) (gO ([])) 2305843009213693952 (d9) noCuts) (tabG t)) d55 = true := by kernel_rfl

noncomputable def d56 : List DeepE := [⟨22,[va [vi 4,vi 2],va [vi 6,vi 2]],[],vr 0 0 8 9223372036854775808,[r71]⟩]
theorem d56_run (t : Nat → TypeId) : allL (deepOk Tryz.prog (deepOrc Tryz.prog (tabG t) (gO ([])) 2305843009213693952 (d9) noCuts) (tabG t)) d56 = true := by kernel_rfl

noncomputable def d57 : List DeepE := [⟨22,[va [vi 2,vi 4],va [vi 1,vi 1]],[],vr 0 0 4 9223372036854775808,[r25]⟩]
theorem d57_run (t : Nat → TypeId) : allL (deepOk Tryz.prog (deepOrc Tryz.prog (tabG t) (gO ([])) 2305843009213693952 (d9) noCuts) (tabG t)) d57 = true := by kernel_rfl

noncomputable def d58 : List DeepE := [⟨22,[va [vi 2,vi 4],va [vi 1,vi 3]],[],vr 0 0 4 9223372036854775808,[r53]⟩]
theorem d58_run (t : Nat → TypeId) : allL (deepOk Tryz.prog (deepOrc Tryz.prog (tabG t) (gO ([])) 2305843009213693952 (d9) noCuts) (tabG t)) d58 = true := by kernel_rfl

noncomputable def d59 : List DeepE := [⟨22,[va [vi 2,vi 4],va [vi 1,vi 5]],[],vr 0 0 4 9223372036854775808,[r51]⟩]
theorem d59_run (t : Nat → TypeId) : allL (deepOk Tryz.prog (deepOrc Tryz.prog (tabG t) (gO ([])) 2305843009213693952 (d9) noCuts) (tabG t)) d59 = true := by kernel_rfl

noncomputable def d60 : List DeepE := [⟨22,[va [vi 2,vi 4],va [vi 1,vi 7]],[],vr 0 0 4 9223372036854775808,[r54]⟩]
theorem d60_run (t : Nat → TypeId) : allL (deepOk Tryz.prog (deepOrc Tryz.prog (tabG t) (gO ([])) 2305843009213693952 (d9) noCuts) (tabG t)) d60 = true := by kernel_rfl

noncomputable def d61 : List DeepE := [⟨22,[va [vi 2,vi 4],va [vi 3,vi 1]],[],vr 0 0 4 9223372036854775808,[r50]⟩]
theorem d61_run (t : Nat → TypeId) : allL (deepOk Tryz.prog (deepOrc Tryz.prog (tabG t) (gO ([])) 2305843009213693952 (d9) noCuts) (tabG t)) d61 = true := by kernel_rfl

noncomputable def d62 : List DeepE := [⟨22,[va [vi 2,vi 4],va [vi 3,vi 3]],[],vr 0 0 4 9223372036854775808,[r55]⟩]
theorem d62_run (t : Nat → TypeId) : allL (deepOk Tryz.prog (deepOrc Tryz.prog (tabG t) (gO ([])) 2305843009213693952 (d9) noCuts) (tabG t)) d62 = true := by kernel_rfl

noncomputable def d63 : List DeepE := [⟨22,[va [vi 2,vi 4],va [vi 3,vi 5]],[],vr 0 0 4 9223372036854775808,[r52]⟩]
theorem d63_run (t : Nat → TypeId) : allL (deepOk Tryz.prog (deepOrc Tryz.prog (tabG t) (gO ([])) 2305843009213693952 (d9) noCuts) (tabG t)) d63 = true := by kernel_rfl

noncomputable def d64 : List DeepE := [⟨22,[va [vi 2,vi 4],va [vi 3,vi 7]],[],vr 0 0 4 9223372036854775808,[r56]⟩]
theorem d64_run (t : Nat → TypeId) : allL (deepOk Tryz.prog (deepOrc Tryz.prog (tabG t) (gO ([])) 2305843009213693952 (d9) noCuts) (tabG t)) d64 = true := by kernel_rfl

noncomputable def d65 : List DeepE := [⟨22,[va [vi 4,vi 2],va [vi 1,vi 1]],[],vr 0 0 4 9223372036854775808,[r25]⟩]
theorem d65_run (t : Nat → TypeId) : allL (deepOk Tryz.prog (deepOrc Tryz.prog (tabG t) (gO ([])) 2305843009213693952 (d9) noCuts) (tabG t)) d65 = true := by kernel_rfl

noncomputable def d66 : List DeepE := [⟨22,[va [vi 4,vi 2],va [vi 1,vi 3]],[],vr 0 0 4 9223372036854775808,[r51]⟩]
theorem d66_run (t : Nat → TypeId) : allL (deepOk Tryz.prog (deepOrc Tryz.prog (tabG t) (gO ([])) 2305843009213693952 (d9) noCuts) (tabG t)) d66 = true := by kernel_rfl

noncomputable def d67 : List DeepE := [⟨22,[va [vi 4,vi 2],va [vi 3,vi 1]],[],vr 0 0 4 9223372036854775808,[r50]⟩]
theorem d67_run (t : Nat → TypeId) : allL (deepOk Tryz.prog (deepOrc Tryz.prog (tabG t) (gO ([])) 2305843009213693952 (d9) noCuts) (tabG t)) d67 = true := by kernel_rfl

noncomputable def d68 : List DeepE := [⟨22,[va [vi 4,vi 2],va [vi 3,vi 3]],[],vr 0 0 4 9223372036854775808,[r52]⟩]
theorem d68_run (t : Nat → TypeId) : allL (deepOk Tryz.prog (deepOrc Tryz.prog (tabG t) (gO ([])) 2305843009213693952 (d9) noCuts) (tabG t)) d68 = true := by kernel_rfl

noncomputable def d69 : List DeepE := [⟨22,[va [vi 4,vi 2],va [vi 5,vi 1]],[],vr 0 0 4 9223372036854775808,[r53]⟩]
theorem d69_run (t : Nat → TypeId) : allL (deepOk Tryz.prog (deepOrc Tryz.prog (tabG t) (gO ([])) 2305843009213693952 (d9) noCuts) (tabG t)) d69 = true := by kernel_rfl

noncomputable def d70 : List DeepE := [⟨22,[va [vi 4,vi 2],va [vi 5,vi 3]],[],vr 0 0 4 9223372036854775808,[r54]⟩]
theorem d70_run (t : Nat → TypeId) : allL (deepOk Tryz.prog (deepOrc Tryz.prog (tabG t) (gO ([])) 2305843009213693952 (d9) noCuts) (tabG t)) d70 = true := by kernel_rfl

noncomputable def d71 : List DeepE := [⟨22,[va [vi 4,vi 2],va [vi 7,vi 1]],[],vr 0 0 4 9223372036854775808,[r55]⟩]
theorem d71_run (t : Nat → TypeId) : allL (deepOk Tryz.prog (deepOrc Tryz.prog (tabG t) (gO ([])) 2305843009213693952 (d9) noCuts) (tabG t)) d71 = true := by kernel_rfl

noncomputable def d72 : List DeepE := [⟨22,[va [vi 4,vi 2],va [vi 7,vi 3]],[],vr 0 0 4 9223372036854775808,[r56]⟩]
theorem d72_run (t : Nat → TypeId) : allL (deepOk Tryz.prog (deepOrc Tryz.prog (tabG t) (gO ([])) 2305843009213693952 (d9) noCuts) (tabG t)) d72 = true := by kernel_rfl

end Go.Proofs.YtpieoofkikjjjaaGreatDoor
