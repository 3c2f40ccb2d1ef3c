/-
  Says: what calls answer, as the kernel runs them (level 1).
-/
import Derived.Test.YtpieoofkikjjjaaGreatDoorKr
import Derived.Test.YtpieoofkikjjjaaGreatDoorKa0
import Derived.KernelRfl
set_option maxRecDepth 1000000
set_option linter.unusedVariables false
set_option linter.unusedSimpArgs false
namespace Go.Proofs.YtpieoofkikjjjaaGreatDoor
open Go Go.Vx
attribute [local instance] anySyms

noncomputable def d124 : List DeepE := [⟨22,[va [vi 4,vi 3],va [vi 6,vi 2]],[],vr 0 0 8 9223372036854775808,[r71]⟩]
theorem d124_run (t : Nat → TypeId) : allL (deepOk Tryz.prog (deepOrc Tryz.prog (tabG t) (gO ([])) 2305843009213693952 (d9) noCuts) (tabG t)) d124 = true := by kernel_rfl

noncomputable def d125 : List DeepE := [⟨22,[va [vi 4,vi 3],va [vi 6,vi 4]],[],vr 0 0 8 9223372036854775808,[r83]⟩]
theorem d125_run (t : Nat → TypeId) : allL (deepOk Tryz.prog (deepOrc Tryz.prog (tabG t) (gO ([])) 2305843009213693952 (d9) noCuts) (tabG t)) d125 = true := by kernel_rfl

noncomputable def d126 : List DeepE := [⟨22,[va [vi 3,vi 4],va [vi 1,vi 1]],[],vr 0 0 4 9223372036854775808,[r25]⟩]
theorem d126_run (t : Nat → TypeId) : allL (deepOk Tryz.prog (deepOrc Tryz.prog (tabG t) (gO ([])) 2305843009213693952 (d9) noCuts) (tabG t)) d126 = true := by kernel_rfl

noncomputable def d127 : List DeepE := [⟨22,[va [vi 3,vi 4],va [vi 1,vi 3]],[],vr 0 0 4 9223372036854775808,[r55]⟩]
theorem d127_run (t : Nat → TypeId) : allL (deepOk Tryz.prog (deepOrc Tryz.prog (tabG t) (gO ([])) 2305843009213693952 (d9) noCuts) (tabG t)) d127 = true := by kernel_rfl

noncomputable def d128 : List DeepE := [⟨22,[va [vi 3,vi 4],va [vi 1,vi 5]],[],vr 0 0 4 9223372036854775808,[r54]⟩]
theorem d128_run (t : Nat → TypeId) : allL (deepOk Tryz.prog (deepOrc Tryz.prog (tabG t) (gO ([])) 2305843009213693952 (d9) noCuts) (tabG t)) d128 = true := by kernel_rfl

noncomputable def d129 : List DeepE := [⟨22,[va [vi 3,vi 4],va [vi 1,vi 7]],[],vr 0 0 4 9223372036854775808,[r58]⟩]
theorem d129_run (t : Nat → TypeId) : allL (deepOk Tryz.prog (deepOrc Tryz.prog (tabG t) (gO ([])) 2305843009213693952 (d9) noCuts) (tabG t)) d129 = true := by kernel_rfl

noncomputable def d130 : List DeepE := [⟨22,[va [vi 3,vi 4],va [vi 3,vi 1]],[],vr 0 0 4 9223372036854775808,[r50]⟩]
theorem d130_run (t : Nat → TypeId) : allL (deepOk Tryz.prog (deepOrc Tryz.prog (tabG t) (gO ([])) 2305843009213693952 (d9) noCuts) (tabG t)) d130 = true := by kernel_rfl

noncomputable def d131 : List DeepE := [⟨22,[va [vi 3,vi 4],va [vi 3,vi 3]],[],vr 0 0 4 9223372036854775808,[r51]⟩]
theorem d131_run (t : Nat → TypeId) : allL (deepOk Tryz.prog (deepOrc Tryz.prog (tabG t) (gO ([])) 2305843009213693952 (d9) noCuts) (tabG t)) d131 = true := by kernel_rfl

noncomputable def d132 : List DeepE := [⟨22,[va [vi 3,vi 4],va [vi 3,vi 5]],[],vr 0 0 4 9223372036854775808,[r56]⟩]
theorem d132_run (t : Nat → TypeId) : allL (deepOk Tryz.prog (deepOrc Tryz.prog (tabG t) (gO ([])) 2305843009213693952 (d9) noCuts) (tabG t)) d132 = true := by kernel_rfl

noncomputable def d133 : List DeepE := [⟨22,[va [vi 3,vi 4],va [vi 3,vi 7]],[],vr 0 0 4 9223372036854775808,[r59]⟩]
theorem d133_run (t : Nat → TypeId) : allL (deepOk Tryz.prog (deepOrc Tryz.prog (tabG t) (gO ([])) 2305843009213693952 (d9) noCuts) (tabG t)) d133 = true := by kernel_rfl

noncomputable def d134 : List DeepE := [⟨22,[va [vi 3,vi 4],va [vi 5,vi 1]],[],vr 0 0 4 9223372036854775808,[r53]⟩]
theorem d134_run (t : Nat → TypeId) : allL (deepOk Tryz.prog (deepOrc Tryz.prog (tabG t) (gO ([])) 2305843009213693952 (d9) noCuts) (tabG t)) d134 = true := by kernel_rfl

noncomputable def d135 : List DeepE := [⟨22,[va [vi 3,vi 4],va [vi 5,vi 3]],[],vr 0 0 4 9223372036854775808,[r52]⟩]
theorem d135_run (t : Nat → TypeId) : allL (deepOk Tryz.prog (deepOrc Tryz.prog (tabG t) (gO ([])) 2305843009213693952 (d9) noCuts) (tabG t)) d135 = true := by kernel_rfl

noncomputable def d136 : List DeepE := [⟨22,[va [vi 3,vi 4],va [vi 5,vi 5]],[],vr 0 0 4 9223372036854775808,[r57]⟩]
theorem d136_run (t : Nat → TypeId) : allL (deepOk Tryz.prog (deepOrc Tryz.prog (tabG t) (gO ([])) 2305843009213693952 (d9) noCuts) (tabG t)) d136 = true := by kernel_rfl

noncomputable def d137 : List DeepE := [⟨22,[va [vi 3,vi 4],va [vi 5,vi 7]],[],vr 0 0 4 9223372036854775808,[r60]⟩]
theorem d137_run (t : Nat → TypeId) : allL (deepOk Tryz.prog (deepOrc Tryz.prog (tabG t) (gO ([])) 2305843009213693952 (d9) noCuts) (tabG t)) d137 = true := by kernel_rfl

end Go.Proofs.YtpieoofkikjjjaaGreatDoor
