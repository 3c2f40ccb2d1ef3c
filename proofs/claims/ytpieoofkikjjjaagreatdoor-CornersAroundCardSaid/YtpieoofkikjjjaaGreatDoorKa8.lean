/-
  Says: what calls answer, as the kernel runs them (level 1).
-/
import Derived.Test.YtpieoofkikjjjaaGreatDoorKr
import Derived.Test.YtpieoofkikjjjaaGreatDoorKa0
import Derived.KernelRfl
set_option maxRecDepth 1000000
set_option linter.unusedVariables false
set_option linter.unusedSimpArgs false
namespace Go.Proofs.YtpieoofkikjjjaaGreatDoor
open Go Go.Vx
attribute [local instance] anySyms

noncomputable def d138 : List DeepE := [⟨22,[va [vi 4,vi 3],va [vi 1,vi 1]],[],vr 0 0 4 9223372036854775808,[r25]⟩]
theorem d138_run (t : Nat → TypeId) : allL (deepOk Tryz.prog (deepOrc Tryz.prog (tabG t) (gO ([])) 2305843009213693952 (d9) noCuts) (tabG t)) d138 = true := by kernel_rfl

noncomputable def d139 : List DeepE := [⟨22,[va [vi 4,vi 3],va [vi 1,vi 3]],[],vr 0 0 4 9223372036854775808,[r51]⟩]
theorem d139_run (t : Nat → TypeId) : allL (deepOk Tryz.prog (deepOrc Tryz.prog (tabG t) (gO ([])) 2305843009213693952 (d9) noCuts) (tabG t)) d139 = true := by kernel_rfl

noncomputable def d140 : List DeepE := [⟨22,[va [vi 4,vi 3],va [vi 1,vi 5]],[],vr 0 0 4 9223372036854775808,[r57]⟩]
theorem d140_run (t : Nat → TypeId) : allL (deepOk Tryz.prog (deepOrc Tryz.prog (tabG t) (gO ([])) 2305843009213693952 (d9) noCuts) (tabG t)) d140 = true := by kernel_rfl

noncomputable def d141 : List DeepE := [⟨22,[va [vi 4,vi 3],va [vi 3,vi 1]],[],vr 0 0 4 9223372036854775808,[r50]⟩]
theorem d141_run (t : Nat → TypeId) : allL (deepOk Tryz.prog (deepOrc Tryz.prog (tabG t) (gO ([])) 2305843009213693952 (d9) noCuts) (tabG t)) d141 = true := by kernel_rfl

noncomputable def d142 : List DeepE := [⟨22,[va [vi 4,vi 3],va [vi 3,vi 3]],[],vr 0 0 4 9223372036854775808,[r52]⟩]
theorem d142_run (t : Nat → TypeId) : allL (deepOk Tryz.prog (deepOrc Tryz.prog (tabG t) (gO ([])) 2305843009213693952 (d9) noCuts) (tabG t)) d142 = true := by kernel_rfl

noncomputable def d143 : List DeepE := [⟨22,[va [vi 4,vi 3],va [vi 3,vi 5]],[],vr 0 0 4 9223372036854775808,[r58]⟩]
theorem d143_run (t : Nat → TypeId) : allL (deepOk Tryz.prog (deepOrc Tryz.prog (tabG t) (gO ([])) 2305843009213693952 (d9) noCuts) (tabG t)) d143 = true := by kernel_rfl

noncomputable def d144 : List DeepE := [⟨22,[va [vi 4,vi 3],va [vi 5,vi 1]],[],vr 0 0 4 9223372036854775808,[r53]⟩]
theorem d144_run (t : Nat → TypeId) : allL (deepOk Tryz.prog (deepOrc Tryz.prog (tabG t) (gO ([])) 2305843009213693952 (d9) noCuts) (tabG t)) d144 = true := by kernel_rfl

noncomputable def d145 : List DeepE := [⟨22,[va [vi 4,vi 3],va [vi 5,vi 3]],[],vr 0 0 4 9223372036854775808,[r54]⟩]
theorem d145_run (t : Nat → TypeId) : allL (deepOk Tryz.prog (deepOrc Tryz.prog (tabG t) (gO ([])) 2305843009213693952 (d9) noCuts) (tabG t)) d145 = true := by kernel_rfl

noncomputable def d146 : List DeepE := [⟨22,[va [vi 4,vi 3],va [vi 5,vi 5]],[],vr 0 0 4 9223372036854775808,[r59]⟩]
theorem d146_run (t : Nat → TypeId) : allL (deepOk Tryz.prog (deepOrc Tryz.prog (tabG t) (gO ([])) 2305843009213693952 (d9) noCuts) (tabG t)) d146 = true := by kernel_rfl

noncomputable def d147 : List DeepE := [⟨22,[va [vi 4,vi 3],va [vi 7,vi 1]],[],vr 0 0 4 9223372036854775808,[r55]⟩]
theorem d147_run (t : Nat → TypeId) : allL (deepOk Tryz.prog (deepOrc Tryz.prog (tabG t) (gO ([])) 2305843009213693952 (d9) noCuts) (tabG t)) d147 = true := by kernel_rfl

noncomputable def d148 : List DeepE := [⟨22,[va [vi 4,vi 3],va [vi 7,vi 3]],[],vr 0 0 4 9223372036854775808,[r56]⟩]
theorem d148_run (t : Nat → TypeId) : allL (deepOk Tryz.prog (deepOrc Tryz.prog (tabG t) (gO ([])) 2305843009213693952 (d9) noCuts) (tabG t)) d148 = true := by kernel_rfl

noncomputable def d149 : List DeepE := [⟨22,[va [vi 4,vi 3],va [vi 7,vi 5]],[],vr 0 0 4 9223372036854775808,[r60]⟩]
theorem d149_run (t : Nat → TypeId) : allL (deepOk Tryz.prog (deepOrc Tryz.prog (tabG t) (gO ([])) 2305843009213693952 (d9) noCuts) (tabG t)) d149 = true := by kernel_rfl

noncomputable def d150 : List DeepE := [⟨22,[va [vi 3,vi 5],va [vi 2,vi 2]],[],vr 0 0 8 9223372036854775808,[r65]⟩]
theorem d150_run (t : Nat → TypeId) : allL (deepOk Tryz.prog (deepOrc Tryz.prog (tabG t) (gO ([])) 2305843009213693952 (d9) noCuts) (tabG t)) d150 = true := by kernel_rfl

noncomputable def d151 : List DeepE := [⟨22,[va [vi 3,vi 5],va [vi 2,vi 4]],[],vr 0 0 8 9223372036854775808,[r76]⟩]
theorem d151_run (t : Nat → TypeId) : allL (deepOk Tryz.prog (deepOrc Tryz.prog (tabG t) (gO ([])) 2305843009213693952 (d9) noCuts) (tabG t)) d151 = true := by kernel_rfl

end Go.Proofs.YtpieoofkikjjjaaGreatDoor
