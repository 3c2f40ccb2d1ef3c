/-
  Says: what calls answer, as the kernel runs them (level 1).
-/
import Derived.Test.YtpieoofkikjjjaaGreatDoorKr
import Derived.Test.YtpieoofkikjjjaaGreatDoorKa0
import Derived.KernelRfl
set_option maxRecDepth 1000000
set_option linter.unusedVariables false
set_option linter.unusedSimpArgs false
namespace Go.Proofs.YtpieoofkikjjjaaGreatDoor
open Go Go.Vx
attribute [local instance] anySyms

noncomputable def d73 : List DeepE := [⟨22,[va [vi 3,vi 3],va [vi 2,vi 2]],[],vr 0 0 8 9223372036854775808,[r65]⟩]
theorem d73_run (t : Nat → TypeId) : allL (deepOk Tryz.prog (deepOrc Tryz.prog (tabG t) (gO ([])) 2305843009213693952 (d9) noCuts) (tabG t)) d73 = true := by kernel_rfl

noncomputable def d74 : List DeepE := [⟨22,[va [vi 3,vi 3],va [vi 2,vi 4]],[],vr 0 0 8 9223372036854775808,[r76]⟩]
theorem d74_run (t : Nat → TypeId) : allL (deepOk Tryz.prog (deepOrc Tryz.prog (tabG t) (gO ([])) 2305843009213693952 (d9) noCuts) (tabG t)) d74 = true := by kernel_rfl

noncomputable def d75 : List DeepE := [⟨22,[va [vi 3,vi 3],va [vi 4,vi 2]],[],vr 0 0 8 9223372036854775808,[r66]⟩]
theorem d75_run (t : Nat → TypeId) : allL (deepOk Tryz.prog (deepOrc Tryz.prog (tabG t) (gO ([])) 2305843009213693952 (d9) noCuts) (tabG t)) d75 = true := by kernel_rfl

noncomputable def d76 : List DeepE := [⟨22,[va [vi 3,vi 3],va [vi 4,vi 4]],[],vr 0 0 8 9223372036854775808,[r78]⟩]
theorem d76_run (t : Nat → TypeId) : allL (deepOk Tryz.prog (deepOrc Tryz.prog (tabG t) (gO ([])) 2305843009213693952 (d9) noCuts) (tabG t)) d76 = true := by kernel_rfl

noncomputable def d77 : List DeepE := [⟨22,[va [vi 3,vi 3],va [vi 1,vi 1]],[],vr 0 0 4 9223372036854775808,[r25]⟩]
theorem d77_run (t : Nat → TypeId) : allL (deepOk Tryz.prog (deepOrc Tryz.prog (tabG t) (gO ([])) 2305843009213693952 (d9) noCuts) (tabG t)) d77 = true := by kernel_rfl

noncomputable def d78 : List DeepE := [⟨22,[va [vi 3,vi 3],va [vi 1,vi 3]],[],vr 0 0 4 9223372036854775808,[r55]⟩]
theorem d78_run (t : Nat → TypeId) : allL (deepOk Tryz.prog (deepOrc Tryz.prog (tabG t) (gO ([])) 2305843009213693952 (d9) noCuts) (tabG t)) d78 = true := by kernel_rfl

noncomputable def d79 : List DeepE := [⟨22,[va [vi 3,vi 3],va [vi 1,vi 5]],[],vr 0 0 4 9223372036854775808,[r54]⟩]
theorem d79_run (t : Nat → TypeId) : allL (deepOk Tryz.prog (deepOrc Tryz.prog (tabG t) (gO ([])) 2305843009213693952 (d9) noCuts) (tabG t)) d79 = true := by kernel_rfl

noncomputable def d80 : List DeepE := [⟨22,[va [vi 3,vi 3],va [vi 3,vi 1]],[],vr 0 0 4 9223372036854775808,[r50]⟩]
theorem d80_run (t : Nat → TypeId) : allL (deepOk Tryz.prog (deepOrc Tryz.prog (tabG t) (gO ([])) 2305843009213693952 (d9) noCuts) (tabG t)) d80 = true := by kernel_rfl

noncomputable def d81 : List DeepE := [⟨22,[va [vi 3,vi 3],va [vi 3,vi 3]],[],vr 0 0 4 9223372036854775808,[r51]⟩]
theorem d81_run (t : Nat → TypeId) : allL (deepOk Tryz.prog (deepOrc Tryz.prog (tabG t) (gO ([])) 2305843009213693952 (d9) noCuts) (tabG t)) d81 = true := by kernel_rfl

noncomputable def d82 : List DeepE := [⟨22,[va [vi 3,vi 3],va [vi 3,vi 5]],[],vr 0 0 4 9223372036854775808,[r56]⟩]
theorem d82_run (t : Nat → TypeId) : allL (deepOk Tryz.prog (deepOrc Tryz.prog (tabG t) (gO ([])) 2305843009213693952 (d9) noCuts) (tabG t)) d82 = true := by kernel_rfl

noncomputable def d83 : List DeepE := [⟨22,[va [vi 3,vi 3],va [vi 5,vi 1]],[],vr 0 0 4 9223372036854775808,[r53]⟩]
theorem d83_run (t : Nat → TypeId) : allL (deepOk Tryz.prog (deepOrc Tryz.prog (tabG t) (gO ([])) 2305843009213693952 (d9) noCuts) (tabG t)) d83 = true := by kernel_rfl

noncomputable def d84 : List DeepE := [⟨22,[va [vi 3,vi 3],va [vi 5,vi 3]],[],vr 0 0 4 9223372036854775808,[r52]⟩]
theorem d84_run (t : Nat → TypeId) : allL (deepOk Tryz.prog (deepOrc Tryz.prog (tabG t) (gO ([])) 2305843009213693952 (d9) noCuts) (tabG t)) d84 = true := by kernel_rfl

noncomputable def d85 : List DeepE := [⟨22,[va [vi 3,vi 3],va [vi 5,vi 5]],[],vr 0 0 4 9223372036854775808,[r57]⟩]
theorem d85_run (t : Nat → TypeId) : allL (deepOk Tryz.prog (deepOrc Tryz.prog (tabG t) (gO ([])) 2305843009213693952 (d9) noCuts) (tabG t)) d85 = true := by kernel_rfl

noncomputable def d86 : List DeepE := [⟨22,[va [vi 2,vi 5],va [vi 2,vi 2]],[],vr 0 0 8 9223372036854775808,[r64]⟩]
theorem d86_run (t : Nat → TypeId) : allL (deepOk Tryz.prog (deepOrc Tryz.prog (tabG t) (gO ([])) 2305843009213693952 (d9) noCuts) (tabG t)) d86 = true := by kernel_rfl

noncomputable def d87 : List DeepE := [⟨22,[va [vi 2,vi 5],va [vi 2,vi 4]],[],vr 0 0 8 9223372036854775808,[r68]⟩]
theorem d87_run (t : Nat → TypeId) : allL (deepOk Tryz.prog (deepOrc Tryz.prog (tabG t) (gO ([])) 2305843009213693952 (d9) noCuts) (tabG t)) d87 = true := by kernel_rfl

noncomputable def d88 : List DeepE := [⟨22,[va [vi 2,vi 5],va [vi 2,vi 6]],[],vr 0 0 8 9223372036854775808,[r75]⟩]
theorem d88_run (t : Nat → TypeId) : allL (deepOk Tryz.prog (deepOrc Tryz.prog (tabG t) (gO ([])) 2305843009213693952 (d9) noCuts) (tabG t)) d88 = true := by kernel_rfl

noncomputable def d89 : List DeepE := [⟨22,[va [vi 2,vi 5],va [vi 2,vi 8]],[],vr 0 0 8 9223372036854775808,[r79]⟩]
theorem d89_run (t : Nat → TypeId) : allL (deepOk Tryz.prog (deepOrc Tryz.prog (tabG t) (gO ([])) 2305843009213693952 (d9) noCuts) (tabG t)) d89 = true := by kernel_rfl

noncomputable def d90 : List DeepE := [⟨22,[va [vi 5,vi 2],va [vi 2,vi 2]],[],vr 0 0 8 9223372036854775808,[r70]⟩]
theorem d90_run (t : Nat → TypeId) : allL (deepOk Tryz.prog (deepOrc Tryz.prog (tabG t) (gO ([])) 2305843009213693952 (d9) noCuts) (tabG t)) d90 = true := by kernel_rfl

noncomputable def d91 : List DeepE := [⟨22,[va [vi 5,vi 2],va [vi 4,vi 2]],[],vr 0 0 8 9223372036854775808,[r72]⟩]
theorem d91_run (t : Nat → TypeId) : allL (deepOk Tryz.prog (deepOrc Tryz.prog (tabG t) (gO ([])) 2305843009213693952 (d9) noCuts) (tabG t)) d91 = true := by kernel_rfl

end Go.Proofs.YtpieoofkikjjjaaGreatDoor
