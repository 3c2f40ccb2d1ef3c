/-
  Says: what calls answer, as the kernel runs them (level 1).
-/
import Derived.Test.YtpieoofkikjjjaaGreatDoorKr
import Derived.Test.YtpieoofkikjjjaaGreatDoorKa0
import Derived.KernelRfl
set_option maxRecDepth 1000000
set_option linter.unusedVariables false
set_option linter.unusedSimpArgs false
namespace Go.Proofs.YtpieoofkikjjjaaGreatDoor
open Go Go.Vx
attribute [local instance] anySyms

noncomputable def d92 : List DeepE := [⟨22,[va [vi 5,vi 2],va [vi 6,vi 2]],[],vr 0 0 8 9223372036854775808,[r74]⟩]
theorem d92_run (t : Nat → TypeId) : allL (deepOk Tryz.prog (deepOrc Tryz.prog (tabG t) (gO ([])) 2305843009213693952 (d9) noCuts) (tabG t)) d92 = true := by kernel_rfl

noncomputable def d93 : List DeepE := [⟨22,[va [vi 5,vi 2],va [vi 8,vi 2]],[],vr 0 0 8 9223372036854775808,[r77]⟩]
theorem d93_run (t : Nat → TypeId) : allL (deepOk Tryz.prog (deepOrc Tryz.prog (tabG t) (gO ([])) 2305843009213693952 (d9) noCuts) (tabG t)) d93 = true := by kernel_rfl

noncomputable def d94 : List DeepE := [⟨22,[va [vi 2,vi 5],va [vi 1,vi 1]],[],vr 0 0 4 9223372036854775808,[r25]⟩]
theorem d94_run (t : Nat → TypeId) : allL (deepOk Tryz.prog (deepOrc Tryz.prog (tabG t) (gO ([])) 2305843009213693952 (d9) noCuts) (tabG t)) d94 = true := by kernel_rfl

noncomputable def d95 : List DeepE := [⟨22,[va [vi 2,vi 5],va [vi 1,vi 3]],[],vr 0 0 4 9223372036854775808,[r53]⟩]
theorem d95_run (t : Nat → TypeId) : allL (deepOk Tryz.prog (deepOrc Tryz.prog (tabG t) (gO ([])) 2305843009213693952 (d9) noCuts) (tabG t)) d95 = true := by kernel_rfl

noncomputable def d96 : List DeepE := [⟨22,[va [vi 2,vi 5],va [vi 1,vi 5]],[],vr 0 0 4 9223372036854775808,[r51]⟩]
theorem d96_run (t : Nat → TypeId) : allL (deepOk Tryz.prog (deepOrc Tryz.prog (tabG t) (gO ([])) 2305843009213693952 (d9) noCuts) (tabG t)) d96 = true := by kernel_rfl

noncomputable def d97 : List DeepE := [⟨22,[va [vi 2,vi 5],va [vi 1,vi 7]],[],vr 0 0 4 9223372036854775808,[r54]⟩]
theorem d97_run (t : Nat → TypeId) : allL (deepOk Tryz.prog (deepOrc Tryz.prog (tabG t) (gO ([])) 2305843009213693952 (d9) noCuts) (tabG t)) d97 = true := by kernel_rfl

noncomputable def d98 : List DeepE := [⟨22,[va [vi 2,vi 5],va [vi 1,vi 9]],[],vr 0 0 4 9223372036854775808,[r57]⟩]
theorem d98_run (t : Nat → TypeId) : allL (deepOk Tryz.prog (deepOrc Tryz.prog (tabG t) (gO ([])) 2305843009213693952 (d9) noCuts) (tabG t)) d98 = true := by kernel_rfl

noncomputable def d99 : List DeepE := [⟨22,[va [vi 2,vi 5],va [vi 3,vi 1]],[],vr 0 0 4 9223372036854775808,[r50]⟩]
theorem d99_run (t : Nat → TypeId) : allL (deepOk Tryz.prog (deepOrc Tryz.prog (tabG t) (gO ([])) 2305843009213693952 (d9) noCuts) (tabG t)) d99 = true := by kernel_rfl

noncomputable def d100 : List DeepE := [⟨22,[va [vi 2,vi 5],va [vi 3,vi 3]],[],vr 0 0 4 9223372036854775808,[r55]⟩]
theorem d100_run (t : Nat → TypeId) : allL (deepOk Tryz.prog (deepOrc Tryz.prog (tabG t) (gO ([])) 2305843009213693952 (d9) noCuts) (tabG t)) d100 = true := by kernel_rfl

noncomputable def d101 : List DeepE := [⟨22,[va [vi 2,vi 5],va [vi 3,vi 5]],[],vr 0 0 4 9223372036854775808,[r52]⟩]
theorem d101_run (t : Nat → TypeId) : allL (deepOk Tryz.prog (deepOrc Tryz.prog (tabG t) (gO ([])) 2305843009213693952 (d9) noCuts) (tabG t)) d101 = true := by kernel_rfl

noncomputable def d102 : List DeepE := [⟨22,[va [vi 2,vi 5],va [vi 3,vi 7]],[],vr 0 0 4 9223372036854775808,[r56]⟩]
theorem d102_run (t : Nat → TypeId) : allL (deepOk Tryz.prog (deepOrc Tryz.prog (tabG t) (gO ([])) 2305843009213693952 (d9) noCuts) (tabG t)) d102 = true := by kernel_rfl

noncomputable def d103 : List DeepE := [⟨22,[va [vi 2,vi 5],va [vi 3,vi 9]],[],vr 0 0 4 9223372036854775808,[r58]⟩]
theorem d103_run (t : Nat → TypeId) : allL (deepOk Tryz.prog (deepOrc Tryz.prog (tabG t) (gO ([])) 2305843009213693952 (d9) noCuts) (tabG t)) d103 = true := by kernel_rfl

noncomputable def d104 : List DeepE := [⟨22,[va [vi 5,vi 2],va [vi 1,vi 1]],[],vr 0 0 4 9223372036854775808,[r25]⟩]
theorem d104_run (t : Nat → TypeId) : allL (deepOk Tryz.prog (deepOrc Tryz.prog (tabG t) (gO ([])) 2305843009213693952 (d9) noCuts) (tabG t)) d104 = true := by kernel_rfl

noncomputable def d105 : List DeepE := [⟨22,[va [vi 5,vi 2],va [vi 1,vi 3]],[],vr 0 0 4 9223372036854775808,[r52]⟩]
theorem d105_run (t : Nat → TypeId) : allL (deepOk Tryz.prog (deepOrc Tryz.prog (tabG t) (gO ([])) 2305843009213693952 (d9) noCuts) (tabG t)) d105 = true := by kernel_rfl

noncomputable def d106 : List DeepE := [⟨22,[va [vi 5,vi 2],va [vi 3,vi 1]],[],vr 0 0 4 9223372036854775808,[r50]⟩]
theorem d106_run (t : Nat → TypeId) : allL (deepOk Tryz.prog (deepOrc Tryz.prog (tabG t) (gO ([])) 2305843009213693952 (d9) noCuts) (tabG t)) d106 = true := by kernel_rfl

noncomputable def d107 : List DeepE := [⟨22,[va [vi 5,vi 2],va [vi 3,vi 3]],[],vr 0 0 4 9223372036854775808,[r54]⟩]
theorem d107_run (t : Nat → TypeId) : allL (deepOk Tryz.prog (deepOrc Tryz.prog (tabG t) (gO ([])) 2305843009213693952 (d9) noCuts) (tabG t)) d107 = true := by kernel_rfl

noncomputable def d108 : List DeepE := [⟨22,[va [vi 5,vi 2],va [vi 5,vi 1]],[],vr 0 0 4 9223372036854775808,[r53]⟩]
theorem d108_run (t : Nat → TypeId) : allL (deepOk Tryz.prog (deepOrc Tryz.prog (tabG t) (gO ([])) 2305843009213693952 (d9) noCuts) (tabG t)) d108 = true := by kernel_rfl

end Go.Proofs.YtpieoofkikjjjaaGreatDoor
