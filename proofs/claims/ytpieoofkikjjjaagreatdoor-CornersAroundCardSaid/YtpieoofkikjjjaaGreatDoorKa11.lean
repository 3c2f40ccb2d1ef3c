/-
  Says: what calls answer, as the kernel runs them (level 1).
-/
import Derived.Test.YtpieoofkikjjjaaGreatDoorKr
import Derived.Test.YtpieoofkikjjjaaGreatDoorKa0
import Derived.KernelRfl
set_option maxRecDepth 1000000
set_option linter.unusedVariables false
set_option linter.unusedSimpArgs false
namespace Go.Proofs.YtpieoofkikjjjaaGreatDoor
open Go Go.Vx
attribute [local instance] anySyms

noncomputable def d174 : List DeepE := [⟨22,[va [vi 3,vi 5],va [vi 3,vi 7]],[],vr 0 0 4 9223372036854775808,[r59]⟩]
theorem d174_run (t : Nat → TypeId) : allL (deepOk Tryz.prog (deepOrc Tryz.prog (tabG t) (gO ([])) 2305843009213693952 (d9) noCuts) (tabG t)) d174 = true := by kernel_rfl

noncomputable def d175 : List DeepE := [⟨22,[va [vi 3,vi 5],va [vi 3,vi 9]],[],vr 0 0 4 9223372036854775808,[r62]⟩]
theorem d175_run (t : Nat → TypeId) : allL (deepOk Tryz.prog (deepOrc Tryz.prog (tabG t) (gO ([])) 2305843009213693952 (d9) noCuts) (tabG t)) d175 = true := by kernel_rfl

noncomputable def d176 : List DeepE := [⟨22,[va [vi 3,vi 5],va [vi 5,vi 1]],[],vr 0 0 4 9223372036854775808,[r53]⟩]
theorem d176_run (t : Nat → TypeId) : allL (deepOk Tryz.prog (deepOrc Tryz.prog (tabG t) (gO ([])) 2305843009213693952 (d9) noCuts) (tabG t)) d176 = true := by kernel_rfl

noncomputable def d177 : List DeepE := [⟨22,[va [vi 3,vi 5],va [vi 5,vi 3]],[],vr 0 0 4 9223372036854775808,[r52]⟩]
theorem d177_run (t : Nat → TypeId) : allL (deepOk Tryz.prog (deepOrc Tryz.prog (tabG t) (gO ([])) 2305843009213693952 (d9) noCuts) (tabG t)) d177 = true := by kernel_rfl

noncomputable def d178 : List DeepE := [⟨22,[va [vi 3,vi 5],va [vi 5,vi 5]],[],vr 0 0 4 9223372036854775808,[r57]⟩]
theorem d178_run (t : Nat → TypeId) : allL (deepOk Tryz.prog (deepOrc Tryz.prog (tabG t) (gO ([])) 2305843009213693952 (d9) noCuts) (tabG t)) d178 = true := by kernel_rfl

noncomputable def d179 : List DeepE := [⟨22,[va [vi 3,vi 5],va [vi 5,vi 7]],[],vr 0 0 4 9223372036854775808,[r60]⟩]
theorem d179_run (t : Nat → TypeId) : allL (deepOk Tryz.prog (deepOrc Tryz.prog (tabG t) (gO ([])) 2305843009213693952 (d9) noCuts) (tabG t)) d179 = true := by kernel_rfl

noncomputable def d180 : List DeepE := [⟨22,[va [vi 3,vi 5],va [vi 5,vi 9]],[],vr 0 0 4 9223372036854775808,[r63]⟩]
theorem d180_run (t : Nat → TypeId) : allL (deepOk Tryz.prog (deepOrc Tryz.prog (tabG t) (gO ([])) 2305843009213693952 (d9) noCuts) (tabG t)) d180 = true := by kernel_rfl

noncomputable def d181 : List DeepE := [⟨22,[va [vi 5,vi 3],va [vi 1,vi 1]],[],vr 0 0 4 9223372036854775808,[r25]⟩]
theorem d181_run (t : Nat → TypeId) : allL (deepOk Tryz.prog (deepOrc Tryz.prog (tabG t) (gO ([])) 2305843009213693952 (d9) noCuts) (tabG t)) d181 = true := by kernel_rfl

noncomputable def d182 : List DeepE := [⟨22,[va [vi 5,vi 3],va [vi 1,vi 3]],[],vr 0 0 4 9223372036854775808,[r52]⟩]
theorem d182_run (t : Nat → TypeId) : allL (deepOk Tryz.prog (deepOrc Tryz.prog (tabG t) (gO ([])) 2305843009213693952 (d9) noCuts) (tabG t)) d182 = true := by kernel_rfl

noncomputable def d183 : List DeepE := [⟨22,[va [vi 5,vi 3],va [vi 1,vi 5]],[],vr 0 0 4 9223372036854775808,[r59]⟩]
theorem d183_run (t : Nat → TypeId) : allL (deepOk Tryz.prog (deepOrc Tryz.prog (tabG t) (gO ([])) 2305843009213693952 (d9) noCuts) (tabG t)) d183 = true := by kernel_rfl

noncomputable def d184 : List DeepE := [⟨22,[va [vi 5,vi 3],va [vi 3,vi 1]],[],vr 0 0 4 9223372036854775808,[r50]⟩]
theorem d184_run (t : Nat → TypeId) : allL (deepOk Tryz.prog (deepOrc Tryz.prog (tabG t) (gO ([])) 2305843009213693952 (d9) noCuts) (tabG t)) d184 = true := by kernel_rfl

end Go.Proofs.YtpieoofkikjjjaaGreatDoor
