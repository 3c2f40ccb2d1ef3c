/-
  Says: what calls answer, as the kernel runs them (level 1).
-/
import Derived.Test.YtpieoofkikjjjaaGreatDoorKr
import Derived.Test.YtpieoofkikjjjaaGreatDoorKa0
import Derived.KernelRfl
set_option maxRecDepth 1000000
set_option linter.unusedVariables false
set_option linter.unusedSimpArgs false
namespace Go.Proofs.YtpieoofkikjjjaaGreatDoor
open Go Go.Vx
attribute [local instance] anySyms

noncomputable def d152 : List DeepE := [⟨22,[va [vi 3,vi 5],va [vi 2,vi 6]],[],vr 0 0 8 9223372036854775808,[r82]⟩]
theorem d152_run (t : Nat → TypeId) : allL (deepOk Tryz.prog (deepOrc Tryz.prog (tabG t) (gO ([])) 2305843009213693952 (d9) noCuts) (tabG t)) d152 = true := by kernel_rfl

noncomputable def d153 : List DeepE := [⟨22,[va [vi 3,vi 5],va [vi 2,vi 8]],[],vr 0 0 8 9223372036854775808,[r89]⟩]
theorem d153_run (t : Nat → TypeId) : allL (deepOk Tryz.prog (deepOrc Tryz.prog (tabG t) (gO ([])) 2305843009213693952 (d9) noCuts) (tabG t)) d153 = true := by kernel_rfl

noncomputable def d154 : List DeepE := [⟨22,[va [vi 3,vi 5],va [vi 4,vi 2]],[],vr 0 0 8 9223372036854775808,[r66]⟩]
theorem d154_run (t : Nat → TypeId) : allL (deepOk Tryz.prog (deepOrc Tryz.prog (tabG t) (gO ([])) 2305843009213693952 (d9) noCuts) (tabG t)) d154 = true := by kernel_rfl

noncomputable def d155 : List DeepE := [⟨22,[va [vi 3,vi 5],va [vi 4,vi 4]],[],vr 0 0 8 9223372036854775808,[r78]⟩]
theorem d155_run (t : Nat → TypeId) : allL (deepOk Tryz.prog (deepOrc Tryz.prog (tabG t) (gO ([])) 2305843009213693952 (d9) noCuts) (tabG t)) d155 = true := by kernel_rfl

noncomputable def d156 : List DeepE := [⟨22,[va [vi 3,vi 5],va [vi 4,vi 6]],[],vr 0 0 8 9223372036854775808,[r84]⟩]
theorem d156_run (t : Nat → TypeId) : allL (deepOk Tryz.prog (deepOrc Tryz.prog (tabG t) (gO ([])) 2305843009213693952 (d9) noCuts) (tabG t)) d156 = true := by kernel_rfl

noncomputable def d157 : List DeepE := [⟨22,[va [vi 3,vi 5],va [vi 4,vi 8]],[],vr 0 0 8 9223372036854775808,[r91]⟩]
theorem d157_run (t : Nat → TypeId) : allL (deepOk Tryz.prog (deepOrc Tryz.prog (tabG t) (gO ([])) 2305843009213693952 (d9) noCuts) (tabG t)) d157 = true := by kernel_rfl

noncomputable def d158 : List DeepE := [⟨22,[va [vi 5,vi 3],va [vi 2,vi 2]],[],vr 0 0 8 9223372036854775808,[r70]⟩]
theorem d158_run (t : Nat → TypeId) : allL (deepOk Tryz.prog (deepOrc Tryz.prog (tabG t) (gO ([])) 2305843009213693952 (d9) noCuts) (tabG t)) d158 = true := by kernel_rfl

noncomputable def d159 : List DeepE := [⟨22,[va [vi 5,vi 3],va [vi 2,vi 4]],[],vr 0 0 8 9223372036854775808,[r85]⟩]
theorem d159_run (t : Nat → TypeId) : allL (deepOk Tryz.prog (deepOrc Tryz.prog (tabG t) (gO ([])) 2305843009213693952 (d9) noCuts) (tabG t)) d159 = true := by kernel_rfl

noncomputable def d160 : List DeepE := [⟨22,[va [vi 5,vi 3],va [vi 4,vi 2]],[],vr 0 0 8 9223372036854775808,[r72]⟩]
theorem d160_run (t : Nat → TypeId) : allL (deepOk Tryz.prog (deepOrc Tryz.prog (tabG t) (gO ([])) 2305843009213693952 (d9) noCuts) (tabG t)) d160 = true := by kernel_rfl

noncomputable def d161 : List DeepE := [⟨22,[va [vi 5,vi 3],va [vi 4,vi 4]],[],vr 0 0 8 9223372036854775808,[r86]⟩]
theorem d161_run (t : Nat → TypeId) : allL (deepOk Tryz.prog (deepOrc Tryz.prog (tabG t) (gO ([])) 2305843009213693952 (d9) noCuts) (tabG t)) d161 = true := by kernel_rfl

noncomputable def d162 : List DeepE := [⟨22,[va [vi 5,vi 3],va [vi 6,vi 2]],[],vr 0 0 8 9223372036854775808,[r74]⟩]
theorem d162_run (t : Nat → TypeId) : allL (deepOk Tryz.prog (deepOrc Tryz.prog (tabG t) (gO ([])) 2305843009213693952 (d9) noCuts) (tabG t)) d162 = true := by kernel_rfl

end Go.Proofs.YtpieoofkikjjjaaGreatDoor
