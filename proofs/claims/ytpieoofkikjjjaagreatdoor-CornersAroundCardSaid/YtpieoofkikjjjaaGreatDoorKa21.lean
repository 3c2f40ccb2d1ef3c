/-
  Says: what calls answer, as the kernel runs them (level 1).
-/
import Derived.Test.YtpieoofkikjjjaaGreatDoorKr
import Derived.Test.YtpieoofkikjjjaaGreatDoorKa0
import Derived.KernelRfl
set_option maxRecDepth 1000000
set_option linter.unusedVariables false
set_option linter.unusedSimpArgs false
namespace Go.Proofs.YtpieoofkikjjjaaGreatDoor
open Go Go.Vx
attribute [local instance] anySyms

noncomputable def d267 : List DeepE := [⟨22,[va [vi 5,vi 4],va [vi 1,vi 5]],[],vr 0 0 4 9223372036854775808,[r59]⟩]
theorem d267_run (t : Nat → TypeId) : allL (deepOk Tryz.prog (deepOrc Tryz.prog (tabG t) (gO ([])) 2305843009213693952 (d9) noCuts) (tabG t)) d267 = true := by kernel_rfl

noncomputable def d268 : List DeepE := [⟨22,[va [vi 5,vi 4],va [vi 1,vi 7]],[],vr 0 0 4 9223372036854775808,[r73]⟩]
theorem d268_run (t : Nat → TypeId) : allL (deepOk Tryz.prog (deepOrc Tryz.prog (tabG t) (gO ([])) 2305843009213693952 (d9) noCuts) (tabG t)) d268 = true := by kernel_rfl

noncomputable def d269 : List DeepE := [⟨22,[va [vi 5,vi 4],va [vi 3,vi 1]],[],vr 0 0 4 9223372036854775808,[r50]⟩]
theorem d269_run (t : Nat → TypeId) : allL (deepOk Tryz.prog (deepOrc Tryz.prog (tabG t) (gO ([])) 2305843009213693952 (d9) noCuts) (tabG t)) d269 = true := by kernel_rfl

noncomputable def d270 : List DeepE := [⟨22,[va [vi 5,vi 4],va [vi 3,vi 3]],[],vr 0 0 4 9223372036854775808,[r54]⟩]
theorem d270_run (t : Nat → TypeId) : allL (deepOk Tryz.prog (deepOrc Tryz.prog (tabG t) (gO ([])) 2305843009213693952 (d9) noCuts) (tabG t)) d270 = true := by kernel_rfl

noncomputable def d271 : List DeepE := [⟨22,[va [vi 5,vi 4],va [vi 3,vi 5]],[],vr 0 0 4 9223372036854775808,[r60]⟩]
theorem d271_run (t : Nat → TypeId) : allL (deepOk Tryz.prog (deepOrc Tryz.prog (tabG t) (gO ([])) 2305843009213693952 (d9) noCuts) (tabG t)) d271 = true := by kernel_rfl

noncomputable def d272 : List DeepE := [⟨22,[va [vi 5,vi 4],va [vi 3,vi 7]],[],vr 0 0 4 9223372036854775808,[r101]⟩]
theorem d272_run (t : Nat → TypeId) : allL (deepOk Tryz.prog (deepOrc Tryz.prog (tabG t) (gO ([])) 2305843009213693952 (d9) noCuts) (tabG t)) d272 = true := by kernel_rfl

noncomputable def d273 : List DeepE := [⟨22,[va [vi 5,vi 4],va [vi 5,vi 1]],[],vr 0 0 4 9223372036854775808,[r53]⟩]
theorem d273_run (t : Nat → TypeId) : allL (deepOk Tryz.prog (deepOrc Tryz.prog (tabG t) (gO ([])) 2305843009213693952 (d9) noCuts) (tabG t)) d273 = true := by kernel_rfl

noncomputable def d274 : List DeepE := [⟨22,[va [vi 5,vi 4],va [vi 5,vi 3]],[],vr 0 0 4 9223372036854775808,[r56]⟩]
theorem d274_run (t : Nat → TypeId) : allL (deepOk Tryz.prog (deepOrc Tryz.prog (tabG t) (gO ([])) 2305843009213693952 (d9) noCuts) (tabG t)) d274 = true := by kernel_rfl

end Go.Proofs.YtpieoofkikjjjaaGreatDoor
