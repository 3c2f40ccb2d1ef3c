/-
  Says: what calls answer, as the kernel runs them (level 1).
-/
import Derived.Test.YtpieoofkikjjjaaGreatDoorKr
import Derived.Test.YtpieoofkikjjjaaGreatDoorKa0
import Derived.KernelRfl
set_option maxRecDepth 1000000
set_option linter.unusedVariables false
set_option linter.unusedSimpArgs false
namespace Go.Proofs.YtpieoofkikjjjaaGreatDoor
open Go Go.Vx
attribute [local instance] anySyms

noncomputable def d251 : List DeepE := [⟨22,[va [vi 4,vi 5],va [vi 3,vi 3]],[],vr 0 0 4 9223372036854775808,[r52]⟩]
theorem d251_run (t : Nat → TypeId) : allL (deepOk Tryz.prog (deepOrc Tryz.prog (tabG t) (gO ([])) 2305843009213693952 (d9) noCuts) (tabG t)) d251 = true := by kernel_rfl

noncomputable def d252 : List DeepE := [⟨22,[va [vi 4,vi 5],va [vi 3,vi 5]],[],vr 0 0 4 9223372036854775808,[r58]⟩]
theorem d252_run (t : Nat → TypeId) : allL (deepOk Tryz.prog (deepOrc Tryz.prog (tabG t) (gO ([])) 2305843009213693952 (d9) noCuts) (tabG t)) d252 = true := by kernel_rfl

noncomputable def d253 : List DeepE := [⟨22,[va [vi 4,vi 5],va [vi 3,vi 7]],[],vr 0 0 4 9223372036854775808,[r62]⟩]
theorem d253_run (t : Nat → TypeId) : allL (deepOk Tryz.prog (deepOrc Tryz.prog (tabG t) (gO ([])) 2305843009213693952 (d9) noCuts) (tabG t)) d253 = true := by kernel_rfl

noncomputable def d254 : List DeepE := [⟨22,[va [vi 4,vi 5],va [vi 3,vi 9]],[],vr 0 0 4 9223372036854775808,[r102]⟩]
theorem d254_run (t : Nat → TypeId) : allL (deepOk Tryz.prog (deepOrc Tryz.prog (tabG t) (gO ([])) 2305843009213693952 (d9) noCuts) (tabG t)) d254 = true := by kernel_rfl

noncomputable def d255 : List DeepE := [⟨22,[va [vi 4,vi 5],va [vi 5,vi 1]],[],vr 0 0 4 9223372036854775808,[r53]⟩]
theorem d255_run (t : Nat → TypeId) : allL (deepOk Tryz.prog (deepOrc Tryz.prog (tabG t) (gO ([])) 2305843009213693952 (d9) noCuts) (tabG t)) d255 = true := by kernel_rfl

noncomputable def d256 : List DeepE := [⟨22,[va [vi 4,vi 5],va [vi 5,vi 3]],[],vr 0 0 4 9223372036854775808,[r54]⟩]
theorem d256_run (t : Nat → TypeId) : allL (deepOk Tryz.prog (deepOrc Tryz.prog (tabG t) (gO ([])) 2305843009213693952 (d9) noCuts) (tabG t)) d256 = true := by kernel_rfl

noncomputable def d257 : List DeepE := [⟨22,[va [vi 4,vi 5],va [vi 5,vi 5]],[],vr 0 0 4 9223372036854775808,[r59]⟩]
theorem d257_run (t : Nat → TypeId) : allL (deepOk Tryz.prog (deepOrc Tryz.prog (tabG t) (gO ([])) 2305843009213693952 (d9) noCuts) (tabG t)) d257 = true := by kernel_rfl

noncomputable def d258 : List DeepE := [⟨22,[va [vi 4,vi 5],va [vi 5,vi 7]],[],vr 0 0 4 9223372036854775808,[r63]⟩]
theorem d258_run (t : Nat → TypeId) : allL (deepOk Tryz.prog (deepOrc Tryz.prog (tabG t) (gO ([])) 2305843009213693952 (d9) noCuts) (tabG t)) d258 = true := by kernel_rfl

end Go.Proofs.YtpieoofkikjjjaaGreatDoor
