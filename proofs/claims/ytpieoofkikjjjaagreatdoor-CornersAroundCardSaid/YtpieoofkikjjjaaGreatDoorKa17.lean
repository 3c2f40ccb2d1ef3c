/-
  Says: what calls answer, as the kernel runs them (level 1).
-/
import Derived.Test.YtpieoofkikjjjaaGreatDoorKr
import Derived.Test.YtpieoofkikjjjaaGreatDoorKa0
import Derived.KernelRfl
set_option maxRecDepth 1000000
set_option linter.unusedVariables false
set_option linter.unusedSimpArgs false
namespace Go.Proofs.YtpieoofkikjjjaaGreatDoor
open Go Go.Vx
attribute [local instance] anySyms

noncomputable def d235 : List DeepE := [⟨22,[va [vi 5,vi 4],va [vi 2,vi 6]],[],vr 0 0 8 9223372036854775808,[r94]⟩]
theorem d235_run (t : Nat → TypeId) : allL (deepOk Tryz.prog (deepOrc Tryz.prog (tabG t) (gO ([])) 2305843009213693952 (d9) noCuts) (tabG t)) d235 = true := by kernel_rfl

noncomputable def d236 : List DeepE := [⟨22,[va [vi 5,vi 4],va [vi 4,vi 2]],[],vr 0 0 8 9223372036854775808,[r72]⟩]
theorem d236_run (t : Nat → TypeId) : allL (deepOk Tryz.prog (deepOrc Tryz.prog (tabG t) (gO ([])) 2305843009213693952 (d9) noCuts) (tabG t)) d236 = true := by kernel_rfl

noncomputable def d237 : List DeepE := [⟨22,[va [vi 5,vi 4],va [vi 4,vi 4]],[],vr 0 0 8 9223372036854775808,[r86]⟩]
theorem d237_run (t : Nat → TypeId) : allL (deepOk Tryz.prog (deepOrc Tryz.prog (tabG t) (gO ([])) 2305843009213693952 (d9) noCuts) (tabG t)) d237 = true := by kernel_rfl

noncomputable def d238 : List DeepE := [⟨22,[va [vi 5,vi 4],va [vi 4,vi 6]],[],vr 0 0 8 9223372036854775808,[r95]⟩]
theorem d238_run (t : Nat → TypeId) : allL (deepOk Tryz.prog (deepOrc Tryz.prog (tabG t) (gO ([])) 2305843009213693952 (d9) noCuts) (tabG t)) d238 = true := by kernel_rfl

noncomputable def d239 : List DeepE := [⟨22,[va [vi 5,vi 4],va [vi 6,vi 2]],[],vr 0 0 8 9223372036854775808,[r74]⟩]
theorem d239_run (t : Nat → TypeId) : allL (deepOk Tryz.prog (deepOrc Tryz.prog (tabG t) (gO ([])) 2305843009213693952 (d9) noCuts) (tabG t)) d239 = true := by kernel_rfl

noncomputable def d240 : List DeepE := [⟨22,[va [vi 5,vi 4],va [vi 6,vi 4]],[],vr 0 0 8 9223372036854775808,[r87]⟩]
theorem d240_run (t : Nat → TypeId) : allL (deepOk Tryz.prog (deepOrc Tryz.prog (tabG t) (gO ([])) 2305843009213693952 (d9) noCuts) (tabG t)) d240 = true := by kernel_rfl

noncomputable def d241 : List DeepE := [⟨22,[va [vi 5,vi 4],va [vi 6,vi 6]],[],vr 0 0 8 9223372036854775808,[r97]⟩]
theorem d241_run (t : Nat → TypeId) : allL (deepOk Tryz.prog (deepOrc Tryz.prog (tabG t) (gO ([])) 2305843009213693952 (d9) noCuts) (tabG t)) d241 = true := by kernel_rfl

noncomputable def d242 : List DeepE := [⟨22,[va [vi 5,vi 4],va [vi 8,vi 2]],[],vr 0 0 8 9223372036854775808,[r77]⟩]
theorem d242_run (t : Nat → TypeId) : allL (deepOk Tryz.prog (deepOrc Tryz.prog (tabG t) (gO ([])) 2305843009213693952 (d9) noCuts) (tabG t)) d242 = true := by kernel_rfl

end Go.Proofs.YtpieoofkikjjjaaGreatDoor
