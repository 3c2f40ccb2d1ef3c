/-
  Says: what calls answer, as the kernel runs them (level 1).
-/
import Derived.Test.YtpieoofkikjjjaaGreatDoorKr
import Derived.Test.YtpieoofkikjjjaaGreatDoorKa0
import Derived.KernelRfl
set_option maxRecDepth 1000000
set_option linter.unusedVariables false
set_option linter.unusedSimpArgs false
namespace Go.Proofs.YtpieoofkikjjjaaGreatDoor
open Go Go.Vx
attribute [local instance] anySyms

noncomputable def d290 : List DeepE := [⟨22,[va [vi 5,vi 5],va [vi 4,vi 4]],[],vr 0 0 8 9223372036854775808,[r86]⟩]
theorem d290_run (t : Nat → TypeId) : allL (deepOk Tryz.prog (deepOrc Tryz.prog (tabG t) (gO ([])) 2305843009213693952 (d9) noCuts) (tabG t)) d290 = true := by kernel_rfl

noncomputable def d291 : List DeepE := [⟨22,[va [vi 5,vi 5],va [vi 4,vi 6]],[],vr 0 0 8 9223372036854775808,[r95]⟩]
theorem d291_run (t : Nat → TypeId) : allL (deepOk Tryz.prog (deepOrc Tryz.prog (tabG t) (gO ([])) 2305843009213693952 (d9) noCuts) (tabG t)) d291 = true := by kernel_rfl

noncomputable def d292 : List DeepE := [⟨22,[va [vi 5,vi 5],va [vi 4,vi 8]],[],vr 0 0 8 9223372036854775808,[r106]⟩]
theorem d292_run (t : Nat → TypeId) : allL (deepOk Tryz.prog (deepOrc Tryz.prog (tabG t) (gO ([])) 2305843009213693952 (d9) noCuts) (tabG t)) d292 = true := by kernel_rfl

noncomputable def d293 : List DeepE := [⟨22,[va [vi 5,vi 5],va [vi 6,vi 2]],[],vr 0 0 8 9223372036854775808,[r74]⟩]
theorem d293_run (t : Nat → TypeId) : allL (deepOk Tryz.prog (deepOrc Tryz.prog (tabG t) (gO ([])) 2305843009213693952 (d9) noCuts) (tabG t)) d293 = true := by kernel_rfl

noncomputable def d294 : List DeepE := [⟨22,[va [vi 5,vi 5],va [vi 6,vi 4]],[],vr 0 0 8 9223372036854775808,[r87]⟩]
theorem d294_run (t : Nat → TypeId) : allL (deepOk Tryz.prog (deepOrc Tryz.prog (tabG t) (gO ([])) 2305843009213693952 (d9) noCuts) (tabG t)) d294 = true := by kernel_rfl

noncomputable def d295 : List DeepE := [⟨22,[va [vi 5,vi 5],va [vi 6,vi 6]],[],vr 0 0 8 9223372036854775808,[r97]⟩]
theorem d295_run (t : Nat → TypeId) : allL (deepOk Tryz.prog (deepOrc Tryz.prog (tabG t) (gO ([])) 2305843009213693952 (d9) noCuts) (tabG t)) d295 = true := by kernel_rfl

noncomputable def d296 : List DeepE := [⟨22,[va [vi 5,vi 5],va [vi 6,vi 8]],[],vr 0 0 8 9223372036854775808,[r107]⟩]
theorem d296_run (t : Nat → TypeId) : allL (deepOk Tryz.prog (deepOrc Tryz.prog (tabG t) (gO ([])) 2305843009213693952 (d9) noCuts) (tabG t)) d296 = true := by kernel_rfl

end Go.Proofs.YtpieoofkikjjjaaGreatDoor
