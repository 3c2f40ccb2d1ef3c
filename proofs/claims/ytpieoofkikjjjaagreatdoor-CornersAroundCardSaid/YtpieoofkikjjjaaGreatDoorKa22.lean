/-
  Says: what calls answer, as the kernel runs them (level 1).
-/
import Derived.Test.YtpieoofkikjjjaaGreatDoorKr
import Derived.Test.YtpieoofkikjjjaaGreatDoorKa0
import Derived.KernelRfl
set_option maxRecDepth 1000000
set_option linter.unusedVariables false
set_option linter.unusedSimpArgs false
namespace Go.Proofs.YtpieoofkikjjjaaGreatDoor
open Go Go.Vx
attribute [local instance] anySyms

noncomputable def d275 : List DeepE := [⟨22,[va [vi 5,vi 4],va [vi 5,vi 5]],[],vr 0 0 4 9223372036854775808,[r61]⟩]
theorem d275_run (t : Nat → TypeId) : allL (deepOk Tryz.prog (deepOrc Tryz.prog (tabG t) (gO ([])) 2305843009213693952 (d9) noCuts) (tabG t)) d275 = true := by kernel_rfl

noncomputable def d276 : List DeepE := [⟨22,[va [vi 5,vi 4],va [vi 5,vi 7]],[],vr 0 0 4 9223372036854775808,[r102]⟩]
theorem d276_run (t : Nat → TypeId) : allL (deepOk Tryz.prog (deepOrc Tryz.prog (tabG t) (gO ([])) 2305843009213693952 (d9) noCuts) (tabG t)) d276 = true := by kernel_rfl

noncomputable def d277 : List DeepE := [⟨22,[va [vi 5,vi 4],va [vi 7,vi 1]],[],vr 0 0 4 9223372036854775808,[r55]⟩]
theorem d277_run (t : Nat → TypeId) : allL (deepOk Tryz.prog (deepOrc Tryz.prog (tabG t) (gO ([])) 2305843009213693952 (d9) noCuts) (tabG t)) d277 = true := by kernel_rfl

noncomputable def d278 : List DeepE := [⟨22,[va [vi 5,vi 4],va [vi 7,vi 3]],[],vr 0 0 4 9223372036854775808,[r57]⟩]
theorem d278_run (t : Nat → TypeId) : allL (deepOk Tryz.prog (deepOrc Tryz.prog (tabG t) (gO ([])) 2305843009213693952 (d9) noCuts) (tabG t)) d278 = true := by kernel_rfl

noncomputable def d279 : List DeepE := [⟨22,[va [vi 5,vi 4],va [vi 7,vi 5]],[],vr 0 0 4 9223372036854775808,[r62]⟩]
theorem d279_run (t : Nat → TypeId) : allL (deepOk Tryz.prog (deepOrc Tryz.prog (tabG t) (gO ([])) 2305843009213693952 (d9) noCuts) (tabG t)) d279 = true := by kernel_rfl

noncomputable def d280 : List DeepE := [⟨22,[va [vi 5,vi 4],va [vi 7,vi 7]],[],vr 0 0 4 9223372036854775808,[r103]⟩]
theorem d280_run (t : Nat → TypeId) : allL (deepOk Tryz.prog (deepOrc Tryz.prog (tabG t) (gO ([])) 2305843009213693952 (d9) noCuts) (tabG t)) d280 = true := by kernel_rfl

noncomputable def d281 : List DeepE := [⟨22,[va [vi 5,vi 4],va [vi 9,vi 1]],[],vr 0 0 4 9223372036854775808,[r51]⟩]
theorem d281_run (t : Nat → TypeId) : allL (deepOk Tryz.prog (deepOrc Tryz.prog (tabG t) (gO ([])) 2305843009213693952 (d9) noCuts) (tabG t)) d281 = true := by kernel_rfl

noncomputable def d282 : List DeepE := [⟨22,[va [vi 5,vi 4],va [vi 9,vi 3]],[],vr 0 0 4 9223372036854775808,[r58]⟩]
theorem d282_run (t : Nat → TypeId) : allL (deepOk Tryz.prog (deepOrc Tryz.prog (tabG t) (gO ([])) 2305843009213693952 (d9) noCuts) (tabG t)) d282 = true := by kernel_rfl

end Go.Proofs.YtpieoofkikjjjaaGreatDoor
