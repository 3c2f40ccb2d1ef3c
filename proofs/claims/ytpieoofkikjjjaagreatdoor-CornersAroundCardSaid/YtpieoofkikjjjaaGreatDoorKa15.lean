/-
  Says: what calls answer, as the kernel runs them (level 1).
-/
import Derived.Test.YtpieoofkikjjjaaGreatDoorKr
import Derived.Test.YtpieoofkikjjjaaGreatDoorKa0
import Derived.KernelRfl
set_option maxRecDepth 1000000
set_option linter.unusedVariables false
set_option linter.unusedSimpArgs false
namespace Go.Proofs.YtpieoofkikjjjaaGreatDoor
open Go Go.Vx
attribute [local instance] anySyms

noncomputable def d218 : List DeepE := [⟨22,[va [vi 4,vi 4],va [vi 7,vi 3]],[],vr 0 0 4 9223372036854775808,[r56]⟩]
theorem d218_run (t : Nat → TypeId) : allL (deepOk Tryz.prog (deepOrc Tryz.prog (tabG t) (gO ([])) 2305843009213693952 (d9) noCuts) (tabG t)) d218 = true := by kernel_rfl

noncomputable def d219 : List DeepE := [⟨22,[va [vi 4,vi 4],va [vi 7,vi 5]],[],vr 0 0 4 9223372036854775808,[r60]⟩]
theorem d219_run (t : Nat → TypeId) : allL (deepOk Tryz.prog (deepOrc Tryz.prog (tabG t) (gO ([])) 2305843009213693952 (d9) noCuts) (tabG t)) d219 = true := by kernel_rfl

noncomputable def d220 : List DeepE := [⟨22,[va [vi 4,vi 4],va [vi 7,vi 7]],[],vr 0 0 4 9223372036854775808,[r73]⟩]
theorem d220_run (t : Nat → TypeId) : allL (deepOk Tryz.prog (deepOrc Tryz.prog (tabG t) (gO ([])) 2305843009213693952 (d9) noCuts) (tabG t)) d220 = true := by kernel_rfl

noncomputable def d221 : List DeepE := [⟨22,[va [vi 4,vi 5],va [vi 2,vi 2]],[],vr 0 0 8 9223372036854775808,[r67]⟩]
theorem d221_run (t : Nat → TypeId) : allL (deepOk Tryz.prog (deepOrc Tryz.prog (tabG t) (gO ([])) 2305843009213693952 (d9) noCuts) (tabG t)) d221 = true := by kernel_rfl

noncomputable def d222 : List DeepE := [⟨22,[va [vi 4,vi 5],va [vi 2,vi 4]],[],vr 0 0 8 9223372036854775808,[r80]⟩]
theorem d222_run (t : Nat → TypeId) : allL (deepOk Tryz.prog (deepOrc Tryz.prog (tabG t) (gO ([])) 2305843009213693952 (d9) noCuts) (tabG t)) d222 = true := by kernel_rfl

noncomputable def d223 : List DeepE := [⟨22,[va [vi 4,vi 5],va [vi 2,vi 6]],[],vr 0 0 8 9223372036854775808,[r90]⟩]
theorem d223_run (t : Nat → TypeId) : allL (deepOk Tryz.prog (deepOrc Tryz.prog (tabG t) (gO ([])) 2305843009213693952 (d9) noCuts) (tabG t)) d223 = true := by kernel_rfl

noncomputable def d224 : List DeepE := [⟨22,[va [vi 4,vi 5],va [vi 2,vi 8]],[],vr 0 0 8 9223372036854775808,[r96]⟩]
theorem d224_run (t : Nat → TypeId) : allL (deepOk Tryz.prog (deepOrc Tryz.prog (tabG t) (gO ([])) 2305843009213693952 (d9) noCuts) (tabG t)) d224 = true := by kernel_rfl

noncomputable def d225 : List DeepE := [⟨22,[va [vi 4,vi 5],va [vi 4,vi 2]],[],vr 0 0 8 9223372036854775808,[r69]⟩]
theorem d225_run (t : Nat → TypeId) : allL (deepOk Tryz.prog (deepOrc Tryz.prog (tabG t) (gO ([])) 2305843009213693952 (d9) noCuts) (tabG t)) d225 = true := by kernel_rfl

noncomputable def d226 : List DeepE := [⟨22,[va [vi 4,vi 5],va [vi 4,vi 4]],[],vr 0 0 8 9223372036854775808,[r81]⟩]
theorem d226_run (t : Nat → TypeId) : allL (deepOk Tryz.prog (deepOrc Tryz.prog (tabG t) (gO ([])) 2305843009213693952 (d9) noCuts) (tabG t)) d226 = true := by kernel_rfl

end Go.Proofs.YtpieoofkikjjjaaGreatDoor
