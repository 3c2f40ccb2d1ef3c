/-
  Says: what calls answer, as the kernel runs them (level 4).
-/
import Derived.Test.YtkmmnlhmfiabfaaGreatDoorKr
import Derived.Test.YtkmmnlhmfiabfaaGreatDoorKa0
import Derived.Test.YtkmmnlhmfiabfaaGreatDoorKa10
import Derived.Test.YtkmmnlhmfiabfaaGreatDoorKa5
import Derived.Test.YtkmmnlhmfiabfaaGreatDoorKa7
import Derived.Test.YtkmmnlhmfiabfaaGreatDoorKa9
import Derived.KernelRfl
set_option maxRecDepth 1000000
set_option linter.unusedVariables false
set_option linter.unusedSimpArgs false
namespace Go.Proofs.YtkmmnlhmfiabfaaGreatDoor
open Go Go.Vx
attribute [local instance] anySyms

noncomputable def d92 : List DeepE := [⟨16, [va [vi 2,vi 3,vr 0 0 19 9223372036854775808]], [r4], vp [vr 1 0 15 15,vi 0], [r165]⟩]
theorem d92_run (t : Nat → TypeId) : allL (deepOk Tryz.prog (deepOrc Tryz.prog (tabG t) (orcL (e0 ++ e1 ++ e4 ++ e22 ++ e46 ++ e47 ++ e48)) 549755813888 (d43) noCuts) (tabG t)) d92 = true := by kernel_rfl

noncomputable def d93 : List DeepE := [⟨16, [va [vi 3,vi 2,vr 0 0 18 18]], [r170], vp [vr 1 0 15 15,vi 0], [r204]⟩]
theorem d93_run (t : Nat → TypeId) : allL (deepOk Tryz.prog (valOrc (fun _ => false) (tabG t) (orcL (e0 ++ e1 ++ e3 ++ e4 ++ e22 ++ e23 ++ e24 ++ e26 ++ e46 ++ e47 ++ e48))) (tabG t)) d93 = true := by kernel_rfl

noncomputable def d94 : List DeepE := [⟨16, [va [vi 4,vi 2,vr 0 0 19 19]], [r172], vp [vr 1 0 17 17,vi 0], [r205]⟩]
theorem d94_run (t : Nat → TypeId) : allL (deepOk Tryz.prog (valOrc (fun _ => false) (tabG t) (orcL (e0 ++ e1 ++ e3 ++ e4 ++ e22 ++ e23 ++ e24 ++ e26 ++ e46 ++ e48))) (tabG t)) d94 = true := by kernel_rfl

noncomputable def d95 : List DeepE := [⟨16, [va [vi 3,vi 3,vr 0 0 29 29]], [r149], vp [vr 1 0 22 22,vi 0], [r206]⟩]
theorem d95_run (t : Nat → TypeId) : allL (deepOk Tryz.prog (deepOrc Tryz.prog (tabG t) (orcL (e0 ++ e1 ++ e4 ++ e22 ++ e23 ++ e33 ++ e46 ++ e47 ++ e48)) 1267650600228229402046459019264 (d44 ++ d45) noCuts) (tabG t)) d95 = true := by kernel_rfl

noncomputable def d96 : List DeepE := [⟨16, [va [vi 3,vi 3,vr 0 0 29 9223372036854775808]], [r6], vp [vr 1 0 22 22,vi 0], [r167]⟩]
theorem d96_run (t : Nat → TypeId) : allL (deepOk Tryz.prog (deepOrc Tryz.prog (tabG t) (orcL (e0 ++ e1 ++ e4 ++ e22 ++ e23 ++ e33 ++ e46 ++ e47 ++ e48)) 1267650600228229402046459019264 (d44 ++ d45) noCuts) (tabG t)) d96 = true := by kernel_rfl

noncomputable def d97 : List DeepE := [⟨16, [va [vi 2,vi 3,vr 0 0 19 19]], [r171], vp [vr 1 0 15 15,vi 0], [r207]⟩]
theorem d97_run (t : Nat → TypeId) : allL (deepOk Tryz.prog (valOrc (fun _ => false) (tabG t) (orcL (e0 ++ e1 ++ e3 ++ e4 ++ e22 ++ e23 ++ e24 ++ e46 ++ e47 ++ e48))) (tabG t)) d97 = true := by kernel_rfl

end Go.Proofs.YtkmmnlhmfiabfaaGreatDoor
