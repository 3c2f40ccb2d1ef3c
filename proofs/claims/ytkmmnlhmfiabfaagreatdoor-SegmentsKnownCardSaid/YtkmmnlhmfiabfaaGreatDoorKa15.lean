/-
  Says: what calls answer, as the kernel runs them (level 3).
-/
import Derived.Test.YtkmmnlhmfiabfaaGreatDoorKr
import Derived.Test.YtkmmnlhmfiabfaaGreatDoorKa0
import Derived.Test.YtkmmnlhmfiabfaaGreatDoorKa4
import Derived.Test.YtkmmnlhmfiabfaaGreatDoorKa5
import Derived.Test.YtkmmnlhmfiabfaaGreatDoorKa6
import Derived.Test.YtkmmnlhmfiabfaaGreatDoorKa7
import Derived.Test.YtkmmnlhmfiabfaaGreatDoorKa8
import Derived.Test.YtkmmnlhmfiabfaaGreatDoorKa9
import Derived.KernelRfl
set_option maxRecDepth 1000000
set_option linter.unusedVariables false
set_option linter.unusedSimpArgs false
namespace Go.Proofs.YtkmmnlhmfiabfaaGreatDoor
open Go Go.Vx
attribute [local instance] anySyms

noncomputable def d72 : List DeepE := [⟨18, [va [vi 2,vi 3], vr 0 0 15 15], [r165], vp [va [vi 2,vi 3,vr 1 0 19 19],vi 0,vi 0], [r4]⟩]
theorem d72_run (t : Nat → TypeId) : allL (deepOk Tryz.prog (deepOrc Tryz.prog (tabG t) (orcL (e1 ++ e2)) 18889465931478580856832 (d20 ++ d21 ++ d31 ++ d40 ++ d41 ++ d42) noCuts) (tabG t)) d72 = true := by kernel_rfl

noncomputable def d73 : List DeepE := [⟨18, [va [vi 4,vi 2], vr 0 0 17 17], [r166], vp [va [vi 4,vi 2,vr 1 0 19 19],vi 0,vi 0], [r5]⟩]
theorem d73_run (t : Nat → TypeId) : allL (deepOk Tryz.prog (deepOrc Tryz.prog (tabG t) (orcL (e1 ++ e2 ++ e4)) 18889465931478580856832 (d21 ++ d31 ++ d40 ++ d41 ++ d42) noCuts) (tabG t)) d73 = true := by kernel_rfl

noncomputable def d74 : List DeepE := [⟨18, [va [vi 3,vi 3], vr 0 0 22 22], [r167], vp [va [vi 3,vi 3,vr 1 0 29 29],vi 0,vi 0], [r6]⟩]
theorem d74_run (t : Nat → TypeId) : allL (deepOk Tryz.prog (deepOrc Tryz.prog (tabG t) (orcL (e1 ++ e2 ++ e23 ++ e33)) 6490371073187424001594598992381952 (d21 ++ d31 ++ d32 ++ d40 ++ d41 ++ d42 ++ d45) noCuts) (tabG t)) d74 = true := by kernel_rfl

noncomputable def d75 : List DeepE := [⟨18, [va [vi 4,vi 3], vr 0 0 28 28], [r168], vp [va [vi 4,vi 3,vr 1 0 30 30],vi 0,vi 0], [r8]⟩, ⟨22, [va [vi 2,vi 2,vr 0 0 16 9223372036854775808]], [r2], vp [va [vi 2,vi 2,vr 1 0 16 16],vi 0], [r169]⟩, ⟨22, [va [vi 3,vi 2,vr 0 0 18 9223372036854775808]], [r3], vp [va [vi 3,vi 2,vr 1 0 18 18],vi 0], [r170]⟩, ⟨22, [va [vi 2,vi 3,vr 0 0 19 9223372036854775808]], [r4], vp [va [vi 2,vi 3,vr 1 0 19 19],vi 0], [r171]⟩, ⟨22, [va [vi 4,vi 2,vr 0 0 19 9223372036854775808]], [r5], vp [va [vi 4,vi 2,vr 1 0 19 19],vi 0], [r172]⟩]
theorem d75_run (t : Nat → TypeId) : allL (deepOk Tryz.prog (deepOrc Tryz.prog (tabG t) (orcL (e1 ++ e2 ++ e23 ++ e33)) 1298074214652596373064652418975744 (d21 ++ d31 ++ d32 ++ d40 ++ d41 ++ d42 ++ d43 ++ d45) noCuts) (tabG t)) d75 = true := by kernel_rfl

noncomputable def d76 : List DeepE := [⟨22, [va [vi 3,vi 3,vr 0 0 29 9223372036854775808]], [r6], vp [va [vi 3,vi 3,vr 1 0 29 29],vi 0], [r149]⟩, ⟨22, [va [vi 4,vi 3,vr 0 0 30 9223372036854775808]], [r8], vp [va [vi 4,vi 3,vr 1 0 30 30],vi 0], [r150]⟩, ⟨50, [va [vi 1,vi 1]], [], vr 0 0 4 9223372036854775808, [r173]⟩, ⟨50, [va [vi 1,vi 2]], [], vr 0 0 9 9223372036854775808, [r174]⟩, ⟨50, [va [vi 2,vi 1]], [], vr 0 0 9 9223372036854775808, [r175]⟩, ⟨50, [va [vi 1,vi 3]], [], vr 0 0 14 9223372036854775808, [r176]⟩]
theorem d76_run (t : Nat → TypeId) : allL (deepOk Tryz.prog (deepOrc Tryz.prog (tabG t) (orcL (e26 ++ e27 ++ e28 ++ e33 ++ e34 ++ e35 ++ e37)) 549755813888 (d44 ++ d45) noCuts) (tabG t)) d76 = true := by kernel_rfl

noncomputable def d77 : List DeepE := [⟨50, [va [vi 3,vi 1]], [], vr 0 0 14 9223372036854775808, [r177]⟩, ⟨50, [va [vi 1,vi 4]], [], vr 0 0 19 9223372036854775808, [r178]⟩, ⟨50, [va [vi 4,vi 1]], [], vr 0 0 19 9223372036854775808, [r179]⟩]
theorem d77_run (t : Nat → TypeId) : allL (deepOk Tryz.prog (valOrc (fun _ => false) (tabG t) (orcL (e26 ++ e27 ++ e28 ++ e33 ++ e34 ++ e35 ++ e36 ++ e37 ++ e38))) (tabG t)) d77 = true := by kernel_rfl

end Go.Proofs.YtkmmnlhmfiabfaaGreatDoor
