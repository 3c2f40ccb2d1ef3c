/-
  Says: what calls answer, as the kernel runs them (level 5).
-/
import Derived.Test.YtkmmnlhmfiabfaaGreatDoorKr
import Derived.Test.YtkmmnlhmfiabfaaGreatDoorKa1
import Derived.Test.YtkmmnlhmfiabfaaGreatDoorKa2
import Derived.Test.YtkmmnlhmfiabfaaGreatDoorKa20
import Derived.Test.YtkmmnlhmfiabfaaGreatDoorKa21
import Derived.KernelRfl
set_option maxRecDepth 1000000
set_option linter.unusedVariables false
set_option linter.unusedSimpArgs false
namespace Go.Proofs.YtkmmnlhmfiabfaaGreatDoor
open Go Go.Vx
attribute [local instance] anySyms

noncomputable def a125_0 : List DeepE := (qAll [-3, -2, -1, 0, 1, 2, 3, 4] 9).map fun x => atE 135 9223372036854775808 l9 (liesC l9) 14 x.1 x.2.1 x.2.2
noncomputable def d125 : List DeepE := [⟨17, [va [vi 3,vi 1,vr 0 0 6 9223372036854775808]], [r147], vr 1 0 6 9223372036854775808, [r161]⟩]
theorem d125_run (t : Nat → TypeId) : allL (deepOk Tryz.prog (deepOrc Tryz.prog (tabG t) (orcL ([])) 206158430208 (d101 ++ a125_0) noCuts) (tabG t)) d125 = true := by kernel_rfl

noncomputable def a126_0 : List DeepE := (qAll [-2, -1, 0, 1, 2, 3, 4, 5] 11).map fun x => atE 135 9223372036854775808 l10 (liesC l10) 31 x.1 x.2.1 x.2.2
noncomputable def d126 : List DeepE := [⟨17, [va [vi 2,vi 3,vr 0 0 19 9223372036854775808]], [r4], vr 1 0 15 9223372036854775808, [r165]⟩]
theorem d126_run (t : Nat → TypeId) : allL (deepOk Tryz.prog (deepOrc Tryz.prog (tabG t) (orcL ([])) 35390530519040 (d8 ++ d9 ++ d10 ++ d11 ++ d12 ++ d13 ++ d107 ++ a126_0) noCuts) (tabG t)) d126 = true := by kernel_rfl

noncomputable def a127_0 : List DeepE := (qAll [-3, -2, -1, 0, 1, 2, 3, 4, 5] 11).map fun x => atE 135 9223372036854775808 l11 (liesC l11) 31 x.1 x.2.1 x.2.2
noncomputable def d127 : List DeepE := [⟨17, [va [vi 3,vi 2,vr 0 0 18 9223372036854775808]], [r3], vr 1 0 15 9223372036854775808, [r164]⟩]
theorem d127_run (t : Nat → TypeId) : allL (deepOk Tryz.prog (deepOrc Tryz.prog (tabG t) (orcL ([])) 35390530519040 (d8 ++ d9 ++ d10 ++ d11 ++ d12 ++ d106 ++ a127_0) noCuts) (tabG t)) d127 = true := by kernel_rfl

noncomputable def a128_0 : List DeepE := (qAll [-4, -3, -2, -1, 0, 1, 2, 3, 4, 5] 11).map fun x => atE 135 9223372036854775808 l12 (liesC l12) 19 x.1 x.2.1 x.2.2
noncomputable def d128 : List DeepE := [⟨17, [va [vi 4,vi 1,vr 0 0 8 9223372036854775808]], [r7], vr 1 0 6 9223372036854775808, [r163]⟩]
theorem d128_run (t : Nat → TypeId) : allL (deepOk Tryz.prog (deepOrc Tryz.prog (tabG t) (orcL ([])) 35390530519040 (d8 ++ d9 ++ d103 ++ a128_0) noCuts) (tabG t)) d128 = true := by kernel_rfl

end Go.Proofs.YtkmmnlhmfiabfaaGreatDoor
