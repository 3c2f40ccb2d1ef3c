/-
  Says: what calls answer, as the kernel runs them (level 4).
-/
import Derived.Test.YtbghfcllicfnpabGreatDoorKr
import Derived.Test.YtbghfcllicfnpabGreatDoorKa0
import Derived.Test.YtbghfcllicfnpabGreatDoorKa11
import Derived.Test.YtbghfcllicfnpabGreatDoorKa20
import Derived.Test.YtbghfcllicfnpabGreatDoorKa21
import Derived.KernelRfl
set_option maxRecDepth 1000000
set_option linter.unusedVariables false
set_option linter.unusedSimpArgs false
namespace Go.Proofs.YtbghfcllicfnpabGreatDoor
open Go Go.Vx
attribute [local instance] anySyms

noncomputable def d83 : List DeepE := [⟨24, [va [vi 2,vi 4,vr 0 0 34 9223372036854775808], va [vi 3,vi 5]], [r146], vr 1 0 4 9223372036854775808, [r150]⟩]
theorem d83_run (t : Nat → TypeId) : allL (deepOk Tryz.prog (valOrc (fun _ => false) (tabG t) (orcL (e0 ++ e37 ++ e59))) (tabG t)) d83 = true := by kernel_rfl

noncomputable def d84 : List DeepE := [⟨24, [va [vi 4,vi 2,vr 0 0 35 9223372036854775808], va [vi 7,vi 3]], [r66], vr 1 0 3 9223372036854775808, [r105]⟩]
theorem d84_run (t : Nat → TypeId) : allL (deepOk Tryz.prog (valOrc (fun _ => false) (tabG t) (orcL (e0 ++ e37 ++ e38 ++ e60 ++ e61))) (tabG t)) d84 = true := by kernel_rfl

noncomputable def d85 : List DeepE := [⟨24, [va [vi 4,vi 3,vr 0 0 36 9223372036854775808], va [vi 5,vi 1]], [r151], vr 1 0 4 9223372036854775808, [r152]⟩]
theorem d85_run (t : Nat → TypeId) : allL (deepOk Tryz.prog (valOrc (fun _ => false) (tabG t) (orcL (e0 ++ e38 ++ e61))) (tabG t)) d85 = true := by kernel_rfl

noncomputable def d86 : List DeepE := [⟨24, [va [vi 3,vi 4,vr 0 0 36 9223372036854775808], va [vi 4,vi 4]], [r148], vr 1 0 6 9223372036854775808, [r153]⟩]
theorem d86_run (t : Nat → TypeId) : allL (deepOk Tryz.prog (valOrc (fun _ => false) (tabG t) (orcL (e0 ++ e37 ++ e60))) (tabG t)) d86 = true := by kernel_rfl

noncomputable def d87 : List DeepE := [⟨24, [va [vi 4,vi 4,vr 0 0 41 9223372036854775808], va [vi 6,vi 4]], [r154], vr 1 0 5 9223372036854775808, [r155]⟩]
theorem d87_run (t : Nat → TypeId) : allL (deepOk Tryz.prog (valOrc (fun _ => false) (tabG t) (orcL (e0 ++ e38 ++ e61 ++ e62))) (tabG t)) d87 = true := by kernel_rfl

end Go.Proofs.YtbghfcllicfnpabGreatDoor
