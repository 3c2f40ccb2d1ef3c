/-
  Says: what calls answer, as the kernel runs them (level 2).
-/
import Derived.Test.YtbghfcllicfnpabGreatDoorKr
import Derived.Test.YtbghfcllicfnpabGreatDoorKa0
import Derived.Test.YtbghfcllicfnpabGreatDoorKa1
import Derived.Test.YtbghfcllicfnpabGreatDoorKa2
import Derived.Test.YtbghfcllicfnpabGreatDoorKa3
import Derived.Test.YtbghfcllicfnpabGreatDoorKa4
import Derived.Test.YtbghfcllicfnpabGreatDoorKa5
import Derived.Test.YtbghfcllicfnpabGreatDoorKa6
import Derived.Test.YtbghfcllicfnpabGreatDoorKa9
import Derived.KernelRfl
set_option maxRecDepth 1000000
set_option linter.unusedVariables false
set_option linter.unusedSimpArgs false
namespace Go.Proofs.YtbghfcllicfnpabGreatDoor
open Go Go.Vx
attribute [local instance] anySyms

noncomputable def d48 : List DeepE := [⟨21, [va [vi 2,vi 3], va [vi 1,vi 1]], [], vr 0 0 4 9223372036854775808, [r17]⟩]
theorem d48_run (t : Nat → TypeId) : allL (deepOk Tryz.prog (deepOrc Tryz.prog (tabG t) (orcL (e1 ++ e10 ++ e11 ++ e12 ++ e13 ++ e14 ++ e15 ++ e16 ++ e17 ++ e18 ++ e19 ++ e20)) 1099511627776 (d8) noCuts) (tabG t)) d48 = true := by kernel_rfl

noncomputable def d49 : List DeepE := [⟨21, [va [vi 2,vi 2], va [vi 2,vi 2]], [], vr 0 0 8 9223372036854775808, [r47]⟩]
theorem d49_run (t : Nat → TypeId) : allL (deepOk Tryz.prog (valOrc (fun _ => false) (tabG t) (orcL (e1 ++ e10 ++ e11 ++ e12 ++ e13 ++ e14 ++ e16 ++ e17 ++ e18 ++ e19))) (tabG t)) d49 = true := by kernel_rfl

noncomputable def d50 : List DeepE := [⟨21, [va [vi 3,vi 2], va [vi 5,vi 1]], [], vr 0 0 4 9223372036854775808, [r36]⟩, ⟨37, [va [vi 1,vi 1,vr 0 0 2 9223372036854775808]], [r50], vi 0, []⟩]
theorem d50_run (t : Nat → TypeId) : allL (deepOk Tryz.prog (deepOrc Tryz.prog (tabG t) (orcL (e1 ++ e10 ++ e11 ++ e12 ++ e13 ++ e14 ++ e16 ++ e17 ++ e18 ++ e19 ++ e21 ++ e22 ++ e23 ++ e32)) 1099511627776 (d8) noCuts) (tabG t)) d50 = true := by kernel_rfl

end Go.Proofs.YtbghfcllicfnpabGreatDoor
