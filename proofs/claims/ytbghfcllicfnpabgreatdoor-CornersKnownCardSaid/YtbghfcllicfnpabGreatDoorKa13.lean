/-
  Says: what calls answer, as the kernel runs them (level 2).
-/
import Derived.Test.YtbghfcllicfnpabGreatDoorKr
import Derived.Test.YtbghfcllicfnpabGreatDoorKa0
import Derived.Test.YtbghfcllicfnpabGreatDoorKa1
import Derived.Test.YtbghfcllicfnpabGreatDoorKa2
import Derived.Test.YtbghfcllicfnpabGreatDoorKa3
import Derived.Test.YtbghfcllicfnpabGreatDoorKa4
import Derived.Test.YtbghfcllicfnpabGreatDoorKa5
import Derived.Test.YtbghfcllicfnpabGreatDoorKa6
import Derived.Test.YtbghfcllicfnpabGreatDoorKa7
import Derived.Test.YtbghfcllicfnpabGreatDoorKa8
import Derived.KernelRfl
set_option maxRecDepth 1000000
set_option linter.unusedVariables false
set_option linter.unusedSimpArgs false
namespace Go.Proofs.YtbghfcllicfnpabGreatDoor
open Go Go.Vx
attribute [local instance] anySyms

noncomputable def d44 : List DeepE := [⟨15, [va [vi 4,vi 2], va [vi 5,vi 3]], [], vp [vr 0 0 4 4,vi 0], [r46]⟩, ⟨15, [va [vi 2,vi 2], va [vi 2,vi 2]], [], vp [vr 0 0 8 8,vi 0], [r47]⟩, ⟨15, [va [vi 3,vi 3], va [vi 4,vi 4]], [], vp [vr 0 0 8 8,vi 0], [r48]⟩, ⟨15, [va [vi 5,vi 2], va [vi 9,vi 3]], [], vp [vr 0 0 4 4,vi 0], [r49]⟩, ⟨21, [va [vi 1,vi 1], va [vi 1,vi 1]], [], vr 0 0 4 9223372036854775808, [r17]⟩, ⟨21, [va [vi 3,vi 1], va [vi 3,vi 1]], [], vr 0 0 4 9223372036854775808, [r18]⟩]
theorem d44_run (t : Nat → TypeId) : allL (deepOk Tryz.prog (valOrc (fun _ => false) (tabG t) (orcL (e0 ++ e1 ++ e3 ++ e4 ++ e9 ++ e10 ++ e11 ++ e12 ++ e16 ++ e17 ++ e20 ++ e21 ++ e22))) (tabG t)) d44 = true := by kernel_rfl

noncomputable def d45 : List DeepE := [⟨21, [va [vi 1,vi 3], va [vi 1,vi 1]], [], vr 0 0 4 9223372036854775808, [r17]⟩, ⟨21, [va [vi 4,vi 1], va [vi 7,vi 1]], [], vr 0 0 4 9223372036854775808, [r15]⟩]
theorem d45_run (t : Nat → TypeId) : allL (deepOk Tryz.prog (valOrc (fun _ => false) (tabG t) (orcL (e10 ++ e11 ++ e12 ++ e13 ++ e14 ++ e15 ++ e16 ++ e17 ++ e21 ++ e22 ++ e25))) (tabG t)) d45 = true := by kernel_rfl

noncomputable def d46 : List DeepE := [⟨21, [va [vi 5,vi 1], va [vi 9,vi 1]], [], vr 0 0 4 9223372036854775808, [r16]⟩]
theorem d46_run (t : Nat → TypeId) : allL (deepOk Tryz.prog (valOrc (fun _ => false) (tabG t) (orcL (e10 ++ e11 ++ e15 ++ e16 ++ e17 ++ e20 ++ e21 ++ e22 ++ e24 ++ e25 ++ e27 ++ e28))) (tabG t)) d46 = true := by kernel_rfl

noncomputable def d47 : List DeepE := [⟨21, [va [vi 1,vi 4], va [vi 1,vi 3]], [], vr 0 0 4 9223372036854775808, [r18]⟩]
theorem d47_run (t : Nat → TypeId) : allL (deepOk Tryz.prog (deepOrc Tryz.prog (tabG t) (orcL (e1 ++ e10 ++ e11 ++ e12 ++ e13 ++ e14 ++ e15)) 1099511627776 (d8) noCuts) (tabG t)) d47 = true := by kernel_rfl

end Go.Proofs.YtbghfcllicfnpabGreatDoor
