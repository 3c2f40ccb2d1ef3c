/-
  Says: what calls answer, as the kernel runs them (level 4).
-/
import Derived.Test.YtbghfcllicfnpabGreatDoorKr
import Derived.Test.YtbghfcllicfnpabGreatDoorKa0
import Derived.Test.YtbghfcllicfnpabGreatDoorKa1
import Derived.Test.YtbghfcllicfnpabGreatDoorKa11
import Derived.Test.YtbghfcllicfnpabGreatDoorKa12
import Derived.Test.YtbghfcllicfnpabGreatDoorKa2
import Derived.Test.YtbghfcllicfnpabGreatDoorKa20
import Derived.Test.YtbghfcllicfnpabGreatDoorKa21
import Derived.Test.YtbghfcllicfnpabGreatDoorKa23
import Derived.Test.YtbghfcllicfnpabGreatDoorKa24
import Derived.Test.YtbghfcllicfnpabGreatDoorKa8
import Derived.Test.YtbghfcllicfnpabGreatDoorKa9
import Derived.KernelRfl
set_option maxRecDepth 1000000
set_option linter.unusedVariables false
set_option linter.unusedSimpArgs false
namespace Go.Proofs.YtbghfcllicfnpabGreatDoor
open Go Go.Vx
attribute [local instance] anySyms

noncomputable def d78 : List DeepE := [⟨16, [va [vi 3,vi 3,vr 0 0 35 35], va [vi 3,vi 3]], [r143], vp [vr 1 0 4 4,vi 0], [r144]⟩, ⟨23, [va [vu 9,vu 3,vr 0 0 50 9223372036854775808]], [r145], va [vi 2,vi 4,vr 1 0 34 9223372036854775808], [r146]⟩, ⟨23, [va [vu 10,vu 3,vr 0 0 50 9223372036854775808]], [r147], va [vi 3,vi 4,vr 1 0 36 9223372036854775808], [r148]⟩, ⟨23, [va [vu 8,vu 2,vr 0 0 50 9223372036854775808]], [r149], va [vi 1,vi 3,vr 1 0 10 9223372036854775808], [r58]⟩, ⟨24, [va [vi 1,vi 1,vr 0 0 2 9223372036854775808], va [vi 1,vi 1]], [r50], vr 1 0 2 9223372036854775808, [r71]⟩]
theorem d78_run (t : Nat → TypeId) : allL (deepOk Tryz.prog (deepOrc Tryz.prog (tabG t) (orcL (e0 ++ e2 ++ e3 ++ e4 ++ e5 ++ e9 ++ e28 ++ e29 ++ e30 ++ e32 ++ e33 ++ e37 ++ e38 ++ e39 ++ e43 ++ e58 ++ e63)) 4503599627370496 (d72 ++ d73) noCuts) (tabG t)) d78 = true := by kernel_rfl

noncomputable def d79 : List DeepE := [⟨24, [va [vi 2,vi 1,vr 0 0 4 9223372036854775808], va [vi 3,vi 1]], [r53], vz 0 0, []⟩, ⟨24, [va [vi 1,vi 1,vr 0 0 3 9223372036854775808], va [vi 1,vi 1]], [r51], vr 1 0 3 9223372036854775808, [r75]⟩, ⟨24, [va [vi 1,vi 2,vr 0 0 8 9223372036854775808], va [vi 1,vi 1]], [r56], vr 1 0 3 9223372036854775808, [r77]⟩, ⟨24, [va [vi 2,vi 1,vr 0 0 8 9223372036854775808], va [vi 3,vi 1]], [r57], vr 1 0 4 9223372036854775808, [r86]⟩, ⟨24, [va [vi 1,vi 3,vr 0 0 10 9223372036854775808], va [vi 1,vi 5]], [r58], vr 1 0 4 9223372036854775808, [r88]⟩, ⟨24, [va [vi 3,vi 1,vr 0 0 11 9223372036854775808], va [vi 3,vi 1]], [r61], vr 1 0 3 9223372036854775808, [r79]⟩]
theorem d79_run (t : Nat → TypeId) : allL (deepOk Tryz.prog (valOrc (fun _ => false) (tabG t) (orcL (e0 ++ e37 ++ e58 ++ e59))) (tabG t)) d79 = true := by kernel_rfl

noncomputable def d80 : List DeepE := [⟨24, [va [vi 3,vi 1,vr 0 0 11 9223372036854775808], va [vi 3,vi 1]], [r62], vr 1 0 3 9223372036854775808, [r82]⟩, ⟨24, [va [vi 2,vi 2,vr 0 0 17 9223372036854775808], va [vi 3,vi 3]], [r64], vr 1 0 3 9223372036854775808, [r89]⟩]
theorem d80_run (t : Nat → TypeId) : allL (deepOk Tryz.prog (valOrc (fun _ => false) (tabG t) (orcL (e0 ++ e37 ++ e58 ++ e59))) (tabG t)) d80 = true := by kernel_rfl

noncomputable def d81 : List DeepE := [⟨24, [va [vi 4,vi 2,vr 0 0 31 9223372036854775808], va [vi 5,vi 1]], [r65], vr 1 0 3 9223372036854775808, [r99]⟩]
theorem d81_run (t : Nat → TypeId) : allL (deepOk Tryz.prog (valOrc (fun _ => false) (tabG t) (orcL (e0 ++ e37 ++ e38 ++ e60 ++ e61))) (tabG t)) d81 = true := by kernel_rfl

noncomputable def d82 : List DeepE := [⟨24, [va [vi 3,vi 3,vr 0 0 35 9223372036854775808], va [vi 3,vi 1]], [r118], vr 1 0 2 9223372036854775808, [r132]⟩]
theorem d82_run (t : Nat → TypeId) : allL (deepOk Tryz.prog (valOrc (fun _ => false) (tabG t) (orcL (e0 ++ e37 ++ e59 ++ e60))) (tabG t)) d82 = true := by kernel_rfl

end Go.Proofs.YtbghfcllicfnpabGreatDoor
