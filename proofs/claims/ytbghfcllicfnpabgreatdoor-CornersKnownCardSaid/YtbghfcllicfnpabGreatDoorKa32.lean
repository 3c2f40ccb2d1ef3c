/-
  Says: what calls answer, as the kernel runs them (level 5).
-/
import Derived.Test.YtbghfcllicfnpabGreatDoorKr
import Derived.Test.YtbghfcllicfnpabGreatDoorKa0
import Derived.Test.YtbghfcllicfnpabGreatDoorKa1
import Derived.Test.YtbghfcllicfnpabGreatDoorKa10
import Derived.Test.YtbghfcllicfnpabGreatDoorKa11
import Derived.Test.YtbghfcllicfnpabGreatDoorKa12
import Derived.Test.YtbghfcllicfnpabGreatDoorKa15
import Derived.Test.YtbghfcllicfnpabGreatDoorKa2
import Derived.Test.YtbghfcllicfnpabGreatDoorKa20
import Derived.Test.YtbghfcllicfnpabGreatDoorKa22
import Derived.Test.YtbghfcllicfnpabGreatDoorKa25
import Derived.Test.YtbghfcllicfnpabGreatDoorKa26
import Derived.Test.YtbghfcllicfnpabGreatDoorKa28
import Derived.Test.YtbghfcllicfnpabGreatDoorKa9
import Derived.KernelRfl
set_option maxRecDepth 1000000
set_option linter.unusedVariables false
set_option linter.unusedSimpArgs false
namespace Go.Proofs.YtbghfcllicfnpabGreatDoor
open Go Go.Vx
attribute [local instance] anySyms

noncomputable def d102 : List DeepE := [⟨7, [va [vu 8,vu 2,vr 0 0 50 9223372036854775808], vu 152], [r149], vt, []⟩, ⟨8, [va [vu 8,vu 2,vr 0 0 50 9223372036854775808]], [r149], vt, []⟩, ⟨9, [va [vu 8,vu 2,vr 0 0 50 9223372036854775808], vu 8], [r149], vt, []⟩, ⟨16, [va [vi 3,vi 4,vr 0 0 36 9223372036854775808], va [vi 5,vi 5]], [r148], vp [vr 1 0 1 1,vi 0], [r168]⟩, ⟨16, [va [vi 3,vi 4,vr 0 0 36 9223372036854775808], va [vi 5,vi 1]], [r148], vp [vr 1 0 2 2,vi 0], [r169]⟩, ⟨16, [va [vi 2,vi 4,vr 0 0 34 9223372036854775808], va [vi 1,vi 7]], [r146], vp [vr 1 0 2 2,vi 0], [r27]⟩, ⟨16, [va [vi 4,vi 4,vr 0 0 41 9223372036854775808], va [vi 5,vi 5]], [r154], vp [vz 0 0,vi 0], []⟩]
theorem d102_run (t : Nat → TypeId) : allL (deepOk Tryz.prog (deepOrc Tryz.prog (tabG t) (orcL (e0 ++ e3 ++ e4 ++ e5 ++ e6 ++ e7 ++ e9 ++ e32 ++ e33 ++ e34 ++ e35 ++ e38 ++ e41 ++ e58 ++ e74 ++ e75)) 590295810496169844736 (d8 ++ d36 ++ d51 ++ d65 ++ d78 ++ d79 ++ d90 ++ d91) noCuts) (tabG t)) d102 = true := by kernel_rfl

noncomputable def d103 : List DeepE := [⟨16, [va [vi 2,vi 4,vr 0 0 34 9223372036854775808], va [vi 1,vi 1]], [r146], vp [vr 1 0 3 3,vi 0], [r170]⟩, ⟨16, [va [vi 4,vi 3,vr 0 0 36 9223372036854775808], va [vi 3,vi 1]], [r151], vp [vr 1 0 3 3,vi 0], [r171]⟩, ⟨16, [va [vi 4,vi 3,vr 0 0 36 9223372036854775808], va [vi 7,vi 3]], [r151], vp [vr 1 0 3 3,vi 0], [r172]⟩, ⟨16, [va [vi 2,vi 4,vr 0 0 34 9223372036854775808], va [vi 3,vi 1]], [r146], vp [vr 1 0 3 3,vi 0], [r173]⟩, ⟨16, [va [vi 4,vi 4,vr 0 0 41 9223372036854775808], va [vi 4,vi 6]], [r154], vp [vz 0 0,vi 0], []⟩, ⟨16, [va [vi 4,vi 3,vr 0 0 36 9223372036854775808], va [vi 1,vi 5]], [r151], vp [vr 1 0 2 2,vi 0], [r174]⟩, ⟨16, [va [vi 4,vi 4,vr 0 0 41 9223372036854775808], va [vi 6,vi 6]], [r154], vp [vz 0 0,vi 0], []⟩, ⟨16, [va [vi 4,vi 4,vr 0 0 41 9223372036854775808], va [vi 1,vi 7]], [r154], vp [vz 0 0,vi 0], []⟩, ⟨16, [va [vi 3,vi 4,vr 0 0 36 9223372036854775808], va [vi 3,vi 1]], [r148], vp [vr 1 0 3 3,vi 0], [r175]⟩, ⟨16, [va [vi 4,vi 4,vr 0 0 41 9223372036854775808], va [vi 3,vi 7]], [r154], vp [vz 0 0,vi 0], []⟩]
theorem d103_run (t : Nat → TypeId) : allL (deepOk Tryz.prog (deepOrc Tryz.prog (tabG t) (orcL (e4 ++ e5 ++ e38 ++ e74 ++ e75)) 137438961664 (d36 ++ d90 ++ d91) noCuts) (tabG t)) d103 = true := by kernel_rfl

noncomputable def d104 : List DeepE := [⟨16, [va [vi 4,vi 4,vr 0 0 41 9223372036854775808], va [vi 5,vi 7]], [r154], vp [vz 0 0,vi 0], []⟩, ⟨16, [va [vi 4,vi 4,vr 0 0 41 9223372036854775808], va [vi 2,vi 6]], [r154], vp [vr 1 0 1 1,vi 0], [r176]⟩, ⟨16, [va [vi 2,vi 4,vr 0 0 34 9223372036854775808], va [vi 1,vi 3]], [r146], vp [vr 1 0 3 3,vi 0], [r177]⟩, ⟨16, [va [vi 4,vi 3,vr 0 0 36 9223372036854775808], va [vi 7,vi 1]], [r151], vp [vr 1 0 3 3,vi 0], [r178]⟩, ⟨16, [va [vi 4,vi 4,vr 0 0 41 9223372036854775808], va [vi 7,vi 7]], [r154], vp [vz 0 0,vi 0], []⟩, ⟨16, [va [vi 4,vi 4,vr 0 0 41 9223372036854775808], va [vi 3,vi 3]], [r154], vp [vr 1 0 2 2,vi 0], [r71]⟩, ⟨16, [va [vi 4,vi 3,vr 0 0 36 9223372036854775808], va [vi 4,vi 4]], [r151], vp [vr 1 0 3 3,vi 0], [r179]⟩, ⟨16, [va [vi 3,vi 4,vr 0 0 36 9223372036854775808], va [vi 1,vi 3]], [r148], vp [vr 1 0 3 3,vi 0], [r180]⟩, ⟨16, [va [vi 3,vi 4,vr 0 0 36 9223372036854775808], va [vi 2,vi 6]], [r148], vp [vr 1 0 3 3,vi 0], [r181]⟩, ⟨16, [va [vi 3,vi 4,vr 0 0 36 9223372036854775808], va [vi 5,vi 3]], [r148], vp [vr 1 0 3 3,vi 0], [r78]⟩]
theorem d104_run (t : Nat → TypeId) : allL (deepOk Tryz.prog (deepOrc Tryz.prog (tabG t) (orcL (e4 ++ e5 ++ e74 ++ e75)) 137438961664 (d36 ++ d90 ++ d91) noCuts) (tabG t)) d104 = true := by kernel_rfl

noncomputable def d105 : List DeepE := [⟨16, [va [vi 4,vi 3,vr 0 0 36 9223372036854775808], va [vi 5,vi 3]], [r151], vp [vr 1 0 3 3,vi 0], [r182]⟩, ⟨16, [va [vi 4,vi 4,vr 0 0 41 9223372036854775808], va [vi 1,vi 5]], [r154], vp [vr 1 0 2 2,vi 0], [r183]⟩, ⟨16, [va [vi 3,vi 4,vr 0 0 36 9223372036854775808], va [vi 3,vi 3]], [r148], vp [vr 1 0 3 3,vi 0], [r184]⟩, ⟨16, [va [vi 4,vi 3,vr 0 0 36 9223372036854775808], va [vi 3,vi 3]], [r151], vp [vr 1 0 3 3,vi 0], [r185]⟩, ⟨16, [va [vi 2,vi 4,vr 0 0 34 9223372036854775808], va [vi 3,vi 7]], [r146], vp [vr 1 0 3 3,vi 0], [r120]⟩, ⟨16, [va [vi 3,vi 4,vr 0 0 36 9223372036854775808], va [vi 1,vi 5]], [r148], vp [vr 1 0 3 3,vi 0], [r103]⟩, ⟨16, [va [vi 3,vi 4,vr 0 0 36 9223372036854775808], va [vi 3,vi 5]], [r148], vp [vr 1 0 3 3,vi 0], [r186]⟩, ⟨16, [va [vi 4,vi 3,vr 0 0 36 9223372036854775808], va [vi 2,vi 4]], [r151], vp [vr 1 0 3 3,vi 0], [r187]⟩, ⟨16, [va [vi 4,vi 4,vr 0 0 41 9223372036854775808], va [vi 4,vi 2]], [r154], vp [vr 1 0 3 3,vi 0], [r188]⟩]
theorem d105_run (t : Nat → TypeId) : allL (deepOk Tryz.prog (deepOrc Tryz.prog (tabG t) (orcL (e4 ++ e5 ++ e38 ++ e74 ++ e75)) 137438961664 (d36 ++ d90 ++ d91) noCuts) (tabG t)) d105 = true := by kernel_rfl

end Go.Proofs.YtbghfcllicfnpabGreatDoor
