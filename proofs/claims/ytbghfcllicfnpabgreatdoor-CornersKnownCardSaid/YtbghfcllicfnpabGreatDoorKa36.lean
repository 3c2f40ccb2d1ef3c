/-
  Says: what calls answer, as the kernel runs them (level 6).
-/
import Derived.Test.YtbghfcllicfnpabGreatDoorKr
import Derived.Test.YtbghfcllicfnpabGreatDoorKa0
import Derived.Test.YtbghfcllicfnpabGreatDoorKa1
import Derived.Test.YtbghfcllicfnpabGreatDoorKa10
import Derived.Test.YtbghfcllicfnpabGreatDoorKa11
import Derived.Test.YtbghfcllicfnpabGreatDoorKa20
import Derived.Test.YtbghfcllicfnpabGreatDoorKa21
import Derived.Test.YtbghfcllicfnpabGreatDoorKa22
import Derived.Test.YtbghfcllicfnpabGreatDoorKa25
import Derived.Test.YtbghfcllicfnpabGreatDoorKa26
import Derived.Test.YtbghfcllicfnpabGreatDoorKa27
import Derived.Test.YtbghfcllicfnpabGreatDoorKa33
import Derived.Test.YtbghfcllicfnpabGreatDoorKa34
import Derived.KernelRfl
set_option maxRecDepth 1000000
set_option linter.unusedVariables false
set_option linter.unusedSimpArgs false
namespace Go.Proofs.YtbghfcllicfnpabGreatDoor
open Go Go.Vx
attribute [local instance] anySyms

noncomputable def d117 : List DeepE := [⟨7, [va [vu 13,vu 4,vr 0 0 50 9223372036854775808], vu 199], [r224], vt, []⟩, ⟨7, [va [vu 12,vu 4,vr 0 0 50 9223372036854775808], vu 230], [r222], vt, []⟩, ⟨7, [va [vu 6,vu 2,vr 0 0 50 9223372036854775808], vu 222], [r232], vt, []⟩, ⟨7, [va [vu 0,vu 0,vr 0 0 50 9223372036854775808], vu 7], [r223], vt, []⟩, ⟨7, [va [vu 4,vu 1,vr 0 0 50 9223372036854775808], vu 94], [r226], vt, []⟩, ⟨7, [va [vu 14,vu 4,vr 0 0 50 9223372036854775808], vu 118], [r227], vt, []⟩, ⟨7, [va [vu 2,vu 0,vr 0 0 50 9223372036854775808], vu 7], [r228], vt, []⟩, ⟨7, [va [vu 5,vu 1,vr 0 0 50 9223372036854775808], vu 99], [r229], vt, []⟩, ⟨7, [va [vu 15,vu 5,vr 0 0 50 9223372036854775808], vu 21], [r231], vt, []⟩, ⟨7, [va [vu 3,vu 1,vr 0 0 50 9223372036854775808], vu 167], [r230], vt, []⟩, ⟨7, [va [vu 1,vu 0,vr 0 0 50 9223372036854775808], vu 29], [r225], vt, []⟩, ⟨7, [va [vu 9,vu 3,vr 0 0 50 9223372036854775808], vu 18], [r145], vt, []⟩, ⟨7, [va [vu 7,vu 2,vr 0 0 50 9223372036854775808], vu 218], [r233], vt, []⟩, ⟨7, [va [vu 11,vu 3,vr 0 0 50 9223372036854775808], vu 88], [r234], vt, []⟩, ⟨7, [va [vu 10,vu 3,vr 0 0 50 9223372036854775808], vu 225], [r147], vt, []⟩, ⟨8, [va [vu 12,vu 4,vr 0 0 50 9223372036854775808]], [r222], vt, []⟩, ⟨8, [va [vu 0,vu 0,vr 0 0 50 9223372036854775808]], [r223], vt, []⟩, ⟨8, [va [vu 13,vu 4,vr 0 0 50 9223372036854775808]], [r224], vt, []⟩, ⟨8, [va [vu 4,vu 1,vr 0 0 50 9223372036854775808]], [r226], vt, []⟩]
theorem d117_run (t : Nat → TypeId) : allL (deepOk Tryz.prog (deepOrc Tryz.prog (tabG t) (orcL (e0 ++ e37 ++ e58 ++ e74)) 25239552 (d8 ++ d36 ++ d65 ++ d66 ++ d67 ++ d76 ++ d78 ++ d79 ++ d80 ++ d81 ++ d82 ++ d83 ++ d84 ++ d85 ++ d86 ++ d87 ++ d106 ++ d107 ++ d109 ++ d112 ++ d113) noCuts) (tabG t)) d117 = true := by kernel_rfl

noncomputable def d118 : List DeepE := [⟨8, [va [vu 1,vu 0,vr 0 0 50 9223372036854775808]], [r225], vt, []⟩, ⟨8, [va [vu 2,vu 0,vr 0 0 50 9223372036854775808]], [r228], vt, []⟩, ⟨8, [va [vu 14,vu 4,vr 0 0 50 9223372036854775808]], [r227], vt, []⟩, ⟨8, [va [vu 5,vu 1,vr 0 0 50 9223372036854775808]], [r229], vt, []⟩]
theorem d118_run (t : Nat → TypeId) : allL (deepOk Tryz.prog (deepOrc Tryz.prog (tabG t) (orcL (e0 ++ e37 ++ e58 ++ e59 ++ e74)) 8462336 (d8 ++ d65 ++ d66 ++ d68 ++ d112) noCuts) (tabG t)) d118 = true := by kernel_rfl

noncomputable def d119 : List DeepE := [⟨8, [va [vu 3,vu 1,vr 0 0 50 9223372036854775808]], [r230], vt, []⟩]
theorem d119_run (t : Nat → TypeId) : allL (deepOk Tryz.prog (deepOrc Tryz.prog (tabG t) (orcL (e0 ++ e37 ++ e38 ++ e60 ++ e61 ++ e74)) 8462336 (d8 ++ d66 ++ d67 ++ d68 ++ d113) noCuts) (tabG t)) d119 = true := by kernel_rfl

noncomputable def d120 : List DeepE := [⟨8, [va [vu 15,vu 5,vr 0 0 50 9223372036854775808]], [r231], vt, []⟩]
theorem d120_run (t : Nat → TypeId) : allL (deepOk Tryz.prog (deepOrc Tryz.prog (tabG t) (orcL (e0 ++ e37 ++ e38 ++ e60 ++ e61 ++ e74)) 8462336 (d8 ++ d66 ++ d67 ++ d68 ++ d113) noCuts) (tabG t)) d120 = true := by kernel_rfl

end Go.Proofs.YtbghfcllicfnpabGreatDoor
