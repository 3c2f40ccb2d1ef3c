/-
  Says: what calls answer, as the kernel runs them (level 6).
-/
import Derived.Test.YtbghfcllicfnpabGreatDoorKr
import Derived.Test.YtbghfcllicfnpabGreatDoorKa0
import Derived.Test.YtbghfcllicfnpabGreatDoorKa1
import Derived.Test.YtbghfcllicfnpabGreatDoorKa10
import Derived.Test.YtbghfcllicfnpabGreatDoorKa11
import Derived.Test.YtbghfcllicfnpabGreatDoorKa12
import Derived.Test.YtbghfcllicfnpabGreatDoorKa15
import Derived.Test.YtbghfcllicfnpabGreatDoorKa2
import Derived.Test.YtbghfcllicfnpabGreatDoorKa20
import Derived.Test.YtbghfcllicfnpabGreatDoorKa21
import Derived.Test.YtbghfcllicfnpabGreatDoorKa22
import Derived.Test.YtbghfcllicfnpabGreatDoorKa23
import Derived.Test.YtbghfcllicfnpabGreatDoorKa24
import Derived.Test.YtbghfcllicfnpabGreatDoorKa25
import Derived.Test.YtbghfcllicfnpabGreatDoorKa26
import Derived.Test.YtbghfcllicfnpabGreatDoorKa28
import Derived.Test.YtbghfcllicfnpabGreatDoorKa31
import Derived.Test.YtbghfcllicfnpabGreatDoorKa32
import Derived.Test.YtbghfcllicfnpabGreatDoorKa33
import Derived.Test.YtbghfcllicfnpabGreatDoorKa34
import Derived.Test.YtbghfcllicfnpabGreatDoorKa35
import Derived.Test.YtbghfcllicfnpabGreatDoorKa8
import Derived.Test.YtbghfcllicfnpabGreatDoorKa9
import Derived.KernelRfl
set_option maxRecDepth 1000000
set_option linter.unusedVariables false
set_option linter.unusedSimpArgs false
namespace Go.Proofs.YtbghfcllicfnpabGreatDoor
open Go Go.Vx
attribute [local instance] anySyms

noncomputable def d121 : List DeepE := [⟨8, [va [vu 6,vu 2,vr 0 0 50 9223372036854775808]], [r232], vt, []⟩]
theorem d121_run (t : Nat → TypeId) : allL (deepOk Tryz.prog (deepOrc Tryz.prog (tabG t) (orcL (e0 ++ e37 ++ e59 ++ e60 ++ e74)) 8462336 (d8 ++ d76 ++ d77 ++ d113) noCuts) (tabG t)) d121 = true := by kernel_rfl

noncomputable def d122 : List DeepE := [⟨8, [va [vu 9,vu 3,vr 0 0 50 9223372036854775808]], [r145], vt, []⟩, ⟨9, [va [vu 13,vu 4,vr 0 0 50 9223372036854775808], vu 13], [r224], vt, []⟩, ⟨9, [va [vu 12,vu 4,vr 0 0 50 9223372036854775808], vu 12], [r222], vt, []⟩, ⟨9, [va [vu 0,vu 0,vr 0 0 50 9223372036854775808], vu 0], [r223], vt, []⟩]
theorem d122_run (t : Nat → TypeId) : allL (deepOk Tryz.prog (deepOrc Tryz.prog (tabG t) (orcL (e0 ++ e37 ++ e59 ++ e74)) 142680064 (d8 ++ d36 ++ d65 ++ d69 ++ d76 ++ d78 ++ d102 ++ d103 ++ d104 ++ d105 ++ d106 ++ d107 ++ d109 ++ d110 ++ d112) noCuts) (tabG t)) d122 = true := by kernel_rfl

noncomputable def d123 : List DeepE := [⟨9, [va [vu 14,vu 4,vr 0 0 50 9223372036854775808], vu 14], [r227], vt, []⟩, ⟨9, [va [vu 4,vu 1,vr 0 0 50 9223372036854775808], vu 4], [r226], vt, []⟩, ⟨9, [va [vu 2,vu 0,vr 0 0 50 9223372036854775808], vu 2], [r228], vt, []⟩, ⟨9, [va [vu 5,vu 1,vr 0 0 50 9223372036854775808], vu 5], [r229], vt, []⟩, ⟨9, [va [vu 6,vu 2,vr 0 0 50 9223372036854775808], vu 6], [r232], vt, []⟩, ⟨9, [va [vu 7,vu 2,vr 0 0 50 9223372036854775808], vu 7], [r233], vt, []⟩, ⟨9, [va [vu 15,vu 5,vr 0 0 50 9223372036854775808], vu 15], [r231], vt, []⟩, ⟨9, [va [vu 3,vu 1,vr 0 0 50 9223372036854775808], vu 3], [r230], vt, []⟩, ⟨9, [va [vu 1,vu 0,vr 0 0 50 9223372036854775808], vu 1], [r225], vt, []⟩]
theorem d123_run (t : Nat → TypeId) : allL (deepOk Tryz.prog (deepOrc Tryz.prog (tabG t) (orcL (e0 ++ e2 ++ e3 ++ e4 ++ e6 ++ e9 ++ e30 ++ e31 ++ e32 ++ e33 ++ e34 ++ e35 ++ e40 ++ e41 ++ e42 ++ e74)) 137581633536 (d8 ++ d36 ++ d51 ++ d65 ++ d66 ++ d68 ++ d69 ++ d70 ++ d71 ++ d76 ++ d78 ++ d88 ++ d89 ++ d107 ++ d111 ++ d112 ++ d113 ++ d114 ++ d115) noCuts) (tabG t)) d123 = true := by kernel_rfl

noncomputable def d124 : List DeepE := [⟨16, [va [vi 4,vi 3,vr 0 0 36 9223372036854775808], va [vi 3,vi 5]], [r151], vp [vz 0 0,vi 0], []⟩, ⟨16, [va [vi 4,vi 3,vr 0 0 36 9223372036854775808], va [vi 5,vi 5]], [r151], vp [vz 0 0,vi 0], []⟩, ⟨16, [va [vi 4,vi 3,vr 0 0 36 9223372036854775808], va [vi 7,vi 5]], [r151], vp [vz 0 0,vi 0], []⟩, ⟨16, [va [vi 3,vi 4,vr 0 0 36 9223372036854775808], va [vi 1,vi 7]], [r148], vp [vz 0 0,vi 0], []⟩, ⟨16, [va [vi 4,vi 4,vr 0 0 41 9223372036854775808], va [vi 3,vi 5]], [r154], vp [vz 0 0,vi 0], []⟩, ⟨16, [va [vi 3,vi 4,vr 0 0 36 9223372036854775808], va [vi 3,vi 7]], [r148], vp [vz 0 0,vi 0], []⟩, ⟨16, [va [vi 3,vi 4,vr 0 0 36 9223372036854775808], va [vi 5,vi 7]], [r148], vp [vz 0 0,vi 0], []⟩, ⟨17, [va [vi 4,vi 4,vr 0 0 41 9223372036854775808], va [vi 1,vi 7]], [r154], vp [vi 0,vi 0], []⟩, ⟨17, [va [vi 4,vi 4,vr 0 0 41 9223372036854775808], va [vi 3,vi 7]], [r154], vp [vi 0,vi 0], []⟩, ⟨17, [va [vi 4,vi 4,vr 0 0 41 9223372036854775808], va [vi 4,vi 6]], [r154], vp [vi 0,vi 0], []⟩, ⟨17, [va [vi 4,vi 4,vr 0 0 41 9223372036854775808], va [vi 5,vi 5]], [r154], vp [vi 0,vi 0], []⟩, ⟨17, [va [vi 4,vi 4,vr 0 0 41 9223372036854775808], va [vi 5,vi 7]], [r154], vp [vi 0,vi 0], []⟩, ⟨17, [va [vi 4,vi 4,vr 0 0 41 9223372036854775808], va [vi 6,vi 6]], [r154], vp [vi 0,vi 0], []⟩, ⟨17, [va [vi 4,vi 4,vr 0 0 41 9223372036854775808], va [vi 7,vi 7]], [r154], vp [vi 0,vi 0], []⟩, ⟨27, [va [vi 2,vi 4,vr 0 0 34 9223372036854775808]], [r146], vp [va [vi 2,vi 4,vr 1 0 34 34],vi 0], [r215]⟩]
theorem d124_run (t : Nat → TypeId) : allL (deepOk Tryz.prog (deepOrc Tryz.prog (tabG t) (orcL (e2 ++ e3 ++ e9 ++ e30 ++ e31 ++ e32 ++ e33 ++ e34 ++ e38 ++ e41 ++ e42 ++ e62 ++ e63 ++ e64 ++ e74 ++ e100)) 40564819811766250655621406859264 (d36 ++ d52 ++ d73 ++ d90 ++ d91 ++ d102 ++ d103 ++ d104 ++ d116) noCuts) (tabG t)) d124 = true := by kernel_rfl

end Go.Proofs.YtbghfcllicfnpabGreatDoor
