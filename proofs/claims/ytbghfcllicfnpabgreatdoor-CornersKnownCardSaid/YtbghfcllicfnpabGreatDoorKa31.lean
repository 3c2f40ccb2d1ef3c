/-
  Says: what calls answer, as the kernel runs them (level 5).
-/
import Derived.Test.YtbghfcllicfnpabGreatDoorKr
import Derived.Test.YtbghfcllicfnpabGreatDoorKa0
import Derived.Test.YtbghfcllicfnpabGreatDoorKa1
import Derived.Test.YtbghfcllicfnpabGreatDoorKa10
import Derived.Test.YtbghfcllicfnpabGreatDoorKa11
import Derived.Test.YtbghfcllicfnpabGreatDoorKa12
import Derived.Test.YtbghfcllicfnpabGreatDoorKa13
import Derived.Test.YtbghfcllicfnpabGreatDoorKa14
import Derived.Test.YtbghfcllicfnpabGreatDoorKa15
import Derived.Test.YtbghfcllicfnpabGreatDoorKa16
import Derived.Test.YtbghfcllicfnpabGreatDoorKa17
import Derived.Test.YtbghfcllicfnpabGreatDoorKa18
import Derived.Test.YtbghfcllicfnpabGreatDoorKa19
import Derived.Test.YtbghfcllicfnpabGreatDoorKa2
import Derived.Test.YtbghfcllicfnpabGreatDoorKa20
import Derived.Test.YtbghfcllicfnpabGreatDoorKa25
import Derived.Test.YtbghfcllicfnpabGreatDoorKa29
import Derived.Test.YtbghfcllicfnpabGreatDoorKa3
import Derived.Test.YtbghfcllicfnpabGreatDoorKa4
import Derived.Test.YtbghfcllicfnpabGreatDoorKa8
import Derived.KernelRfl
set_option maxRecDepth 1000000
set_option linter.unusedVariables false
set_option linter.unusedSimpArgs false
namespace Go.Proofs.YtbghfcllicfnpabGreatDoor
open Go Go.Vx
attribute [local instance] anySyms

noncomputable def e97 : List Ent := [(4, [va [vu 0,vu 0], va [vi 0,vi 2]], vt), (4, [va [vu 1,vu 0], va [vi 1,vi 6]], vt), (4, [va [vu 5,vu 1], va [vi 5,vi 1]], vt), (4, [va [vu 2,vu 0], va [vi 2,vi 8]], vt), (4, [va [vu 10,vu 2], va [vi 10,vi 1]], vt), (4, [va [vu 3,vu 0], va [vi 3,vi 0]], vt), (4, [va [vu 15,vu 3], va [vi 15,vi 4]], vt), (4, [va [vu 1,vu 1], va [vn 9223372036854775807,vi 4611686018427387904]], vt), (4, [va [vu 6,vu 1], va [vi 6,vi 1]], vt), (4, [va [vu 4,vu 0], va [vi 4,vi 3]], vt), (4, [va [vu 7,vu 1], va [vi 7,vi 4]], vt)]
theorem e97_run (t : Nat → TypeId) : allL (entOk Tryz.prog (deepOrc Tryz.prog (tabG t) (orcL (e1 ++ e9 ++ e37 ++ e74)) 8192 (d8) noCuts) (tabG t)) e97 = true := by kernel_rfl

noncomputable def e98 : List Ent := [(4, [va [vu 11,vu 2], va [vi 11,vi 0]], vt), (4, [va [vu 8,vu 1], va [vi 8,vi 7]], vt), (4, [va [vu 12,vu 2], va [vi 12,vi 1]], vt), (4, [va [vu 9,vu 1], va [vi 9,vi 3]], vt), (4, [va [vu 13,vu 2], va [vi 13,vi 1]], vt)]
theorem e98_run (t : Nat → TypeId) : allL (entOk Tryz.prog (deepOrc Tryz.prog (tabG t) (orcL (e9 ++ e37 ++ e38 ++ e58 ++ e74)) 40960 (d8 ++ d36 ++ d44) noCuts) (tabG t)) e98 = true := by kernel_rfl

noncomputable def e99 : List Ent := [(4, [va [vu 14,vu 2], va [vi 14,vi 5]], vt), (6, [va [vu 9,vu 1], vu 18], vt), (6, [va [vu 7,vu 1], vu 218], vt), (6, [va [vu 8,vu 1], vu 152], vt), (6, [va [vu 0,vu 0], vu 7], vt), (6, [va [vu 10,vu 2], vu 225], vt), (6, [va [vu 2,vu 0], vu 7], vt), (6, [va [vu 13,vu 2], vu 199], vt), (6, [va [vu 12,vu 2], vu 230], vt), (6, [va [vu 6,vu 1], vu 222], vt), (6, [va [vu 3,vu 0], vu 167], vt), (6, [va [vu 4,vu 0], vu 94], vt)]
theorem e99_run (t : Nat → TypeId) : allL (entOk Tryz.prog (deepOrc Tryz.prog (tabG t) (orcL (e0 ++ e3 ++ e4 ++ e9 ++ e29 ++ e30 ++ e37 ++ e38 ++ e40 ++ e58 ++ e74)) 3186688 (d8 ++ d36 ++ d44 ++ d45 ++ d46 ++ d49 ++ d50 ++ d54 ++ d55 ++ d56 ++ d57) noCuts) (tabG t)) e99 = true := by kernel_rfl

noncomputable def e100 : List Ent := [(6, [va [vu 11,vu 2], vu 88], vt), (6, [va [vu 15,vu 3], vu 21], vt), (6, [va [vu 14,vu 2], vu 118], vt), (6, [va [vu 1,vu 0], vu 29], vt), (6, [va [vu 5,vu 1], vu 99], vt), (10, [va [vi 5,vi 2,vz 0 0], va [vi 7,vi 1]], vt), (46, [va [vi 2,vi 4], va [vi 17,vu 2]], vp [va [vi 22,vu 1],vi 0]), (46, [va [vi 2,vi 4], va [vi 25,vu 0]], vp [va [vi 25,vu 0],vi 0]), (46, [va [vi 2,vi 4], va [vi 25,vu 2]], vp [va [vi 30,vu 1],vi 0]), (46, [va [vi 2,vi 4], va [vi 26,vu 1]], vp [va [vi 29,vu 2],vi 0]), (46, [va [vi 2,vi 4], va [vi 6,vu 1]], vp [va [vi 1,vu 2],vi 0]), (46, [va [vi 3,vi 4], va [vi 1,vu 2]], vp [va [vi 10,vu 1],vi 0])]
theorem e100_run (t : Nat → TypeId) : allL (entOk Tryz.prog (deepOrc Tryz.prog (tabG t) (orcL (e0 ++ e3 ++ e4 ++ e9 ++ e10 ++ e11 ++ e12 ++ e13 ++ e14 ++ e16 ++ e17 ++ e28 ++ e29 ++ e30 ++ e37 ++ e38 ++ e40 ++ e42 ++ e58 ++ e74 ++ e75)) 4503599630557184 (d8 ++ d36 ++ d47 ++ d48 ++ d53 ++ d95) noCuts) (tabG t)) e100 = true := by kernel_rfl

noncomputable def e101 : List Ent := [(46, [va [vi 4,vi 4], va [vi 13,vu 2]], vp [va [vi 2,vu 1],vi 0]), (46, [va [vi 4,vi 4], va [vi 29,vu 2]], vp [va [vi 18,vu 1],vi 0]), (46, [va [vi 4,vi 4], va [vi 33,vu 0]], vp [va [vi 41,vu 0],vi 0]), (46, [va [vi 4,vi 4], va [vi 5,vu 0]], vp [va [vi 5,vu 0],vi 0])]
theorem e101_run (t : Nat → TypeId) : allL (entOk Tryz.prog (valOrc (fun _ => false) (tabG t) (orcL (e9 ++ e10 ++ e42 ++ e75))) (tabG t)) e101 = true := by kernel_rfl

end Go.Proofs.YtbghfcllicfnpabGreatDoor
