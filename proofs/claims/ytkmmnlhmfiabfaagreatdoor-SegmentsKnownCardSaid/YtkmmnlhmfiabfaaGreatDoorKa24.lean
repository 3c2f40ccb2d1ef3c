/-
  Says: what calls answer, as the kernel runs them (level 5).
-/
import Derived.Test.YtkmmnlhmfiabfaaGreatDoorKr
import Derived.Test.YtkmmnlhmfiabfaaGreatDoorKa0
import Derived.Test.YtkmmnlhmfiabfaaGreatDoorKa1
import Derived.Test.YtkmmnlhmfiabfaaGreatDoorKa10
import Derived.Test.YtkmmnlhmfiabfaaGreatDoorKa14
import Derived.Test.YtkmmnlhmfiabfaaGreatDoorKa15
import Derived.Test.YtkmmnlhmfiabfaaGreatDoorKa16
import Derived.Test.YtkmmnlhmfiabfaaGreatDoorKa18
import Derived.Test.YtkmmnlhmfiabfaaGreatDoorKa19
import Derived.Test.YtkmmnlhmfiabfaaGreatDoorKa2
import Derived.Test.YtkmmnlhmfiabfaaGreatDoorKa20
import Derived.Test.YtkmmnlhmfiabfaaGreatDoorKa21
import Derived.Test.YtkmmnlhmfiabfaaGreatDoorKa22
import Derived.Test.YtkmmnlhmfiabfaaGreatDoorKa23
import Derived.Test.YtkmmnlhmfiabfaaGreatDoorKa5
import Derived.Test.YtkmmnlhmfiabfaaGreatDoorKa6
import Derived.Test.YtkmmnlhmfiabfaaGreatDoorKa8
import Derived.Test.YtkmmnlhmfiabfaaGreatDoorKa9
import Derived.KernelRfl
set_option maxRecDepth 1000000
set_option linter.unusedVariables false
set_option linter.unusedSimpArgs false
namespace Go.Proofs.YtkmmnlhmfiabfaaGreatDoor
open Go Go.Vx
attribute [local instance] anySyms

noncomputable def a119_0 : List DeepE := (([(2, 1, 1), (3, 1, 6), (4, 1, 11)] : List (Int × Int × Int))).map fun x => atE 135 9223372036854775808 l1 (liesC l1) 53 x.1 x.2.1 x.2.2
noncomputable def a119_1 : List DeepE := (([(1, 0, 0), (2, 0, 5)] : List (Int × Int × Int))).map fun x => atE 135 9223372036854775808 l2 (liesC l2) 24 x.1 x.2.1 x.2.2
noncomputable def e119 : List Ent := [(3, [va [vu 4,vu 0], va [vu 2,vu 1,vi 0,vi 0,vi 2]], vt), (3, [va [vu 4,vu 5], va [vu 2,vu 2,vi 0,vi 5,vi 6]], vt), (3, [va [vu 4,vu 11], va [vu 2,vu 4,vi 1,vi 11,vi 20]], vt), (3, [va [vu 4,vu 1], va [vu 2,vu 2,vi 1,vi 1,vi 3]], vt), (3, [va [vu 4,vu 6], va [vu 2,vu 3,vi 1,vi 6,vi 10]], vt), (4, [va [vu 0,vu 0,vz 0 0]], vt), (5, [va [vu 0,vu 3], vz 0 0], vt), (6, [va [vu 0,vu 0,vz 0 0]], vt), (7, [va [vi 0,vi 0,vz 0 0], va [vu 1,vu 1,vi 1,vi 0,vi 2]], vt), (51, [va [vi 4,vi 4], vi 48, vi 1], vi 69)]
theorem e119_run (t : Nat → TypeId) : allL (entOk Tryz.prog (deepOrc Tryz.prog (tabG t) (orcL (e0 ++ e1 ++ e22 ++ e66 ++ e85)) 1126106065272832 (d77 ++ d108 ++ d112 ++ d116 ++ a119_0 ++ a119_1) noCuts) (tabG t)) e119 = true := by kernel_rfl

noncomputable def a120_0 : List DeepE := (([(1, 1, 0), (3, 2, 6), (4, 4, 8)] : List (Int × Int × Int))).map fun x => atE 135 9223372036854775808 l3 (liesC l3) 42 x.1 x.2.1 x.2.2
noncomputable def a120_1 : List DeepE := (([(1, 0, 5), (2, 1, 5)] : List (Int × Int × Int))).map fun x => atE 135 9223372036854775808 l4 (liesC l4) 19 x.1 x.2.1 x.2.2
noncomputable def d120 : List DeepE := [⟨5, [va [vu 1,vu 3], vr 0 0 1 9223372036854775808], [r230], vt, []⟩, ⟨5, [va [vu 6,vu 3], vr 0 0 3 9223372036854775808], [r231], vt, []⟩, ⟨5, [va [vu 11,vu 3], vr 0 0 6 9223372036854775808], [r232], vt, []⟩, ⟨5, [va [vu 5,vu 3], vr 0 0 3 9223372036854775808], [r233], vt, []⟩, ⟨5, [va [vu 10,vu 3], vr 0 0 5 9223372036854775808], [r234], vt, []⟩, ⟨6, [va [vu 1,vu 0,vr 0 0 4 9223372036854775808]], [r188], vt, []⟩, ⟨6, [va [vu 4,vu 1,vr 0 0 16 9223372036854775808]], [r189], vt, []⟩, ⟨6, [va [vu 2,vu 0,vr 0 0 8 9223372036854775808]], [r190], vt, []⟩, ⟨6, [va [vu 5,vu 1,vr 0 0 20 9223372036854775808]], [r193], vt, []⟩, ⟨6, [va [vu 9,vu 2,vr 0 0 36 9223372036854775808]], [r195], vt, []⟩, ⟨6, [va [vu 6,vu 1,vr 0 0 24 9223372036854775808]], [r194], vt, []⟩, ⟨6, [va [vu 7,vu 1,vr 0 0 28 9223372036854775808]], [r196], vt, []⟩, ⟨6, [va [vu 10,vu 2,vr 0 0 40 9223372036854775808]], [r197], vt, []⟩, ⟨6, [va [vu 3,vu 0,vr 0 0 12 9223372036854775808]], [r191], vt, []⟩]
theorem d120_run (t : Nat → TypeId) : allL (deepOk Tryz.prog (deepOrc Tryz.prog (tabG t) (orcL (e0 ++ e3 ++ e4 ++ e22 ++ e23 ++ e24 ++ e26 ++ e46 ++ e48 ++ e85)) 1126655825641472 (d8 ++ d31 ++ d42 ++ d43 ++ d70 ++ d75 ++ d76 ++ d77 ++ d81 ++ d86 ++ d87 ++ d88 ++ d89 ++ d90 ++ d91 ++ d92 ++ d93 ++ d94 ++ d95 ++ d96 ++ d97 ++ d104 ++ d110 ++ a120_0 ++ a120_1) noCuts) (tabG t)) d120 = true := by kernel_rfl

noncomputable def a121_0 : List DeepE := (qAll [-1, 0, 1, 2, 3] 7).map fun x => atE 135 9223372036854775808 l5 (liesC l5) 9 x.1 x.2.1 x.2.2
noncomputable def d121 : List DeepE := [⟨6, [va [vu 8,vu 2,vr 0 0 32 9223372036854775808]], [r192], vt, []⟩, ⟨15, [va [vu 11,vu 2,vr 0 0 44 9223372036854775808]], [r235], va [vi 4,vi 3,vr 1 0 30 9223372036854775808], [r8]⟩, ⟨17, [va [vi 1,vi 2,vr 0 0 5 9223372036854775808]], [r145], vr 1 0 5 9223372036854775808, [r160]⟩]
theorem d121_run (t : Nat → TypeId) : allL (deepOk Tryz.prog (deepOrc Tryz.prog (tabG t) (orcL (e0 ++ e1 ++ e3 ++ e4 ++ e22 ++ e23 ++ e24 ++ e26 ++ e46 ++ e47 ++ e85)) 1126655821185024 (d43 ++ d86 ++ d87 ++ d101 ++ d118 ++ a121_0) noCuts) (tabG t)) d121 = true := by kernel_rfl

noncomputable def a122_0 : List DeepE := (qAll [-2, -1, 0, 1, 2, 3] 7).map fun x => atE 135 9223372036854775808 l6 (liesC l6) 9 x.1 x.2.1 x.2.2
noncomputable def d122 : List DeepE := [⟨17, [va [vi 2,vi 1,vr 0 0 2 9223372036854775808]], [r143], vr 1 0 2 9223372036854775808, [r159]⟩]
theorem d122_run (t : Nat → TypeId) : allL (deepOk Tryz.prog (deepOrc Tryz.prog (tabG t) (orcL ([])) 206158430208 (d100 ++ a122_0) noCuts) (tabG t)) d122 = true := by kernel_rfl

noncomputable def a123_0 : List DeepE := (qAll [-1, 0, 1, 2, 3, 4] 9).map fun x => atE 135 9223372036854775808 l7 (liesC l7) 14 x.1 x.2.1 x.2.2
noncomputable def d123 : List DeepE := [⟨17, [va [vi 1,vi 3,vr 0 0 9 9223372036854775808]], [r148], vr 1 0 9 9223372036854775808, [r162]⟩]
theorem d123_run (t : Nat → TypeId) : allL (deepOk Tryz.prog (deepOrc Tryz.prog (tabG t) (orcL ([])) 206158430208 (d102 ++ a123_0) noCuts) (tabG t)) d123 = true := by kernel_rfl

noncomputable def a124_0 : List DeepE := (qAll [-2, -1, 0, 1, 2, 3, 4] 9).map fun x => atE 135 9223372036854775808 l8 (liesC l8) 20 x.1 x.2.1 x.2.2
noncomputable def d124 : List DeepE := [⟨17, [va [vi 2,vi 2,vr 0 0 16 9223372036854775808]], [r2], vr 1 0 12 9223372036854775808, [r202]⟩]
theorem d124_run (t : Nat → TypeId) : allL (deepOk Tryz.prog (deepOrc Tryz.prog (tabG t) (orcL ([])) 35390530519040 (d9 ++ d10 ++ d105 ++ a124_0) noCuts) (tabG t)) d124 = true := by kernel_rfl

end Go.Proofs.YtkmmnlhmfiabfaaGreatDoor
