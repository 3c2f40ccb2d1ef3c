/-
  Says: what calls answer, as the kernel runs them (level 6).
-/
import Derived.Test.YtkmmnlhmfiabfaaGreatDoorKr
import Derived.Test.YtkmmnlhmfiabfaaGreatDoorKa0
import Derived.Test.YtkmmnlhmfiabfaaGreatDoorKa1
import Derived.Test.YtkmmnlhmfiabfaaGreatDoorKa14
import Derived.Test.YtkmmnlhmfiabfaaGreatDoorKa15
import Derived.Test.YtkmmnlhmfiabfaaGreatDoorKa18
import Derived.Test.YtkmmnlhmfiabfaaGreatDoorKa19
import Derived.Test.YtkmmnlhmfiabfaaGreatDoorKa2
import Derived.Test.YtkmmnlhmfiabfaaGreatDoorKa20
import Derived.Test.YtkmmnlhmfiabfaaGreatDoorKa23
import Derived.Test.YtkmmnlhmfiabfaaGreatDoorKa24
import Derived.Test.YtkmmnlhmfiabfaaGreatDoorKa25
import Derived.Test.YtkmmnlhmfiabfaaGreatDoorKa26
import Derived.Test.YtkmmnlhmfiabfaaGreatDoorKa27
import Derived.Test.YtkmmnlhmfiabfaaGreatDoorKa3
import Derived.Test.YtkmmnlhmfiabfaaGreatDoorKa4
import Derived.Test.YtkmmnlhmfiabfaaGreatDoorKa5
import Derived.Test.YtkmmnlhmfiabfaaGreatDoorKa6
import Derived.Test.YtkmmnlhmfiabfaaGreatDoorKa8
import Derived.KernelRfl
set_option maxRecDepth 1000000
set_option linter.unusedVariables false
set_option linter.unusedSimpArgs false
namespace Go.Proofs.YtkmmnlhmfiabfaaGreatDoor
open Go Go.Vx
attribute [local instance] anySyms

noncomputable def a137_0 : List DeepE := (([(1, 4, 4), (1, 4, 6), (1, 4, 8), (1, 4, 10), (2, 4, 9)] : List (Int × Int × Int))).map fun x => atE 135 9223372036854775808 l15 (liesC l15) 140 x.1 x.2.1 x.2.2
noncomputable def a137_1 : List DeepE := (([(1, 3, 8), (4, 3, 3)] : List (Int × Int × Int))).map fun x => atE 135 9223372036854775808 l16 (liesC l16) 111 x.1 x.2.1 x.2.2
noncomputable def a137_2 : List DeepE := (([(3, 2, 2), (3, 2, 3), (3, 2, 4), (4, 2, 7)] : List (Int × Int × Int))).map fun x => atE 135 9223372036854775808 l17 (liesC l17) 82 x.1 x.2.1 x.2.2
noncomputable def e137 : List Ent := [(3, [va [vu 4,vu 7], va [vu 2,vu 4,vi 2,vi 7,vi 9]], vt), (3, [va [vu 4,vu 3], va [vu 2,vu 4,vi 3,vi 3,vi 12]], vt), (3, [va [vu 4,vu 8], va [vu 2,vu 1,vi 3,vi 8,vi 13]], vt), (3, [va [vu 4,vu 9], va [vu 2,vu 2,vi 4,vi 9,vi 16]], vt), (3, [va [vu 4,vu 2], va [vu 2,vu 3,vi 2,vi 2,vi 10]], vt), (3, [va [vu 4,vu 4], va [vu 2,vu 1,vi 4,vi 4,vi 13]], vt)]
theorem e137_run (t : Nat → TypeId) : allL (entOk Tryz.prog (deepOrc Tryz.prog (tabG t) (orcL (e0 ++ e22 ++ e85)) 206158430208 (d131 ++ d135 ++ d136 ++ a137_0 ++ a137_1 ++ a137_2) noCuts) (tabG t)) e137 = true := by kernel_rfl

noncomputable def d138 : List DeepE := [⟨4, [va [vu 1,vu 0,vr 0 0 4 9223372036854775808]], [r188], vt, []⟩, ⟨4, [va [vu 4,vu 1,vr 0 0 16 9223372036854775808]], [r189], vt, []⟩, ⟨4, [va [vu 2,vu 0,vr 0 0 8 9223372036854775808]], [r190], vt, []⟩, ⟨4, [va [vu 3,vu 0,vr 0 0 12 9223372036854775808]], [r191], vt, []⟩, ⟨4, [va [vu 8,vu 2,vr 0 0 32 9223372036854775808]], [r192], vt, []⟩, ⟨4, [va [vu 5,vu 1,vr 0 0 20 9223372036854775808]], [r193], vt, []⟩, ⟨4, [va [vu 6,vu 1,vr 0 0 24 9223372036854775808]], [r194], vt, []⟩, ⟨4, [va [vu 9,vu 2,vr 0 0 36 9223372036854775808]], [r195], vt, []⟩]
theorem d138_run (t : Nat → TypeId) : allL (deepOk Tryz.prog (deepOrc Tryz.prog (tabG t) (orcL (e85)) 1017856 (d8 ++ d31 ++ d40 ++ d41 ++ d42 ++ d70 ++ d71 ++ d72 ++ d86 ++ d87 ++ d88 ++ d89 ++ d92 ++ d100 ++ d121 ++ d122 ++ d123 ++ d124 ++ d125 ++ d126 ++ d127 ++ d128) noCuts) (tabG t)) d138 = true := by kernel_rfl

noncomputable def a139_0 : List DeepE := (([(3, 0, 4), (4, 2, 9)] : List (Int × Int × Int))).map fun x => atE 135 9223372036854775808 l16 (liesC l16) 111 x.1 x.2.1 x.2.2
noncomputable def a139_1 : List DeepE := (([(2, 0, 4)] : List (Int × Int × Int))).map fun x => atE 135 9223372036854775808 l18 (liesC l18) 88 x.1 x.2.1 x.2.2
noncomputable def a139_2 : List DeepE := (([(2, 1, 2), (2, 1, 4), (2, 1, 6), (4, 4, 8)] : List (Int × Int × Int))).map fun x => atE 135 9223372036854775808 l19 (liesC l19) 65 x.1 x.2.1 x.2.2
noncomputable def d139 : List DeepE := [⟨4, [va [vu 7,vu 1,vr 0 0 28 9223372036854775808]], [r196], vt, []⟩, ⟨4, [va [vu 10,vu 2,vr 0 0 40 9223372036854775808]], [r197], vt, []⟩, ⟨5, [va [vu 3,vu 3], vr 0 0 2 9223372036854775808], [r242], vt, []⟩, ⟨5, [va [vu 4,vu 3], vr 0 0 2 9223372036854775808], [r243], vt, []⟩, ⟨5, [va [vu 2,vu 3], vr 0 0 1 9223372036854775808], [r244], vt, []⟩, ⟨5, [va [vu 7,vu 3], vr 0 0 4 9223372036854775808], [r245], vt, []⟩, ⟨5, [va [vu 9,vu 3], vr 0 0 5 9223372036854775808], [r246], vt, []⟩, ⟨6, [va [vu 11,vu 2,vr 0 0 44 9223372036854775808]], [r235], vt, []⟩]
theorem d139_run (t : Nat → TypeId) : allL (deepOk Tryz.prog (deepOrc Tryz.prog (tabG t) (orcL (e85)) 1126106070484992 (d8 ++ d31 ++ d40 ++ d41 ++ d42 ++ d70 ++ d73 ++ d74 ++ d76 ++ d86 ++ d91 ++ d96 ++ d98 ++ d99 ++ d115 ++ d116 ++ d117 ++ d121 ++ d129 ++ d130 ++ d132 ++ d134 ++ d135 ++ a139_0 ++ a139_1 ++ a139_2) noCuts) (tabG t)) d139 = true := by kernel_rfl

noncomputable def a140_0 : List DeepE := (qAll [-4, -3, -2, -1, 0, 1, 2, 3, 4, 5, 6, 7] 15).map fun x => atE 135 9223372036854775808 l20 (liesC l20) 65 x.1 x.2.1 x.2.2
noncomputable def d140 : List DeepE := [⟨17, [va [vi 4,vi 3,vr 0 0 30 9223372036854775808]], [r8], vr 1 0 28 9223372036854775808, [r168]⟩]
theorem d140_run (t : Nat → TypeId) : allL (deepOk Tryz.prog (deepOrc Tryz.prog (tabG t) (orcL ([])) 35390530519040 (d8 ++ d9 ++ d10 ++ d11 ++ d12 ++ d14 ++ d15 ++ d17 ++ d18 ++ d19 ++ d20 ++ d133 ++ a140_0) noCuts) (tabG t)) d140 = true := by kernel_rfl

noncomputable def a141_0 : List DeepE := (([(1, 4, 9), (3, 4, 1)] : List (Int × Int × Int))).map fun x => atE 135 9223372036854775808 l18 (liesC l18) 88 x.1 x.2.1 x.2.2
noncomputable def d141 : List DeepE := [⟨21, [va [vi 4,vi 4], vr 0 0 4 9223372036854775808], [r209], vp [va [vi 0,vi 0,vz 0 0],vi 1,vi 7], []⟩]
theorem d141_run (t : Nat → TypeId) : allL (deepOk Tryz.prog (deepOrc Tryz.prog (tabG t) (orcL (e119)) 1126106065272832 (d116 ++ d134 ++ a141_0) noCuts) (tabG t)) d141 = true := by kernel_rfl

end Go.Proofs.YtkmmnlhmfiabfaaGreatDoor
