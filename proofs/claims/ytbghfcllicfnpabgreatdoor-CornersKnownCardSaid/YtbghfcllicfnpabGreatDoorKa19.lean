/-
  Says: what calls answer, as the kernel runs them (level 2).
-/
import Derived.Test.YtbghfcllicfnpabGreatDoorKr
import Derived.Test.YtbghfcllicfnpabGreatDoorKa1
import Derived.Test.YtbghfcllicfnpabGreatDoorKa2
import Derived.Test.YtbghfcllicfnpabGreatDoorKa3
import Derived.Test.YtbghfcllicfnpabGreatDoorKa4
import Derived.Test.YtbghfcllicfnpabGreatDoorKa5
import Derived.Test.YtbghfcllicfnpabGreatDoorKa6
import Derived.Test.YtbghfcllicfnpabGreatDoorKa7
import Derived.KernelRfl
set_option maxRecDepth 1000000
set_option linter.unusedVariables false
set_option linter.unusedSimpArgs false
namespace Go.Proofs.YtbghfcllicfnpabGreatDoor
open Go Go.Vx
attribute [local instance] anySyms
noncomputable def c57_0_e : List Value × List VObj := ([va [vi 4,vi 3], va [vi 3,vi 1], vP 3 0, vP 4 0, vz 0 0, vQ 5 0 48 9223372036854775808, vQ 25 0 4 9223372036854775808, vi 8, vi 2, vn 0, vi 48, va [vi 4,vi 3], vQ 5 0 48 9223372036854775808, vi 8, vf, vi 7, vi 8, vQ 28 0 8 8, vi 7, vP 28 7, vi 2, vQ 29 0 8 8, vi 7, vP 29 7, vn 0, vi 48, vQ 5 0 48 9223372036854775808, vi 48, vf, vi 47, vi 48, vQ 5 0 48 9223372036854775808, vi 47, vP 5 141, va [vi 3,vi 2,vu 3], vP 4 0, vi 3, vi 36, vi 2, vi 38, vP 4 1, vi 1, vi 12, vn 0, vi 11, vi 0, vf, vf, vp [], vp [], vp [], vp [], vp [], vp [], vp [], vp [], vp [], vp [], vp [], vp [], vp [], vp [], vp [], vp [], vp [], vp [], vp [], vp [], vf, vQ 19 0 3 9223372036854775808, vi 4, vQ 24 0 1 1, vQ 25 0 4 9223372036854775808, vp [], vp [], vp [], vp [], vp [], vp [], vp [], vp [], vp [], vp [], vp [], vp [], vp [], vp []], [o42, o43, o44, o3, o4, o45, o6, o3, o4, o46, o6, o3, o4, o3, o4, o47, o6, o3, o4, o3, o4, o49, o50, o3, o4, o3, o4])
noncomputable def c57_0_1 : CutE := ⟨21, 87, 0, 321, 7, 4, 3, [va [vi 4,vi 3], va [vi 3,vi 1], vP 3 0, vP 4 0, vz 0 0, vQ 5 0 48 9223372036854775808, vQ 19 0 3 9223372036854775808, vi 4, vn 1, vi 1, vi 48, va [vi 4,vi 3], vQ 5 0 48 9223372036854775808, vi 3, vt, vi 3, vi 4, vQ 16 0 8 8, vi 3, vP 16 3, vn 1, vQ 17 0 8 8, vi 3, vP 17 3, vi 1, vi 48, vQ 5 0 48 9223372036854775808, vi 48, vf, vi 47, vi 48, vQ 5 0 48 9223372036854775808, vi 47, vP 5 141, va [vi 3,vi 2,vu 3], vP 4 0, vi 3, vi 36, vn 1, vi 34, vP 4 1, vi 1, vi 12, vi 1, vi 13, vi 0, vf, vf, vp [], vp [], vp [], vp [], vp [], vp [], vp [], vp [], vp [], vp [], vp [], vp [], vp [], vp [], vp [], vp [], vp [], vp [], vp [], vp [], vf, vQ 13 0 2 9223372036854775808, vi 7, vQ 18 0 1 1, vQ 19 0 3 9223372036854775808, vp [], vp [], vp [], vp [], vp [], vp [], vp [], vp [], vp [], vp [], vp [], vp [], vp [], vp []], [o42, o43, o44, o3, o4, o45, o6, o3, o4, o46, o6, o3, o4, o3, o4, o47, o48], [], .exit 0, c57_0_e.1, c57_0_e.2, []⟩
theorem c57_0_1_run (t : Nat → TypeId) : allL (cutOk Tryz.prog (deepOrc Tryz.prog (tabG t) (orcL (e10 ++ e11 ++ e12 ++ e13 ++ e14 ++ e15 ++ e16 ++ e17 ++ e18 ++ e19 ++ e20 ++ e21 ++ e22 ++ e23 ++ e24 ++ e25 ++ e26 ++ e27)) 1099511627776 (d8) noCuts) (tabG t)) [c57_0_1] = true := by kernel_rfl
noncomputable def c57_0_0 : CutE := ⟨21, 87, 0, 321, 7, 1, 3, [va [vi 4,vi 3], va [vi 3,vi 1], vP 3 0, vP 4 0, vz 0 0, vQ 5 0 48 9223372036854775808, vQ 9 0 1 9223372036854775808, vi 1, vi 2, vi 1, vi 48, va [vi 4,vi 3], vQ 5 0 48 9223372036854775808, vi 0, vt, vi 0, vi 1, vQ 6 0 8 8, vi 0, vP 6 0, vi 2, vQ 7 0 8 8, vi 0, vP 7 0, vi 1, vi 48, vQ 5 0 48 9223372036854775808, vi 48, vf, vi 47, vi 48, vQ 5 0 48 9223372036854775808, vi 47, vP 5 141, va [vi 3,vi 2,vu 3], vP 4 0, vi 3, vi 36, vi 2, vi 38, vP 4 1, vi 1, vi 12, vi 1, vi 13, vi 0, vf, vf, vp [], vp [], vp [], vp [], vp [], vp [], vp [], vp [], vp [], vp [], vp [], vp [], vp [], vp [], vp [], vp [], vp [], vp [], vp [], vp [], vf, vz 0 0, vi 5, vQ 8 0 1 1, vQ 9 0 1 9223372036854775808, vp [], vp [], vp [], vp [], vp [], vp [], vp [], vp [], vp [], vp [], vp [], vp [], vp [], vp []], [o42, o43, o44, o3, o4, o45, o45], [], .exit 0, c57_0_e.1, c57_0_e.2, []⟩
theorem c57_0_0_run (t : Nat → TypeId) : allL (cutOk Tryz.prog (deepOrc Tryz.prog (tabG t) (orcL (e10 ++ e11 ++ e12 ++ e13 ++ e14 ++ e15 ++ e16 ++ e17 ++ e18 ++ e19 ++ e20 ++ e21 ++ e22 ++ e23 ++ e24 ++ e25 ++ e26 ++ e27)) 1099511627776 (d8) (cutsL Tryz.prog (tabG t) [c57_0_1])) (tabG t)) [c57_0_0] = true := by kernel_rfl

noncomputable def d57 : List DeepE := [⟨21, [va [vi 4,vi 3], va [vi 3,vi 1]], [], vr 0 0 4 9223372036854775808, [r18]⟩]
theorem d57_run (t : Nat → TypeId) : allL (deepOk Tryz.prog (deepOrc Tryz.prog (tabG t) (orcL (e10 ++ e11 ++ e12 ++ e13 ++ e14 ++ e15 ++ e16 ++ e17 ++ e18 ++ e19 ++ e20 ++ e21 ++ e22 ++ e23 ++ e24 ++ e25 ++ e26 ++ e27)) 1099511627776 (d8) (cutsL Tryz.prog (tabG t) [c57_0_0])) (tabG t)) d57 = true := by kernel_rfl

end Go.Proofs.YtbghfcllicfnpabGreatDoor
