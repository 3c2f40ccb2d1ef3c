/-
  Says: what calls answer, as the kernel runs them (level 2).
-/
import Derived.Test.YtbghfcllicfnpabGreatDoorKr
import Derived.Test.YtbghfcllicfnpabGreatDoorKa1
import Derived.Test.YtbghfcllicfnpabGreatDoorKa2
import Derived.Test.YtbghfcllicfnpabGreatDoorKa3
import Derived.Test.YtbghfcllicfnpabGreatDoorKa4
import Derived.Test.YtbghfcllicfnpabGreatDoorKa5
import Derived.Test.YtbghfcllicfnpabGreatDoorKa6
import Derived.Test.YtbghfcllicfnpabGreatDoorKa7
import Derived.KernelRfl
set_option maxRecDepth 1000000
set_option linter.unusedVariables false
set_option linter.unusedSimpArgs false
namespace Go.Proofs.YtbghfcllicfnpabGreatDoor
open Go Go.Vx
attribute [local instance] anySyms
noncomputable def c54_0_e : List Value × List VObj := ([va [vi 4,vi 2], va [vi 5,vi 3], vP 3 0, vP 4 0, vz 0 0, vQ 5 0 32 9223372036854775808, vQ 25 0 4 9223372036854775808, vi 8, vi 2, vn 0, vi 32, va [vi 4,vi 2], vQ 5 0 32 9223372036854775808, vi 8, vf, vi 7, vi 8, vQ 28 0 8 8, vi 7, vP 28 7, vi 2, vQ 29 0 8 8, vi 7, vP 29 7, vn 0, vi 32, vQ 5 0 32 9223372036854775808, vi 32, vf, vi 31, vi 32, vQ 5 0 32 9223372036854775808, vi 31, vP 5 93, va [vi 3,vi 1,vu 3], vP 4 0, vi 5, vi 60, vi 2, vi 62, vP 4 1, vi 3, vi 36, vn 0, vi 35, vi 0, vf, vf, vp [], vp [], vp [], vp [], vp [], vp [], vp [], vp [], vp [], vp [], vp [], vp [], vp [], vp [], vp [], vp [], vp [], vp [], vp [], vp [], vf, vQ 19 0 3 9223372036854775808, vi 24, vQ 24 0 1 1, vQ 25 0 4 9223372036854775808, vp [], vp [], vp [], vp [], vp [], vp [], vp [], vp [], vp [], vp [], vp [], vp [], vp [], vp []], [o13, o14, o15, o3, o4, o16, o6, o3, o4, o17, o6, o3, o4, o3, o4, o19, o6, o3, o4, o3, o4, o20, o21, o3, o4, o3, o4])
noncomputable def c54_0_1 : CutE := ⟨21, 87, 0, 321, 7, 2, 3, [va [vi 4,vi 2], va [vi 5,vi 3], vP 3 0, vP 4 0, vz 0 0, vQ 5 0 32 9223372036854775808, vQ 13 0 2 9223372036854775808, vi 2, vi 1, vi 2, vi 32, va [vi 4,vi 2], vQ 5 0 32 9223372036854775808, vi 1, vt, vi 1, vi 2, vQ 10 0 8 8, vi 1, vP 10 1, vi 1, vQ 11 0 8 8, vi 1, vP 11 1, vi 2, vi 32, vQ 5 0 32 9223372036854775808, vi 32, vf, vi 31, vi 32, vQ 5 0 32 9223372036854775808, vi 31, vP 5 93, va [vi 3,vi 1,vu 3], vP 4 0, vi 5, vi 60, vi 1, vi 61, vP 4 1, vi 3, vi 36, vi 2, vi 38, vi 0, vf, vf, vp [], vp [], vp [], vp [], vp [], vp [], vp [], vp [], vp [], vp [], vp [], vp [], vp [], vp [], vp [], vp [], vp [], vp [], vp [], vp [], vf, vQ 9 0 1 9223372036854775808, vi 26, vQ 12 0 1 1, vQ 13 0 2 9223372036854775808, vp [], vp [], vp [], vp [], vp [], vp [], vp [], vp [], vp [], vp [], vp [], vp [], vp [], vp []], [o13, o14, o15, o3, o4, o16, o6, o3, o4, o17, o18], [], .exit 0, c54_0_e.1, c54_0_e.2, []⟩
theorem c54_0_1_run (t : Nat → TypeId) : allL (cutOk Tryz.prog (deepOrc Tryz.prog (tabG t) (orcL (e10 ++ e11 ++ e12 ++ e13 ++ e14 ++ e16 ++ e17 ++ e18 ++ e19 ++ e21 ++ e22 ++ e23 ++ e25 ++ e26)) 1099511627776 (d8) noCuts) (tabG t)) [c54_0_1] = true := by kernel_rfl
noncomputable def c54_0_0 : CutE := ⟨21, 87, 0, 321, 7, 1, 3, [va [vi 4,vi 2], va [vi 5,vi 3], vP 3 0, vP 4 0, vz 0 0, vQ 5 0 32 9223372036854775808, vQ 9 0 1 9223372036854775808, vi 1, vi 2, vi 1, vi 32, va [vi 4,vi 2], vQ 5 0 32 9223372036854775808, vi 0, vt, vi 0, vi 1, vQ 6 0 8 8, vi 0, vP 6 0, vi 2, vQ 7 0 8 8, vi 0, vP 7 0, vi 1, vi 32, vQ 5 0 32 9223372036854775808, vi 32, vf, vi 31, vi 32, vQ 5 0 32 9223372036854775808, vi 31, vP 5 93, va [vi 3,vi 1,vu 3], vP 4 0, vi 5, vi 60, vi 2, vi 62, vP 4 1, vi 3, vi 36, vi 1, vi 37, vi 0, vf, vf, vp [], vp [], vp [], vp [], vp [], vp [], vp [], vp [], vp [], vp [], vp [], vp [], vp [], vp [], vp [], vp [], vp [], vp [], vp [], vp [], vf, vz 0 0, vi 25, vQ 8 0 1 1, vQ 9 0 1 9223372036854775808, vp [], vp [], vp [], vp [], vp [], vp [], vp [], vp [], vp [], vp [], vp [], vp [], vp [], vp []], [o13, o14, o15, o3, o4, o16, o16], [], .exit 0, c54_0_e.1, c54_0_e.2, []⟩
theorem c54_0_0_run (t : Nat → TypeId) : allL (cutOk Tryz.prog (deepOrc Tryz.prog (tabG t) (orcL (e10 ++ e11 ++ e12 ++ e13 ++ e14 ++ e16 ++ e17 ++ e18 ++ e19 ++ e21 ++ e22 ++ e23 ++ e25 ++ e26)) 1099511627776 (d8) (cutsL Tryz.prog (tabG t) [c54_0_1])) (tabG t)) [c54_0_0] = true := by kernel_rfl

noncomputable def d54 : List DeepE := [⟨21, [va [vi 4,vi 2], va [vi 5,vi 3]], [], vr 0 0 4 9223372036854775808, [r46]⟩]
theorem d54_run (t : Nat → TypeId) : allL (deepOk Tryz.prog (deepOrc Tryz.prog (tabG t) (orcL (e10 ++ e11 ++ e12 ++ e13 ++ e14 ++ e16 ++ e17 ++ e18 ++ e19 ++ e21 ++ e22 ++ e23 ++ e25 ++ e26)) 1099511627776 (d8) (cutsL Tryz.prog (tabG t) [c54_0_0])) (tabG t)) d54 = true := by kernel_rfl

end Go.Proofs.YtbghfcllicfnpabGreatDoor
