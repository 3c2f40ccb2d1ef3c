/-
  Says: what calls answer, as the kernel runs them (level 2).
-/
import Derived.Test.YtbghfcllicfnpabGreatDoorKr
import Derived.Test.YtbghfcllicfnpabGreatDoorKa1
import Derived.Test.YtbghfcllicfnpabGreatDoorKa2
import Derived.Test.YtbghfcllicfnpabGreatDoorKa3
import Derived.Test.YtbghfcllicfnpabGreatDoorKa4
import Derived.Test.YtbghfcllicfnpabGreatDoorKa5
import Derived.Test.YtbghfcllicfnpabGreatDoorKa6
import Derived.Test.YtbghfcllicfnpabGreatDoorKa7
import Derived.Test.YtbghfcllicfnpabGreatDoorKa8
import Derived.KernelRfl
set_option maxRecDepth 1000000
set_option linter.unusedVariables false
set_option linter.unusedSimpArgs false
namespace Go.Proofs.YtbghfcllicfnpabGreatDoor
open Go Go.Vx
attribute [local instance] anySyms
noncomputable def c56_0_e : List Value × List VObj := ([va [vi 5,vi 2], va [vi 9,vi 1], vP 3 0, vP 4 0, vz 0 0, vQ 5 0 40 9223372036854775808, vQ 25 0 4 9223372036854775808, vi 8, vi 2, vn 0, vi 40, va [vi 5,vi 2], vQ 5 0 40 9223372036854775808, vi 8, vf, vi 7, vi 8, vQ 28 0 8 8, vi 7, vP 28 7, vi 2, vQ 29 0 8 8, vi 7, vP 29 7, vn 0, vi 40, vQ 5 0 40 9223372036854775808, vi 40, vf, vi 39, vi 40, vQ 5 0 40 9223372036854775808, vi 39, vP 5 117, va [vi 4,vi 1,vu 3], vP 4 0, vi 9, vi 108, vi 2, vi 110, vP 4 1, vi 1, vi 12, vn 0, vi 11, vi 0, vf, vf, vp [], vp [], vp [], vp [], vp [], vp [], vp [], vp [], vp [], vp [], vp [], vp [], vp [], vp [], vp [], vp [], vp [], vp [], vp [], vp [], vf, vQ 19 0 3 9223372036854775808, vi 16, vQ 24 0 1 1, vQ 25 0 4 9223372036854775808, vp [], vp [], vp [], vp [], vp [], vp [], vp [], vp [], vp [], vp [], vp [], vp [], vp [], vp []], [o35, o36, o37, o3, o4, o31, o6, o3, o4, o30, o6, o3, o4, o3, o4, o39, o6, o3, o4, o3, o4, o40, o41, o3, o4, o3, o4])
noncomputable def c56_0_1 : CutE := ⟨21, 87, 0, 321, 7, 3, 3, [va [vi 5,vi 2], va [vi 9,vi 1], vP 3 0, vP 4 0, vz 0 0, vQ 5 0 40 9223372036854775808, vQ 13 0 2 9223372036854775808, vi 3, vn 0, vi 2, vi 40, va [vi 5,vi 2], vQ 5 0 40 9223372036854775808, vi 2, vt, vi 2, vi 3, vQ 14 0 8 8, vi 2, vP 14 2, vn 0, vQ 15 0 8 8, vi 2, vP 15 2, vi 2, vi 40, vQ 5 0 40 9223372036854775808, vi 40, vf, vi 39, vi 40, vQ 5 0 40 9223372036854775808, vi 39, vP 5 117, va [vi 4,vi 1,vu 3], vP 4 0, vi 9, vi 108, vn 0, vi 107, vP 4 1, vi 1, vi 12, vi 2, vi 14, vi 0, vf, vf, vp [], vp [], vp [], vp [], vp [], vp [], vp [], vp [], vp [], vp [], vp [], vp [], vp [], vp [], vp [], vp [], vp [], vp [], vp [], vp [], vf, vQ 9 0 1 9223372036854775808, vi 18, vQ 12 0 1 1, vQ 13 0 2 9223372036854775808, vp [], vp [], vp [], vp [], vp [], vp [], vp [], vp [], vp [], vp [], vp [], vp [], vp [], vp []], [o35, o36, o37, o3, o4, o31, o6, o3, o4, o30, o38, o3, o4], [], .exit 0, c56_0_e.1, c56_0_e.2, []⟩
theorem c56_0_1_run (t : Nat → TypeId) : allL (cutOk Tryz.prog (deepOrc Tryz.prog (tabG t) (orcL (e10 ++ e11 ++ e12 ++ e13 ++ e14 ++ e15 ++ e16 ++ e17 ++ e18 ++ e19 ++ e20 ++ e21 ++ e22 ++ e23 ++ e24 ++ e25 ++ e26 ++ e27 ++ e28)) 1099511627776 (d8) noCuts) (tabG t)) [c56_0_1] = true := by kernel_rfl
noncomputable def c56_0_0 : CutE := ⟨21, 87, 0, 321, 7, 1, 3, [va [vi 5,vi 2], va [vi 9,vi 1], vP 3 0, vP 4 0, vz 0 0, vQ 5 0 40 9223372036854775808, vQ 9 0 1 9223372036854775808, vi 1, vi 2, vi 1, vi 40, va [vi 5,vi 2], vQ 5 0 40 9223372036854775808, vi 0, vt, vi 0, vi 1, vQ 6 0 8 8, vi 0, vP 6 0, vi 2, vQ 7 0 8 8, vi 0, vP 7 0, vi 1, vi 40, vQ 5 0 40 9223372036854775808, vi 40, vf, vi 39, vi 40, vQ 5 0 40 9223372036854775808, vi 39, vP 5 117, va [vi 4,vi 1,vu 3], vP 4 0, vi 9, vi 108, vi 2, vi 110, vP 4 1, vi 1, vi 12, vi 1, vi 13, vi 0, vf, vf, vp [], vp [], vp [], vp [], vp [], vp [], vp [], vp [], vp [], vp [], vp [], vp [], vp [], vp [], vp [], vp [], vp [], vp [], vp [], vp [], vf, vz 0 0, vi 17, vQ 8 0 1 1, vQ 9 0 1 9223372036854775808, vp [], vp [], vp [], vp [], vp [], vp [], vp [], vp [], vp [], vp [], vp [], vp [], vp [], vp []], [o35, o36, o37, o3, o4, o31, o31], [], .exit 0, c56_0_e.1, c56_0_e.2, []⟩
theorem c56_0_0_run (t : Nat → TypeId) : allL (cutOk Tryz.prog (deepOrc Tryz.prog (tabG t) (orcL (e10 ++ e11 ++ e12 ++ e13 ++ e14 ++ e15 ++ e16 ++ e17 ++ e18 ++ e19 ++ e20 ++ e21 ++ e22 ++ e23 ++ e24 ++ e25 ++ e26 ++ e27 ++ e28)) 1099511627776 (d8) (cutsL Tryz.prog (tabG t) [c56_0_1])) (tabG t)) [c56_0_0] = true := by kernel_rfl

noncomputable def d56 : List DeepE := [⟨21, [va [vi 5,vi 2], va [vi 9,vi 1]], [], vr 0 0 4 9223372036854775808, [r16]⟩]
theorem d56_run (t : Nat → TypeId) : allL (deepOk Tryz.prog (deepOrc Tryz.prog (tabG t) (orcL (e10 ++ e11 ++ e12 ++ e13 ++ e14 ++ e15 ++ e16 ++ e17 ++ e18 ++ e19 ++ e20 ++ e21 ++ e22 ++ e23 ++ e24 ++ e25 ++ e26 ++ e27 ++ e28)) 1099511627776 (d8) (cutsL Tryz.prog (tabG t) [c56_0_0])) (tabG t)) d56 = true := by kernel_rfl

end Go.Proofs.YtbghfcllicfnpabGreatDoor
