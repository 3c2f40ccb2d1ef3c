/-
  Says: what calls answer, as the kernel runs them (level 2).
-/
import Derived.Test.YtbghfcllicfnpabGreatDoorKr
import Derived.Test.YtbghfcllicfnpabGreatDoorKa1
import Derived.Test.YtbghfcllicfnpabGreatDoorKa2
import Derived.Test.YtbghfcllicfnpabGreatDoorKa3
import Derived.Test.YtbghfcllicfnpabGreatDoorKa4
import Derived.Test.YtbghfcllicfnpabGreatDoorKa5
import Derived.Test.YtbghfcllicfnpabGreatDoorKa6
import Derived.KernelRfl
set_option maxRecDepth 1000000
set_option linter.unusedVariables false
set_option linter.unusedSimpArgs false
namespace Go.Proofs.YtbghfcllicfnpabGreatDoor
open Go Go.Vx
attribute [local instance] anySyms
noncomputable def c55_0_e : List Value × List VObj := ([va [vi 3,vi 3], va [vi 4,vi 4], vP 3 0, vP 4 0, vz 0 0, vQ 5 0 36 9223372036854775808, vQ 37 0 8 9223372036854775808, vi 8, vi 2, vn 0, vi 36, va [vi 3,vi 3], vQ 5 0 36 9223372036854775808, vi 8, vf, vi 7, vi 8, vQ 34 0 8 8, vi 7, vP 34 7, vi 2, vQ 35 0 8 8, vi 7, vP 35 7, vn 0, vi 36, vQ 5 0 36 9223372036854775808, vi 36, vf, vi 35, vi 36, vQ 5 0 36 9223372036854775808, vi 35, vP 5 105, va [vi 2,vi 2,vu 3], vP 4 0, vi 4, vi 48, vi 2, vi 50, vP 4 1, vi 4, vi 48, vn 0, vi 47, vi 0, vf, vf, vp [], vp [], vp [], vp [], vp [], vp [], vp [], vp [], vp [], vp [], vp [], vp [], vp [], vp [], vp [], vp [], vp [], vp [], vp [], vp [], vf, vQ 33 0 7 9223372036854775808, vi 22, vQ 36 0 1 1, vQ 37 0 8 9223372036854775808, vp [], vp [], vp [], vp [], vp [], vp [], vp [], vp [], vp [], vp [], vp [], vp [], vp [], vp []], [o22, o23, o24, o3, o4, o25, o6, o3, o4, o26, o6, o3, o4, o27, o6, o3, o4, o29, o6, o3, o4, o30, o6, o3, o4, o31, o6, o3, o4, o32, o6, o3, o4, o33, o34])
noncomputable def c55_0_1 : CutE := ⟨21, 87, 0, 321, 7, 3, 3, [va [vi 3,vi 3], va [vi 4,vi 4], vP 3 0, vP 4 0, vz 0 0, vQ 5 0 36 9223372036854775808, vQ 17 0 3 9223372036854775808, vi 3, vn 0, vi 2, vi 36, va [vi 3,vi 3], vQ 5 0 36 9223372036854775808, vi 2, vt, vi 2, vi 3, vQ 14 0 8 8, vi 2, vP 14 2, vn 0, vQ 15 0 8 8, vi 2, vP 15 2, vi 2, vi 36, vQ 5 0 36 9223372036854775808, vi 36, vf, vi 35, vi 36, vQ 5 0 36 9223372036854775808, vi 35, vP 5 105, va [vi 2,vi 2,vu 3], vP 4 0, vi 4, vi 48, vn 0, vi 47, vP 4 1, vi 4, vi 48, vi 2, vi 50, vi 0, vf, vf, vp [], vp [], vp [], vp [], vp [], vp [], vp [], vp [], vp [], vp [], vp [], vp [], vp [], vp [], vp [], vp [], vp [], vp [], vp [], vp [], vf, vQ 13 0 2 9223372036854775808, vi 29, vQ 16 0 1 1, vQ 17 0 3 9223372036854775808, vp [], vp [], vp [], vp [], vp [], vp [], vp [], vp [], vp [], vp [], vp [], vp [], vp [], vp []], [o22, o23, o24, o3, o4, o25, o6, o3, o4, o26, o6, o3, o4, o27, o28], [], .exit 0, c55_0_e.1, c55_0_e.2, []⟩
theorem c55_0_1_run (t : Nat → TypeId) : allL (cutOk Tryz.prog (deepOrc Tryz.prog (tabG t) (orcL (e10 ++ e11 ++ e12 ++ e13 ++ e14 ++ e15 ++ e16 ++ e17 ++ e18 ++ e19 ++ e20 ++ e21 ++ e22 ++ e23 ++ e24)) 1099511627776 (d8) noCuts) (tabG t)) [c55_0_1] = true := by kernel_rfl
noncomputable def c55_0_0 : CutE := ⟨21, 87, 0, 321, 7, 1, 3, [va [vi 3,vi 3], va [vi 4,vi 4], vP 3 0, vP 4 0, vz 0 0, vQ 5 0 36 9223372036854775808, vQ 9 0 1 9223372036854775808, vi 1, vi 2, vi 1, vi 36, va [vi 3,vi 3], vQ 5 0 36 9223372036854775808, vi 0, vt, vi 0, vi 1, vQ 6 0 8 8, vi 0, vP 6 0, vi 2, vQ 7 0 8 8, vi 0, vP 7 0, vi 1, vi 36, vQ 5 0 36 9223372036854775808, vi 36, vf, vi 35, vi 36, vQ 5 0 36 9223372036854775808, vi 35, vP 5 105, va [vi 2,vi 2,vu 3], vP 4 0, vi 4, vi 48, vi 2, vi 50, vP 4 1, vi 4, vi 48, vi 1, vi 49, vi 0, vf, vf, vp [], vp [], vp [], vp [], vp [], vp [], vp [], vp [], vp [], vp [], vp [], vp [], vp [], vp [], vp [], vp [], vp [], vp [], vp [], vp [], vf, vz 0 0, vi 32, vQ 8 0 1 1, vQ 9 0 1 9223372036854775808, vp [], vp [], vp [], vp [], vp [], vp [], vp [], vp [], vp [], vp [], vp [], vp [], vp [], vp []], [o22, o23, o24, o3, o4, o25, o25], [], .exit 0, c55_0_e.1, c55_0_e.2, []⟩
theorem c55_0_0_run (t : Nat → TypeId) : allL (cutOk Tryz.prog (deepOrc Tryz.prog (tabG t) (orcL (e10 ++ e11 ++ e12 ++ e13 ++ e14 ++ e15 ++ e16 ++ e17 ++ e18 ++ e19 ++ e20 ++ e21 ++ e22 ++ e23 ++ e24)) 1099511627776 (d8) (cutsL Tryz.prog (tabG t) [c55_0_1])) (tabG t)) [c55_0_0] = true := by kernel_rfl

noncomputable def d55 : List DeepE := [⟨21, [va [vi 3,vi 3], va [vi 4,vi 4]], [], vr 0 0 8 9223372036854775808, [r48]⟩]
theorem d55_run (t : Nat → TypeId) : allL (deepOk Tryz.prog (deepOrc Tryz.prog (tabG t) (orcL (e10 ++ e11 ++ e12 ++ e13 ++ e14 ++ e15 ++ e16 ++ e17 ++ e18 ++ e19 ++ e20 ++ e21 ++ e22 ++ e23 ++ e24)) 1099511627776 (d8) (cutsL Tryz.prog (tabG t) [c55_0_0])) (tabG t)) d55 = true := by kernel_rfl

end Go.Proofs.YtbghfcllicfnpabGreatDoor
