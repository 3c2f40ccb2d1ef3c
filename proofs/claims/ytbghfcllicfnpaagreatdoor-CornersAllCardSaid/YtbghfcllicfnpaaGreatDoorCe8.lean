/-
  Says: CornersAll at sheets: runs.
-/
import Derived.Test.YtbghfcllicfnpaaGreatDoorCg
import Derived.Test.YtbghfcllicfnpaaGreatDoorKr
import Derived.Test.YtbghfcllicfnpaaGreatDoorKa1
import Derived.Test.YtbghfcllicfnpaaGreatDoorKa10
import Derived.Test.YtbghfcllicfnpaaGreatDoorKa2
import Derived.Test.YtbghfcllicfnpaaGreatDoorKa3
import Derived.Test.YtbghfcllicfnpaaGreatDoorKa4
import Derived.Test.YtbghfcllicfnpaaGreatDoorKa5
import Derived.Test.YtbghfcllicfnpaaGreatDoorKa6
import Derived.Test.YtbghfcllicfnpaaGreatDoorKa7
import Derived.Test.YtbghfcllicfnpaaGreatDoorKa8
import Derived.KernelRfl
set_option maxRecDepth 1000000
set_option linter.unusedVariables false
set_option linter.unusedSimpArgs false
namespace Go.Proofs.YtbghfcllicfnpaaGreatDoor
open Go Go.Vx
attribute [local instance] anySyms
noncomputable def q_4_5 (t : Nat → TypeId) : Orc := (deepOrc Tryz.prog (tabG t) (orcL (e9 ++ e10 ++ e11 ++ e12 ++ e13 ++ e33)) 9216 (d8 ++ d15 ++ d18 ++ d22 ++ d26 ++ d27) noCuts)
theorem ra_4_5 (t : Nat → TypeId) : rAll t (q_4_5 t) 4 5 = true := by kernel_rfl
theorem rl_4_5 (t : Nat → TypeId) : rLaw t (q_4_5 t) 4 5 = true := by kernel_rfl
theorem rk_4_5_0 (t : Nat → TypeId) : allL (rK t (q_4_5 t) 4 5) [(1, 1), (3, 1), (5, 1), (7, 1)] = true := by kernel_rfl
theorem rk_4_5_1 (t : Nat → TypeId) : allL (rK t (q_4_5 t) 4 5) [(2, 2), (4, 2), (6, 2), (1, 3)] = true := by kernel_rfl
theorem rk_4_5_2 (t : Nat → TypeId) : allL (rK t (q_4_5 t) 4 5) [(3, 3), (5, 3), (7, 3), (2, 4)] = true := by kernel_rfl
theorem rk_4_5_3 (t : Nat → TypeId) : allL (rK t (q_4_5 t) 4 5) [(4, 4), (6, 4), (1, 5), (3, 5)] = true := by kernel_rfl
theorem rk_4_5_4 (t : Nat → TypeId) : allL (rK t (q_4_5 t) 4 5) [(5, 5), (7, 5), (2, 6), (4, 6)] = true := by kernel_rfl
theorem rk_4_5_5 (t : Nat → TypeId) : allL (rK t (q_4_5 t) 4 5) [(6, 6), (1, 7), (3, 7), (5, 7)] = true := by kernel_rfl
theorem rk_4_5_6 (t : Nat → TypeId) : allL (rK t (q_4_5 t) 4 5) [(7, 7), (2, 8), (4, 8), (6, 8)] = true := by kernel_rfl
theorem rk_4_5_7 (t : Nat → TypeId) : allL (rK t (q_4_5 t) 4 5) [(1, 9), (3, 9), (5, 9), (7, 9)] = true := by kernel_rfl

end Go.Proofs.YtbghfcllicfnpaaGreatDoor
