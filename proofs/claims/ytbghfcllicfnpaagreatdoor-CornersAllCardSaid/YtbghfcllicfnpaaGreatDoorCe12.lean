/-
  Says: CornersAll at sheets: runs.
-/
import Derived.Test.YtbghfcllicfnpaaGreatDoorCg
import Derived.Test.YtbghfcllicfnpaaGreatDoorKr
import Derived.Test.YtbghfcllicfnpaaGreatDoorKa1
import Derived.Test.YtbghfcllicfnpaaGreatDoorKa10
import Derived.Test.YtbghfcllicfnpaaGreatDoorKa2
import Derived.Test.YtbghfcllicfnpaaGreatDoorKa3
import Derived.Test.YtbghfcllicfnpaaGreatDoorKa4
import Derived.Test.YtbghfcllicfnpaaGreatDoorKa5
import Derived.Test.YtbghfcllicfnpaaGreatDoorKa6
import Derived.Test.YtbghfcllicfnpaaGreatDoorKa7
import Derived.Test.YtbghfcllicfnpaaGreatDoorKa8
import Derived.KernelRfl
set_option maxRecDepth 1000000
set_option linter.unusedVariables false
set_option linter.unusedSimpArgs false
namespace Go.Proofs.YtbghfcllicfnpaaGreatDoor
open Go Go.Vx
attribute [local instance] anySyms
noncomputable def q_5_5 (t : Nat → TypeId) : Orc := (deepOrc Tryz.prog (tabG t) (orcL (e9 ++ e10 ++ e11 ++ e12 ++ e13 ++ e33)) 9216 (d8 ++ d16 ++ d20 ++ d23 ++ d28 ++ d29 ++ d31) noCuts)
theorem ra_5_5 (t : Nat → TypeId) : rAll t (q_5_5 t) 5 5 = true := by kernel_rfl
theorem rl_5_5 (t : Nat → TypeId) : rLaw t (q_5_5 t) 5 5 = true := by kernel_rfl
theorem rk_5_5_0 (t : Nat → TypeId) : allL (rK t (q_5_5 t) 5 5) [(1, 1), (3, 1), (5, 1)] = true := by kernel_rfl
theorem rk_5_5_1 (t : Nat → TypeId) : allL (rK t (q_5_5 t) 5 5) [(7, 1), (9, 1), (2, 2)] = true := by kernel_rfl
theorem rk_5_5_2 (t : Nat → TypeId) : allL (rK t (q_5_5 t) 5 5) [(4, 2), (6, 2), (8, 2)] = true := by kernel_rfl
theorem rk_5_5_3 (t : Nat → TypeId) : allL (rK t (q_5_5 t) 5 5) [(1, 3), (3, 3), (5, 3)] = true := by kernel_rfl
theorem rk_5_5_4 (t : Nat → TypeId) : allL (rK t (q_5_5 t) 5 5) [(7, 3), (9, 3), (2, 4)] = true := by kernel_rfl
theorem rk_5_5_5 (t : Nat → TypeId) : allL (rK t (q_5_5 t) 5 5) [(4, 4), (6, 4), (8, 4)] = true := by kernel_rfl
theorem rk_5_5_6 (t : Nat → TypeId) : allL (rK t (q_5_5 t) 5 5) [(1, 5), (3, 5), (5, 5)] = true := by kernel_rfl
theorem rk_5_5_7 (t : Nat → TypeId) : allL (rK t (q_5_5 t) 5 5) [(7, 5), (9, 5), (2, 6)] = true := by kernel_rfl
theorem rk_5_5_8 (t : Nat → TypeId) : allL (rK t (q_5_5 t) 5 5) [(4, 6), (6, 6), (8, 6)] = true := by kernel_rfl
theorem rk_5_5_9 (t : Nat → TypeId) : allL (rK t (q_5_5 t) 5 5) [(1, 7), (3, 7), (5, 7)] = true := by kernel_rfl
theorem rk_5_5_10 (t : Nat → TypeId) : allL (rK t (q_5_5 t) 5 5) [(7, 7), (9, 7), (2, 8)] = true := by kernel_rfl
theorem rk_5_5_11 (t : Nat → TypeId) : allL (rK t (q_5_5 t) 5 5) [(4, 8), (6, 8), (8, 8)] = true := by kernel_rfl
theorem rk_5_5_12 (t : Nat → TypeId) : allL (rK t (q_5_5 t) 5 5) [(1, 9), (3, 9), (5, 9)] = true := by kernel_rfl
theorem rk_5_5_13 (t : Nat → TypeId) : allL (rK t (q_5_5 t) 5 5) [(7, 9), (9, 9)] = true := by kernel_rfl

end Go.Proofs.YtbghfcllicfnpaaGreatDoor
