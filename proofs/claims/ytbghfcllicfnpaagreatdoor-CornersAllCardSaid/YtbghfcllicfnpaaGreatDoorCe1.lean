/-
  Says: CornersAll at sheets: runs.
-/
import Derived.Test.YtbghfcllicfnpaaGreatDoorCg
import Derived.Test.YtbghfcllicfnpaaGreatDoorKr
import Derived.Test.YtbghfcllicfnpaaGreatDoorKa1
import Derived.Test.YtbghfcllicfnpaaGreatDoorKa10
import Derived.Test.YtbghfcllicfnpaaGreatDoorKa2
import Derived.Test.YtbghfcllicfnpaaGreatDoorKa3
import Derived.Test.YtbghfcllicfnpaaGreatDoorKa4
import Derived.Test.YtbghfcllicfnpaaGreatDoorKa5
import Derived.Test.YtbghfcllicfnpaaGreatDoorKa6
import Derived.Test.YtbghfcllicfnpaaGreatDoorKa7
import Derived.Test.YtbghfcllicfnpaaGreatDoorKa8
import Derived.KernelRfl
set_option maxRecDepth 1000000
set_option linter.unusedVariables false
set_option linter.unusedSimpArgs false
namespace Go.Proofs.YtbghfcllicfnpaaGreatDoor
open Go Go.Vx
attribute [local instance] anySyms
noncomputable def q_2_4 (t : Nat → TypeId) : Orc := (deepOrc Tryz.prog (tabG t) (orcL (e9 ++ e10 ++ e33)) 9216 (d8 ++ d16 ++ d20 ++ d23) noCuts)
theorem ra_2_4 (t : Nat → TypeId) : rAll t (q_2_4 t) 2 4 = true := by kernel_rfl
theorem rl_2_4 (t : Nat → TypeId) : rLaw t (q_2_4 t) 2 4 = true := by kernel_rfl
theorem rk_2_4_0 (t : Nat → TypeId) : allL (rK t (q_2_4 t) 2 4) [(1, 1), (3, 1), (2, 2), (1, 3), (3, 3), (2, 4), (1, 5), (3, 5), (2, 6)] = true := by kernel_rfl
theorem rk_2_4_1 (t : Nat → TypeId) : allL (rK t (q_2_4 t) 2 4) [(1, 7), (3, 7)] = true := by kernel_rfl
noncomputable def q_2_5 (t : Nat → TypeId) : Orc := (deepOrc Tryz.prog (tabG t) (orcL (e9 ++ e10 ++ e33)) 9216 (d8 ++ d16 ++ d21 ++ d23 ++ d24) noCuts)
theorem ra_2_5 (t : Nat → TypeId) : rAll t (q_2_5 t) 2 5 = true := by kernel_rfl
theorem rl_2_5 (t : Nat → TypeId) : rLaw t (q_2_5 t) 2 5 = true := by kernel_rfl
theorem rk_2_5_0 (t : Nat → TypeId) : allL (rK t (q_2_5 t) 2 5) [(1, 1), (3, 1), (2, 2), (1, 3), (3, 3), (2, 4), (1, 5)] = true := by kernel_rfl
theorem rk_2_5_1 (t : Nat → TypeId) : allL (rK t (q_2_5 t) 2 5) [(3, 5), (2, 6), (1, 7), (3, 7), (2, 8), (1, 9), (3, 9)] = true := by kernel_rfl
noncomputable def q_3_1 (t : Nat → TypeId) : Orc := (deepOrc Tryz.prog (tabG t) (orcL (e9 ++ e33)) 9216 (d8 ++ d30) noCuts)
theorem ra_3_1 (t : Nat → TypeId) : rAll t (q_3_1 t) 3 1 = true := by kernel_rfl
theorem rl_3_1 (t : Nat → TypeId) : rLaw t (q_3_1 t) 3 1 = true := by kernel_rfl
theorem rk_3_1_0 (t : Nat → TypeId) : allL (rK t (q_3_1 t) 3 1) [(1, 1), (3, 1), (5, 1)] = true := by kernel_rfl

end Go.Proofs.YtbghfcllicfnpaaGreatDoor
