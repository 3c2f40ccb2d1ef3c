/-
  Says: CornersAll at sheets: runs.
-/
import Derived.Test.YtbghfcllicfnpaaGreatDoorCg
import Derived.Test.YtbghfcllicfnpaaGreatDoorKr
import Derived.Test.YtbghfcllicfnpaaGreatDoorKa1
import Derived.Test.YtbghfcllicfnpaaGreatDoorKa10
import Derived.Test.YtbghfcllicfnpaaGreatDoorKa2
import Derived.Test.YtbghfcllicfnpaaGreatDoorKa3
import Derived.Test.YtbghfcllicfnpaaGreatDoorKa4
import Derived.Test.YtbghfcllicfnpaaGreatDoorKa5
import Derived.Test.YtbghfcllicfnpaaGreatDoorKa6
import Derived.Test.YtbghfcllicfnpaaGreatDoorKa7
import Derived.Test.YtbghfcllicfnpaaGreatDoorKa8
import Derived.KernelRfl
set_option maxRecDepth 1000000
set_option linter.unusedVariables false
set_option linter.unusedSimpArgs false
namespace Go.Proofs.YtbghfcllicfnpaaGreatDoor
open Go Go.Vx
attribute [local instance] anySyms
noncomputable def q_1_1 (t : Nat → TypeId) : Orc := (deepOrc Tryz.prog (tabG t) (orcL (e9 ++ e33)) 9216 (d8 ++ d29) noCuts)
theorem ra_1_1 (t : Nat → TypeId) : rAll t (q_1_1 t) 1 1 = true := by kernel_rfl
theorem rl_1_1 (t : Nat → TypeId) : rLaw t (q_1_1 t) 1 1 = true := by kernel_rfl
theorem rk_1_1_0 (t : Nat → TypeId) : allL (rK t (q_1_1 t) 1 1) [(1, 1)] = true := by kernel_rfl
noncomputable def q_1_2 (t : Nat → TypeId) : Orc := (deepOrc Tryz.prog (tabG t) (orcL (e9 ++ e33)) 9216 (d8 ++ d29) noCuts)
theorem ra_1_2 (t : Nat → TypeId) : rAll t (q_1_2 t) 1 2 = true := by kernel_rfl
theorem rl_1_2 (t : Nat → TypeId) : rLaw t (q_1_2 t) 1 2 = true := by kernel_rfl
theorem rk_1_2_0 (t : Nat → TypeId) : allL (rK t (q_1_2 t) 1 2) [(1, 1), (1, 3)] = true := by kernel_rfl
noncomputable def q_1_3 (t : Nat → TypeId) : Orc := (deepOrc Tryz.prog (tabG t) (orcL (e9 ++ e33)) 9216 (d8 ++ d29) noCuts)
theorem ra_1_3 (t : Nat → TypeId) : rAll t (q_1_3 t) 1 3 = true := by kernel_rfl
theorem rl_1_3 (t : Nat → TypeId) : rLaw t (q_1_3 t) 1 3 = true := by kernel_rfl
theorem rk_1_3_0 (t : Nat → TypeId) : allL (rK t (q_1_3 t) 1 3) [(1, 1), (1, 3), (1, 5)] = true := by kernel_rfl
noncomputable def q_1_4 (t : Nat → TypeId) : Orc := (deepOrc Tryz.prog (tabG t) (orcL (e9 ++ e33)) 9216 (d8 ++ d29) noCuts)
theorem ra_1_4 (t : Nat → TypeId) : rAll t (q_1_4 t) 1 4 = true := by kernel_rfl
theorem rl_1_4 (t : Nat → TypeId) : rLaw t (q_1_4 t) 1 4 = true := by kernel_rfl
theorem rk_1_4_0 (t : Nat → TypeId) : allL (rK t (q_1_4 t) 1 4) [(1, 1), (1, 3), (1, 5), (1, 7)] = true := by kernel_rfl
noncomputable def q_1_5 (t : Nat → TypeId) : Orc := (deepOrc Tryz.prog (tabG t) (orcL (e9 ++ e33)) 9216 (d8 ++ d30) noCuts)
theorem ra_1_5 (t : Nat → TypeId) : rAll t (q_1_5 t) 1 5 = true := by kernel_rfl
theorem rl_1_5 (t : Nat → TypeId) : rLaw t (q_1_5 t) 1 5 = true := by kernel_rfl
theorem rk_1_5_0 (t : Nat → TypeId) : allL (rK t (q_1_5 t) 1 5) [(1, 1), (1, 3), (1, 5), (1, 7), (1, 9)] = true := by kernel_rfl
noncomputable def q_2_1 (t : Nat → TypeId) : Orc := (deepOrc Tryz.prog (tabG t) (orcL (e9 ++ e33)) 9216 (d8 ++ d30) noCuts)
theorem ra_2_1 (t : Nat → TypeId) : rAll t (q_2_1 t) 2 1 = true := by kernel_rfl
theorem rl_2_1 (t : Nat → TypeId) : rLaw t (q_2_1 t) 2 1 = true := by kernel_rfl
theorem rk_2_1_0 (t : Nat → TypeId) : allL (rK t (q_2_1 t) 2 1) [(1, 1), (3, 1)] = true := by kernel_rfl
noncomputable def q_2_2 (t : Nat → TypeId) : Orc := (deepOrc Tryz.prog (tabG t) (orcL (e9 ++ e33)) 9216 (d8 ++ d15 ++ d20 ++ d23) noCuts)
theorem ra_2_2 (t : Nat → TypeId) : rAll t (q_2_2 t) 2 2 = true := by kernel_rfl
theorem rl_2_2 (t : Nat → TypeId) : rLaw t (q_2_2 t) 2 2 = true := by kernel_rfl
theorem rk_2_2_0 (t : Nat → TypeId) : allL (rK t (q_2_2 t) 2 2) [(1, 1), (3, 1), (2, 2), (1, 3), (3, 3)] = true := by kernel_rfl
noncomputable def q_2_3 (t : Nat → TypeId) : Orc := (deepOrc Tryz.prog (tabG t) (orcL (e9 ++ e33)) 9216 (d8 ++ d16 ++ d20 ++ d23) noCuts)
theorem ra_2_3 (t : Nat → TypeId) : rAll t (q_2_3 t) 2 3 = true := by kernel_rfl
theorem rl_2_3 (t : Nat → TypeId) : rLaw t (q_2_3 t) 2 3 = true := by kernel_rfl
theorem rk_2_3_0 (t : Nat → TypeId) : allL (rK t (q_2_3 t) 2 3) [(1, 1), (3, 1), (2, 2), (1, 3), (3, 3), (2, 4), (1, 5), (3, 5)] = true := by kernel_rfl

end Go.Proofs.YtbghfcllicfnpaaGreatDoor
