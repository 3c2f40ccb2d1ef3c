/-
  Says: CornersAll at sheets: runs.
-/
import Derived.Test.YtbghfcllicfnpaaGreatDoorCg
import Derived.Test.YtbghfcllicfnpaaGreatDoorKr
import Derived.Test.YtbghfcllicfnpaaGreatDoorKa1
import Derived.Test.YtbghfcllicfnpaaGreatDoorKa10
import Derived.Test.YtbghfcllicfnpaaGreatDoorKa2
import Derived.Test.YtbghfcllicfnpaaGreatDoorKa3
import Derived.Test.YtbghfcllicfnpaaGreatDoorKa4
import Derived.Test.YtbghfcllicfnpaaGreatDoorKa5
import Derived.Test.YtbghfcllicfnpaaGreatDoorKa6
import Derived.Test.YtbghfcllicfnpaaGreatDoorKa7
import Derived.Test.YtbghfcllicfnpaaGreatDoorKa8
import Derived.KernelRfl
set_option maxRecDepth 1000000
set_option linter.unusedVariables false
set_option linter.unusedSimpArgs false
namespace Go.Proofs.YtbghfcllicfnpaaGreatDoor
open Go Go.Vx
attribute [local instance] anySyms
noncomputable def q_4_1 (t : Nat → TypeId) : Orc := (deepOrc Tryz.prog (tabG t) (orcL (e9 ++ e33)) 9216 (d8 ++ d30) noCuts)
theorem ra_4_1 (t : Nat → TypeId) : rAll t (q_4_1 t) 4 1 = true := by kernel_rfl
theorem rl_4_1 (t : Nat → TypeId) : rLaw t (q_4_1 t) 4 1 = true := by kernel_rfl
theorem rk_4_1_0 (t : Nat → TypeId) : allL (rK t (q_4_1 t) 4 1) [(1, 1), (3, 1), (5, 1), (7, 1)] = true := by kernel_rfl
noncomputable def q_4_2 (t : Nat → TypeId) : Orc := (deepOrc Tryz.prog (tabG t) (orcL (e9 ++ e10 ++ e33)) 9216 (d8 ++ d17 ++ d22 ++ d25) noCuts)
theorem ra_4_2 (t : Nat → TypeId) : rAll t (q_4_2 t) 4 2 = true := by kernel_rfl
theorem rl_4_2 (t : Nat → TypeId) : rLaw t (q_4_2 t) 4 2 = true := by kernel_rfl
theorem rk_4_2_0 (t : Nat → TypeId) : allL (rK t (q_4_2 t) 4 2) [(1, 1), (3, 1), (5, 1), (7, 1), (2, 2), (4, 2), (6, 2), (1, 3), (3, 3)] = true := by kernel_rfl
theorem rk_4_2_1 (t : Nat → TypeId) : allL (rK t (q_4_2 t) 4 2) [(5, 3), (7, 3)] = true := by kernel_rfl

end Go.Proofs.YtbghfcllicfnpaaGreatDoor
