/-
  Says: CornersAll at sheets: runs.
-/
import Derived.Test.YtbghfcllicfnpaaGreatDoorCg
import Derived.Test.YtbghfcllicfnpaaGreatDoorKr
import Derived.Test.YtbghfcllicfnpaaGreatDoorKa1
import Derived.Test.YtbghfcllicfnpaaGreatDoorKa10
import Derived.Test.YtbghfcllicfnpaaGreatDoorKa2
import Derived.Test.YtbghfcllicfnpaaGreatDoorKa3
import Derived.Test.YtbghfcllicfnpaaGreatDoorKa4
import Derived.Test.YtbghfcllicfnpaaGreatDoorKa5
import Derived.Test.YtbghfcllicfnpaaGreatDoorKa6
import Derived.Test.YtbghfcllicfnpaaGreatDoorKa7
import Derived.Test.YtbghfcllicfnpaaGreatDoorKa8
import Derived.KernelRfl
set_option maxRecDepth 1000000
set_option linter.unusedVariables false
set_option linter.unusedSimpArgs false
namespace Go.Proofs.YtbghfcllicfnpaaGreatDoor
open Go Go.Vx
attribute [local instance] anySyms
noncomputable def q_4_4 (t : Nat → TypeId) : Orc := (deepOrc Tryz.prog (tabG t) (orcL (e9 ++ e10 ++ e11 ++ e12 ++ e33)) 9216 (d8 ++ d15 ++ d18 ++ d22 ++ d25 ++ d26) noCuts)
theorem ra_4_4 (t : Nat → TypeId) : rAll t (q_4_4 t) 4 4 = true := by kernel_rfl
theorem rl_4_4 (t : Nat → TypeId) : rLaw t (q_4_4 t) 4 4 = true := by kernel_rfl
theorem rk_4_4_0 (t : Nat → TypeId) : allL (rK t (q_4_4 t) 4 4) [(1, 1), (3, 1), (5, 1), (7, 1), (2, 2)] = true := by kernel_rfl
theorem rk_4_4_1 (t : Nat → TypeId) : allL (rK t (q_4_4 t) 4 4) [(4, 2), (6, 2), (1, 3), (3, 3), (5, 3)] = true := by kernel_rfl
theorem rk_4_4_2 (t : Nat → TypeId) : allL (rK t (q_4_4 t) 4 4) [(7, 3), (2, 4), (4, 4), (6, 4), (1, 5)] = true := by kernel_rfl
theorem rk_4_4_3 (t : Nat → TypeId) : allL (rK t (q_4_4 t) 4 4) [(3, 5), (5, 5), (7, 5), (2, 6), (4, 6)] = true := by kernel_rfl
theorem rk_4_4_4 (t : Nat → TypeId) : allL (rK t (q_4_4 t) 4 4) [(6, 6), (1, 7), (3, 7), (5, 7), (7, 7)] = true := by kernel_rfl

end Go.Proofs.YtbghfcllicfnpaaGreatDoor
