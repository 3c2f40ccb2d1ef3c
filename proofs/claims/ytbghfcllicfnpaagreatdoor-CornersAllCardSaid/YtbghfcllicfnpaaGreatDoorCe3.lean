/-
  Says: CornersAll at sheets: runs.
-/
import Derived.Test.YtbghfcllicfnpaaGreatDoorCg
import Derived.Test.YtbghfcllicfnpaaGreatDoorKr
import Derived.Test.YtbghfcllicfnpaaGreatDoorKa1
import Derived.Test.YtbghfcllicfnpaaGreatDoorKa10
import Derived.Test.YtbghfcllicfnpaaGreatDoorKa2
import Derived.Test.YtbghfcllicfnpaaGreatDoorKa3
import Derived.Test.YtbghfcllicfnpaaGreatDoorKa4
import Derived.Test.YtbghfcllicfnpaaGreatDoorKa5
import Derived.Test.YtbghfcllicfnpaaGreatDoorKa6
import Derived.Test.YtbghfcllicfnpaaGreatDoorKa7
import Derived.Test.YtbghfcllicfnpaaGreatDoorKa8
import Derived.KernelRfl
set_option maxRecDepth 1000000
set_option linter.unusedVariables false
set_option linter.unusedSimpArgs false
namespace Go.Proofs.YtbghfcllicfnpaaGreatDoor
open Go Go.Vx
attribute [local instance] anySyms
noncomputable def q_3_4 (t : Nat → TypeId) : Orc := (deepOrc Tryz.prog (tabG t) (orcL (e9 ++ e10 ++ e11 ++ e33)) 9216 (d8 ++ d15 ++ d17 ++ d21 ++ d24) noCuts)
theorem ra_3_4 (t : Nat → TypeId) : rAll t (q_3_4 t) 3 4 = true := by kernel_rfl
theorem rl_3_4 (t : Nat → TypeId) : rLaw t (q_3_4 t) 3 4 = true := by kernel_rfl
theorem rk_3_4_0 (t : Nat → TypeId) : allL (rK t (q_3_4 t) 3 4) [(1, 1), (3, 1), (5, 1), (2, 2), (4, 2), (1, 3)] = true := by kernel_rfl
theorem rk_3_4_1 (t : Nat → TypeId) : allL (rK t (q_3_4 t) 3 4) [(3, 3), (5, 3), (2, 4), (4, 4), (1, 5), (3, 5)] = true := by kernel_rfl
theorem rk_3_4_2 (t : Nat → TypeId) : allL (rK t (q_3_4 t) 3 4) [(5, 5), (2, 6), (4, 6), (1, 7), (3, 7), (5, 7)] = true := by kernel_rfl

end Go.Proofs.YtbghfcllicfnpaaGreatDoor
