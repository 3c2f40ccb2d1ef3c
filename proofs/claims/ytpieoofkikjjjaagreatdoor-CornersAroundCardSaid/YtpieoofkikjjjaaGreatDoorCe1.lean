/-
  Says: CornersAround at sheets: runs.
-/
import Derived.Test.YtpieoofkikjjjaaGreatDoorCg
import Derived.Test.YtpieoofkikjjjaaGreatDoorKr
import Derived.Test.YtpieoofkikjjjaaGreatDoorKa0
import Derived.Test.YtpieoofkikjjjaaGreatDoorKa1
import Derived.Test.YtpieoofkikjjjaaGreatDoorKa13
import Derived.Test.YtpieoofkikjjjaaGreatDoorKa14
import Derived.Test.YtpieoofkikjjjaaGreatDoorKa15
import Derived.Test.YtpieoofkikjjjaaGreatDoorKa16
import Derived.Test.YtpieoofkikjjjaaGreatDoorKa18
import Derived.Test.YtpieoofkikjjjaaGreatDoorKa19
import Derived.Test.YtpieoofkikjjjaaGreatDoorKa2
import Derived.Test.YtpieoofkikjjjaaGreatDoorKa20
import Derived.Test.YtpieoofkikjjjaaGreatDoorKa3
import Derived.Test.YtpieoofkikjjjaaGreatDoorKa30
import Derived.Test.YtpieoofkikjjjaaGreatDoorKa31
import Derived.Test.YtpieoofkikjjjaaGreatDoorKa33
import Derived.Test.YtpieoofkikjjjaaGreatDoorKa4
import Derived.Test.YtpieoofkikjjjaaGreatDoorKa5
import Derived.Test.YtpieoofkikjjjaaGreatDoorKa6
import Derived.Test.YtpieoofkikjjjaaGreatDoorKa7
import Derived.Test.YtpieoofkikjjjaaGreatDoorKa8
import Derived.KernelRfl
set_option maxRecDepth 1000000
set_option linter.unusedVariables false
set_option linter.unusedSimpArgs false
namespace Go.Proofs.YtpieoofkikjjjaaGreatDoor
open Go Go.Vx
attribute [local instance] anySyms
noncomputable def q_4_1 (t : Nat → TypeId) : Orc := (deepOrc Tryz.prog (tabG t) (gO (e10 ++ e11 ++ e327 ++ e328 ++ e334)) 5767168 (d9 ++ d17 ++ d18 ++ d28 ++ d29 ++ d30 ++ d330) noCuts)
theorem rk_4_1_0 (t : Nat → TypeId) : allL (rK t (q_4_1 t) 4 1 4) [0, 1, 2, 3] = true := by kernel_rfl
noncomputable def q_4_2 (t : Nat → TypeId) : Orc := (deepOrc Tryz.prog (tabG t) (gO (e10 ++ e11 ++ e327 ++ e328 ++ e334)) 5767168 (d9 ++ d13 ++ d14 ++ d15 ++ d16 ++ d17 ++ d18 ++ d54 ++ d55 ++ d56 ++ d65 ++ d66 ++ d67 ++ d68 ++ d69 ++ d70 ++ d71 ++ d72 ++ d330) noCuts)
theorem rk_4_2_0 (t : Nat → TypeId) : allL (rK t (q_4_2 t) 4 2 11) [0, 1, 2, 3, 4, 5, 6, 7, 8, 9, 10] = true := by kernel_rfl
noncomputable def q_4_3 (t : Nat → TypeId) : Orc := (deepOrc Tryz.prog (tabG t) (gO (e10 ++ e11 ++ e327 ++ e328 ++ e334)) 5767168 (d9 ++ d13 ++ d14 ++ d15 ++ d16 ++ d17 ++ d18 ++ d19 ++ d20 ++ d120 ++ d121 ++ d122 ++ d123 ++ d124 ++ d125 ++ d138 ++ d139 ++ d140 ++ d141 ++ d142 ++ d143 ++ d144 ++ d145 ++ d146 ++ d147 ++ d148 ++ d149 ++ d330) noCuts)
theorem rk_4_3_0 (t : Nat → TypeId) : allL (rK t (q_4_3 t) 4 3 18) [0, 1, 2, 3, 4, 5, 6, 7, 8, 9, 10, 11, 12, 13, 14, 15, 16, 17] = true := by kernel_rfl
noncomputable def q_4_4 (t : Nat → TypeId) : Orc := (deepOrc Tryz.prog (tabG t) (gO (e10 ++ e11 ++ e327 ++ e328 ++ e334)) 5767168 (d9 ++ d13 ++ d14 ++ d15 ++ d16 ++ d17 ++ d18 ++ d19 ++ d20 ++ d21 ++ d196 ++ d197 ++ d198 ++ d199 ++ d200 ++ d201 ++ d202 ++ d203 ++ d204 ++ d205 ++ d206 ++ d207 ++ d208 ++ d209 ++ d210 ++ d211 ++ d212 ++ d213 ++ d214 ++ d215 ++ d216 ++ d217 ++ d218 ++ d219 ++ d220 ++ d330) noCuts)
theorem rk_4_4_0 (t : Nat → TypeId) : allL (rK t (q_4_4 t) 4 4 25) [0, 1, 2, 3, 4, 5, 6, 7, 8, 9, 10, 11, 12, 13, 14, 15, 16, 17, 18, 19, 20, 21, 22, 23] = true := by kernel_rfl
theorem rk_4_4_1 (t : Nat → TypeId) : allL (rK t (q_4_4 t) 4 4 25) [24] = true := by kernel_rfl
noncomputable def q_4_5 (t : Nat → TypeId) : Orc := (deepOrc Tryz.prog (tabG t) (gO (e10 ++ e11 ++ e327 ++ e328 ++ e334)) 5767168 (d9 ++ d13 ++ d14 ++ d15 ++ d16 ++ d17 ++ d18 ++ d19 ++ d20 ++ d21 ++ d221 ++ d222 ++ d223 ++ d224 ++ d225 ++ d226 ++ d227 ++ d228 ++ d229 ++ d230 ++ d231 ++ d232 ++ d245 ++ d246 ++ d247 ++ d248 ++ d249 ++ d250 ++ d251 ++ d252 ++ d253 ++ d254 ++ d255 ++ d256 ++ d257 ++ d258 ++ d259 ++ d260 ++ d261 ++ d262 ++ d263 ++ d264 ++ d330 ++ d332) noCuts)
theorem rk_4_5_0 (t : Nat → TypeId) : allL (rK t (q_4_5 t) 4 5 32) [0, 1, 2, 3, 4, 5, 6, 7, 8, 9, 10, 11, 12, 13, 14, 15, 16, 17, 18, 19, 20, 21, 22, 23] = true := by kernel_rfl
theorem rk_4_5_1 (t : Nat → TypeId) : allL (rK t (q_4_5 t) 4 5 32) [24, 25, 26, 27, 28, 29, 30, 31] = true := by kernel_rfl
noncomputable def q_5_1 (t : Nat → TypeId) : Orc := (deepOrc Tryz.prog (tabG t) (gO (e10 ++ e11 ++ e327 ++ e328 ++ e334)) 5767168 (d9 ++ d17 ++ d18 ++ d19 ++ d33 ++ d34 ++ d35 ++ d330) noCuts)
theorem rk_5_1_0 (t : Nat → TypeId) : allL (rK t (q_5_1 t) 5 1 5) [0, 1, 2, 3, 4] = true := by kernel_rfl
noncomputable def q_5_2 (t : Nat → TypeId) : Orc := (deepOrc Tryz.prog (tabG t) (gO (e10 ++ e11 ++ e327 ++ e328 ++ e334)) 5767168 (d9 ++ d13 ++ d15 ++ d16 ++ d18 ++ d19 ++ d90 ++ d91 ++ d92 ++ d93 ++ d104 ++ d105 ++ d106 ++ d107 ++ d108 ++ d109 ++ d110 ++ d111 ++ d112 ++ d113 ++ d330) noCuts)
theorem rk_5_2_0 (t : Nat → TypeId) : allL (rK t (q_5_2 t) 5 2 14) [0, 1, 2, 3, 4, 5, 6, 7, 8, 9, 10, 11, 12, 13] = true := by kernel_rfl

end Go.Proofs.YtpieoofkikjjjaaGreatDoor
