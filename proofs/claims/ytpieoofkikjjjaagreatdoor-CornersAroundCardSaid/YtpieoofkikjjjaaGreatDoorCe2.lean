/-
  Says: CornersAround at sheets: runs.
-/
import Derived.Test.YtpieoofkikjjjaaGreatDoorCg
import Derived.Test.YtpieoofkikjjjaaGreatDoorKr
import Derived.Test.YtpieoofkikjjjaaGreatDoorKa0
import Derived.Test.YtpieoofkikjjjaaGreatDoorKa1
import Derived.Test.YtpieoofkikjjjaaGreatDoorKa10
import Derived.Test.YtpieoofkikjjjaaGreatDoorKa11
import Derived.Test.YtpieoofkikjjjaaGreatDoorKa12
import Derived.Test.YtpieoofkikjjjaaGreatDoorKa16
import Derived.Test.YtpieoofkikjjjaaGreatDoorKa17
import Derived.Test.YtpieoofkikjjjaaGreatDoorKa18
import Derived.Test.YtpieoofkikjjjaaGreatDoorKa20
import Derived.Test.YtpieoofkikjjjaaGreatDoorKa21
import Derived.Test.YtpieoofkikjjjaaGreatDoorKa22
import Derived.Test.YtpieoofkikjjjaaGreatDoorKa23
import Derived.Test.YtpieoofkikjjjaaGreatDoorKa24
import Derived.Test.YtpieoofkikjjjaaGreatDoorKa25
import Derived.Test.YtpieoofkikjjjaaGreatDoorKa26
import Derived.Test.YtpieoofkikjjjaaGreatDoorKa27
import Derived.Test.YtpieoofkikjjjaaGreatDoorKa28
import Derived.Test.YtpieoofkikjjjaaGreatDoorKa29
import Derived.Test.YtpieoofkikjjjaaGreatDoorKa30
import Derived.Test.YtpieoofkikjjjaaGreatDoorKa31
import Derived.Test.YtpieoofkikjjjaaGreatDoorKa33
import Derived.Test.YtpieoofkikjjjaaGreatDoorKa9
import Derived.KernelRfl
set_option maxRecDepth 1000000
set_option linter.unusedVariables false
set_option linter.unusedSimpArgs false
namespace Go.Proofs.YtpieoofkikjjjaaGreatDoor
open Go Go.Vx
attribute [local instance] anySyms
noncomputable def q_5_3 (t : Nat → TypeId) : Orc := (deepOrc Tryz.prog (tabG t) (gO (e10 ++ e11 ++ e327 ++ e328 ++ e334)) 5767168 (d9 ++ d13 ++ d14 ++ d15 ++ d16 ++ d17 ++ d18 ++ d19 ++ d20 ++ d158 ++ d159 ++ d160 ++ d161 ++ d162 ++ d163 ++ d164 ++ d165 ++ d181 ++ d182 ++ d183 ++ d184 ++ d185 ++ d186 ++ d187 ++ d188 ++ d189 ++ d190 ++ d191 ++ d192 ++ d193 ++ d194 ++ d195 ++ d330) noCuts)
theorem rk_5_3_0 (t : Nat → TypeId) : allL (rK t (q_5_3 t) 5 3 23) [0, 1, 2, 3, 4, 5, 6, 7, 8, 9, 10, 11, 12, 13, 14, 15, 16, 17, 18, 19, 20, 21, 22] = true := by kernel_rfl
noncomputable def q_5_4 (t : Nat → TypeId) : Orc := (deepOrc Tryz.prog (tabG t) (gO (e10 ++ e11 ++ e327 ++ e328 ++ e334)) 5767168 (d9 ++ d13 ++ d14 ++ d15 ++ d16 ++ d17 ++ d18 ++ d19 ++ d20 ++ d21 ++ d233 ++ d234 ++ d235 ++ d236 ++ d237 ++ d238 ++ d239 ++ d240 ++ d241 ++ d242 ++ d243 ++ d244 ++ d265 ++ d266 ++ d267 ++ d268 ++ d269 ++ d270 ++ d271 ++ d272 ++ d273 ++ d274 ++ d275 ++ d276 ++ d277 ++ d278 ++ d279 ++ d280 ++ d281 ++ d282 ++ d283 ++ d284 ++ d330 ++ d332) noCuts)
theorem rk_5_4_0 (t : Nat → TypeId) : allL (rK t (q_5_4 t) 5 4 32) [0, 1, 2, 3, 4, 5, 6, 7, 8, 9, 10, 11, 12, 13, 14, 15, 16, 17, 18, 19, 20, 21, 22, 23] = true := by kernel_rfl
theorem rk_5_4_1 (t : Nat → TypeId) : allL (rK t (q_5_4 t) 5 4 32) [24, 25, 26, 27, 28, 29, 30, 31] = true := by kernel_rfl
noncomputable def q_5_5 (t : Nat → TypeId) : Orc := (deepOrc Tryz.prog (tabG t) (gO (e10 ++ e11 ++ e327 ++ e328 ++ e329 ++ e334)) 5767168 (d9 ++ d13 ++ d14 ++ d15 ++ d16 ++ d17 ++ d18 ++ d19 ++ d20 ++ d21 ++ d285 ++ d286 ++ d287 ++ d288 ++ d289 ++ d290 ++ d291 ++ d292 ++ d293 ++ d294 ++ d295 ++ d296 ++ d297 ++ d298 ++ d299 ++ d300 ++ d301 ++ d302 ++ d303 ++ d304 ++ d305 ++ d306 ++ d307 ++ d308 ++ d309 ++ d310 ++ d311 ++ d312 ++ d313 ++ d314 ++ d315 ++ d316 ++ d317 ++ d318 ++ d319 ++ d320 ++ d321 ++ d322 ++ d323 ++ d324 ++ d325 ++ d330 ++ d332) noCuts)
theorem rk_5_5_0 (t : Nat → TypeId) : allL (rK t (q_5_5 t) 5 5 41) [0, 1, 2, 3, 4, 5, 6, 7, 8, 9, 10, 11, 12, 13, 14, 15, 16, 17, 18, 19, 20, 21, 22, 23] = true := by kernel_rfl
theorem rk_5_5_1 (t : Nat → TypeId) : allL (rK t (q_5_5 t) 5 5 41) [24, 25, 26, 27, 28, 29, 30, 31, 32, 33, 34, 35, 36, 37, 38, 39, 40] = true := by kernel_rfl

end Go.Proofs.YtpieoofkikjjjaaGreatDoor
