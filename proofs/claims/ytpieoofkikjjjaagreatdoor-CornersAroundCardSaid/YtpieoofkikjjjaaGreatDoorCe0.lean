/-
  Says: CornersAround at sheets: runs.
-/
import Derived.Test.YtpieoofkikjjjaaGreatDoorCg
import Derived.Test.YtpieoofkikjjjaaGreatDoorKr
import Derived.Test.YtpieoofkikjjjaaGreatDoorKa0
import Derived.Test.YtpieoofkikjjjaaGreatDoorKa1
import Derived.Test.YtpieoofkikjjjaaGreatDoorKa10
import Derived.Test.YtpieoofkikjjjaaGreatDoorKa11
import Derived.Test.YtpieoofkikjjjaaGreatDoorKa2
import Derived.Test.YtpieoofkikjjjaaGreatDoorKa3
import Derived.Test.YtpieoofkikjjjaaGreatDoorKa30
import Derived.Test.YtpieoofkikjjjaaGreatDoorKa33
import Derived.Test.YtpieoofkikjjjaaGreatDoorKa4
import Derived.Test.YtpieoofkikjjjaaGreatDoorKa5
import Derived.Test.YtpieoofkikjjjaaGreatDoorKa6
import Derived.Test.YtpieoofkikjjjaaGreatDoorKa7
import Derived.Test.YtpieoofkikjjjaaGreatDoorKa8
import Derived.Test.YtpieoofkikjjjaaGreatDoorKa9
import Derived.KernelRfl
set_option maxRecDepth 1000000
set_option linter.unusedVariables false
set_option linter.unusedSimpArgs false
namespace Go.Proofs.YtpieoofkikjjjaaGreatDoor
open Go Go.Vx
attribute [local instance] anySyms
noncomputable def q_1_1 (t : Nat → TypeId) : Orc := (deepOrc Tryz.prog (tabG t) (gO (e10 ++ e11 ++ e327 ++ e334)) 5767168 (d9 ++ d330) noCuts)
theorem rk_1_1_0 (t : Nat → TypeId) : allL (rK t (q_1_1 t) 1 1 1) [0] = true := by kernel_rfl
noncomputable def q_1_2 (t : Nat → TypeId) : Orc := (deepOrc Tryz.prog (tabG t) (gO (e10 ++ e11 ++ e327 ++ e334)) 5767168 (d9 ++ d17 ++ d21 ++ d330) noCuts)
theorem rk_1_2_0 (t : Nat → TypeId) : allL (rK t (q_1_2 t) 1 2 2) [0, 1] = true := by kernel_rfl
noncomputable def q_1_3 (t : Nat → TypeId) : Orc := (deepOrc Tryz.prog (tabG t) (gO (e10 ++ e11 ++ e327 ++ e334)) 5767168 (d9 ++ d17 ++ d18 ++ d22 ++ d23 ++ d330) noCuts)
theorem rk_1_3_0 (t : Nat → TypeId) : allL (rK t (q_1_3 t) 1 3 3) [0, 1, 2] = true := by kernel_rfl
noncomputable def q_1_4 (t : Nat → TypeId) : Orc := (deepOrc Tryz.prog (tabG t) (gO (e10 ++ e11 ++ e327 ++ e334)) 5767168 (d9 ++ d17 ++ d18 ++ d24 ++ d25 ++ d26 ++ d330) noCuts)
theorem rk_1_4_0 (t : Nat → TypeId) : allL (rK t (q_1_4 t) 1 4 4) [0, 1, 2, 3] = true := by kernel_rfl
noncomputable def q_1_5 (t : Nat → TypeId) : Orc := (deepOrc Tryz.prog (tabG t) (gO (e10 ++ e11 ++ e327 ++ e334)) 5767168 (d9 ++ d17 ++ d18 ++ d19 ++ d30 ++ d31 ++ d32 ++ d330) noCuts)
theorem rk_1_5_0 (t : Nat → TypeId) : allL (rK t (q_1_5 t) 1 5 5) [0, 1, 2, 3, 4] = true := by kernel_rfl
noncomputable def q_2_1 (t : Nat → TypeId) : Orc := (deepOrc Tryz.prog (tabG t) (gO (e10 ++ e11 ++ e327 ++ e334)) 5767168 (d9 ++ d17 ++ d22 ++ d330) noCuts)
theorem rk_2_1_0 (t : Nat → TypeId) : allL (rK t (q_2_1 t) 2 1 2) [0, 1] = true := by kernel_rfl
noncomputable def q_2_2 (t : Nat → TypeId) : Orc := (deepOrc Tryz.prog (tabG t) (gO (e10 ++ e11 ++ e327 ++ e334)) 5767168 (d9 ++ d13 ++ d15 ++ d24 ++ d26 ++ d27 ++ d28 ++ d330) noCuts)
theorem rk_2_2_0 (t : Nat → TypeId) : allL (rK t (q_2_2 t) 2 2 5) [0, 1, 2, 3, 4] = true := by kernel_rfl
noncomputable def q_2_3 (t : Nat → TypeId) : Orc := (deepOrc Tryz.prog (tabG t) (gO (e10 ++ e11 ++ e327 ++ e334)) 5767168 (d9 ++ d13 ++ d14 ++ d15 ++ d16 ++ d17 ++ d35 ++ d36 ++ d39 ++ d40 ++ d41 ++ d42 ++ d43 ++ d44 ++ d330) noCuts)
theorem rk_2_3_0 (t : Nat → TypeId) : allL (rK t (q_2_3 t) 2 3 8) [0, 1, 2, 3, 4, 5, 6, 7] = true := by kernel_rfl
noncomputable def q_2_4 (t : Nat → TypeId) : Orc := (deepOrc Tryz.prog (tabG t) (gO (e10 ++ e11 ++ e327 ++ e334)) 5767168 (d9 ++ d13 ++ d14 ++ d16 ++ d17 ++ d19 ++ d51 ++ d52 ++ d53 ++ d57 ++ d58 ++ d59 ++ d60 ++ d61 ++ d62 ++ d63 ++ d64 ++ d330) noCuts)
theorem rk_2_4_0 (t : Nat → TypeId) : allL (rK t (q_2_4 t) 2 4 11) [0, 1, 2, 3, 4, 5, 6, 7, 8, 9, 10] = true := by kernel_rfl
noncomputable def q_2_5 (t : Nat → TypeId) : Orc := (deepOrc Tryz.prog (tabG t) (gO (e10 ++ e11 ++ e327 ++ e334)) 5767168 (d9 ++ d13 ++ d14 ++ d15 ++ d16 ++ d17 ++ d19 ++ d86 ++ d87 ++ d88 ++ d89 ++ d94 ++ d95 ++ d96 ++ d97 ++ d98 ++ d99 ++ d100 ++ d101 ++ d102 ++ d103 ++ d330) noCuts)
theorem rk_2_5_0 (t : Nat → TypeId) : allL (rK t (q_2_5 t) 2 5 14) [0, 1, 2, 3, 4, 5, 6, 7, 8, 9, 10, 11, 12, 13] = true := by kernel_rfl
noncomputable def q_3_1 (t : Nat → TypeId) : Orc := (deepOrc Tryz.prog (tabG t) (gO (e10 ++ e11 ++ e327 ++ e334)) 5767168 (d9 ++ d17 ++ d18 ++ d23 ++ d24 ++ d330) noCuts)
theorem rk_3_1_0 (t : Nat → TypeId) : allL (rK t (q_3_1 t) 3 1 3) [0, 1, 2] = true := by kernel_rfl
noncomputable def q_3_2 (t : Nat → TypeId) : Orc := (deepOrc Tryz.prog (tabG t) (gO (e10 ++ e11 ++ e327 ++ e334)) 5767168 (d9 ++ d13 ++ d14 ++ d15 ++ d16 ++ d17 ++ d37 ++ d38 ++ d45 ++ d46 ++ d47 ++ d48 ++ d49 ++ d50 ++ d330) noCuts)
theorem rk_3_2_0 (t : Nat → TypeId) : allL (rK t (q_3_2 t) 3 2 8) [0, 1, 2, 3, 4, 5, 6, 7] = true := by kernel_rfl
noncomputable def q_3_3 (t : Nat → TypeId) : Orc := (deepOrc Tryz.prog (tabG t) (gO (e10 ++ e11 ++ e327 ++ e328 ++ e334)) 5767168 (d9 ++ d13 ++ d14 ++ d15 ++ d16 ++ d17 ++ d19 ++ d73 ++ d74 ++ d75 ++ d76 ++ d77 ++ d78 ++ d79 ++ d80 ++ d81 ++ d82 ++ d83 ++ d84 ++ d85 ++ d330) noCuts)
theorem rk_3_3_0 (t : Nat → TypeId) : allL (rK t (q_3_3 t) 3 3 13) [0, 1, 2, 3, 4, 5, 6, 7, 8, 9, 10, 11, 12] = true := by kernel_rfl
noncomputable def q_3_4 (t : Nat → TypeId) : Orc := (deepOrc Tryz.prog (tabG t) (gO (e10 ++ e11 ++ e327 ++ e328 ++ e334)) 5767168 (d9 ++ d13 ++ d14 ++ d15 ++ d16 ++ d17 ++ d18 ++ d19 ++ d20 ++ d114 ++ d115 ++ d116 ++ d117 ++ d118 ++ d119 ++ d126 ++ d127 ++ d128 ++ d129 ++ d130 ++ d131 ++ d132 ++ d133 ++ d134 ++ d135 ++ d136 ++ d137 ++ d330) noCuts)
theorem rk_3_4_0 (t : Nat → TypeId) : allL (rK t (q_3_4 t) 3 4 18) [0, 1, 2, 3, 4, 5, 6, 7, 8, 9, 10, 11, 12, 13, 14, 15, 16, 17] = true := by kernel_rfl
noncomputable def q_3_5 (t : Nat → TypeId) : Orc := (deepOrc Tryz.prog (tabG t) (gO (e10 ++ e11 ++ e327 ++ e328 ++ e334)) 5767168 (d9 ++ d13 ++ d14 ++ d15 ++ d16 ++ d17 ++ d19 ++ d20 ++ d21 ++ d150 ++ d151 ++ d152 ++ d153 ++ d154 ++ d155 ++ d156 ++ d157 ++ d166 ++ d167 ++ d168 ++ d169 ++ d170 ++ d171 ++ d172 ++ d173 ++ d174 ++ d175 ++ d176 ++ d177 ++ d178 ++ d179 ++ d180 ++ d330) noCuts)
theorem rk_3_5_0 (t : Nat → TypeId) : allL (rK t (q_3_5 t) 3 5 23) [0, 1, 2, 3, 4, 5, 6, 7, 8, 9, 10, 11, 12, 13, 14, 15, 16, 17, 18, 19, 20, 21, 22] = true := by kernel_rfl

end Go.Proofs.YtpieoofkikjjjaaGreatDoor
