/-
  Says: calls of the laws, rounds 20 to 23.
-/
import Derived.Test.YtghkkohjmleepaaDoorKt
import Derived.KernelRfl
set_option maxRecDepth 1000000
set_option linter.unusedVariables false
set_option linter.unusedSimpArgs false
namespace Go.Proofs.YtghkkohjmleepaaDoor
open Go Go.Vx

noncomputable def tb20_13 : List (List Value × Value) := [([.agg ⟨[.int .i64 20, .int .i64 49, .int .u8 0]⟩, .int .u8 0], .bool true), ([.agg ⟨[.int .i64 21, .int .i64 5, .int .u8 1]⟩, .int .u8 1], .bool true), ([.agg ⟨[.int .i64 22, .int .i64 6, .int .u8 2]⟩, .int .u8 2], .bool true), ([.agg ⟨[.int .i64 23, .int .i64 9, .int .u8 3]⟩, .int .u8 3], .bool true)]
theorem tb20_13_run (t : Nat → TypeId) : tb20_13.all (entryOk Tryd.prog (fun f args => findF f args livesT) (tabG t) 13) = true := by kernel_rfl

noncomputable def tb20_15 : List (List Value × Value) := [([.agg ⟨[.int .i64 20, .int .i64 49, .int .u8 0]⟩, .int .u8 2, .agg ⟨[.int .i64 (-29), .int .i64 16, .int .u8 1]⟩], .bool true), ([.agg ⟨[.int .i64 21, .int .i64 5, .int .u8 1]⟩, .int .u8 0, .agg ⟨[.int .i64 (-55), .int .i64 12, .int .u8 3]⟩], .bool true), ([.agg ⟨[.int .i64 22, .int .i64 6, .int .u8 2]⟩, .int .u8 1, .agg ⟨[.int .i64 (-26), .int .i64 16, .int .u8 2]⟩], .bool true), ([.agg ⟨[.int .i64 23, .int .i64 9, .int .u8 3]⟩, .int .u8 2, .agg ⟨[.int .i64 (-9), .int .i64 1, .int .u8 1]⟩], .bool true)]
theorem tb20_15_run (t : Nat → TypeId) : tb20_15.all (entryOk Tryd.prog (fun f args => findF f args livesT) (tabG t) 15) = true := by kernel_rfl

noncomputable def tb20_16 : List (List Value × Value) := [([.agg ⟨[.int .u8 2, .int .i64 20]⟩, .agg ⟨[.int .i64 (-29), .int .i64 16, .int .u8 1]⟩], .bool true), ([.agg ⟨[.int .u8 4, .int .i64 21]⟩, .agg ⟨[.int .i64 (-55), .int .i64 12, .int .u8 3]⟩], .bool true), ([.agg ⟨[.int .u8 3, .int .i64 22]⟩, .agg ⟨[.int .i64 (-26), .int .i64 16, .int .u8 2]⟩], .bool true), ([.agg ⟨[.int .u8 2, .int .i64 23]⟩, .agg ⟨[.int .i64 (-9), .int .i64 1, .int .u8 1]⟩], .bool true)]
theorem tb20_16_run (t : Nat → TypeId) : tb20_16.all (entryOk Tryd.prog (fun f args => findF f args livesT) (tabG t) 16) = true := by kernel_rfl

noncomputable def tb20_17 : List (List Value × Value) := [([.agg ⟨[.int .u8 4, .int .i64 29, .int .i64 21]⟩, .agg ⟨[.int .i64 20, .int .i64 49, .int .u8 0]⟩, .int .u8 229], .bool true), ([.agg ⟨[.int .u8 5, .int .i64 25, .int .i64 21]⟩, .agg ⟨[.int .i64 21, .int .i64 5, .int .u8 1]⟩, .int .u8 35], .bool true), ([.agg ⟨[.int .u8 6, .int .i64 26, .int .i64 22]⟩, .agg ⟨[.int .i64 22, .int .i64 6, .int .u8 2]⟩, .int .u8 194], .bool true), ([.agg ⟨[.int .u8 7, .int .i64 9, .int .i64 23]⟩, .agg ⟨[.int .i64 23, .int .i64 9, .int .u8 3]⟩, .int .u8 57], .bool true)]
theorem tb20_17_run (t : Nat → TypeId) : tb20_17.all (entryOk Tryd.prog (fun f args => findF f args livesT) (tabG t) 17) = true := by kernel_rfl

noncomputable def tb20_18 : List (List Value × Value) := [([.agg ⟨[.int .i64 20, .int .i64 49, .int .u8 0]⟩, .agg ⟨[.int .i64 (-29), .int .i64 16, .int .u8 1]⟩], .bool true), ([.agg ⟨[.int .i64 21, .int .i64 5, .int .u8 1]⟩, .agg ⟨[.int .i64 (-55), .int .i64 12, .int .u8 3]⟩], .bool true), ([.agg ⟨[.int .i64 22, .int .i64 6, .int .u8 2]⟩, .agg ⟨[.int .i64 (-26), .int .i64 16, .int .u8 2]⟩], .bool true), ([.agg ⟨[.int .i64 23, .int .i64 9, .int .u8 3]⟩, .agg ⟨[.int .i64 (-9), .int .i64 1, .int .u8 1]⟩], .bool true)]
theorem tb20_18_run (t : Nat → TypeId) : tb20_18.all (entryOk Tryd.prog (fun f args => findF f args livesT) (tabG t) 18) = true := by kernel_rfl

noncomputable def tb20_19 : List (List Value × Value) := [([.agg ⟨[.int .i64 20, .int .i64 49, .int .u8 0]⟩, .agg ⟨[.int .i64 (-29), .int .i64 16, .int .u8 1]⟩, .agg ⟨[.int .i64 20, .int .i64 49, .int .u8 0]⟩], .bool true), ([.agg ⟨[.int .i64 21, .int .i64 5, .int .u8 1]⟩, .agg ⟨[.int .i64 (-55), .int .i64 12, .int .u8 3]⟩, .agg ⟨[.int .i64 21, .int .i64 5, .int .u8 1]⟩], .bool true), ([.agg ⟨[.int .i64 22, .int .i64 6, .int .u8 2]⟩, .agg ⟨[.int .i64 (-26), .int .i64 16, .int .u8 2]⟩, .agg ⟨[.int .i64 22, .int .i64 6, .int .u8 2]⟩], .bool true), ([.agg ⟨[.int .i64 23, .int .i64 9, .int .u8 3]⟩, .agg ⟨[.int .i64 (-9), .int .i64 1, .int .u8 1]⟩, .agg ⟨[.int .i64 23, .int .i64 9, .int .u8 3]⟩], .bool true)]
theorem tb20_19_run (t : Nat → TypeId) : tb20_19.all (entryOk Tryd.prog (fun f args => findF f args livesT) (tabG t) 19) = true := by kernel_rfl

end Go.Proofs.YtghkkohjmleepaaDoor
