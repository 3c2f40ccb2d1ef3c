/-
  Says: calls of the laws, rounds 32 to 35.
-/
import Derived.Test.YtghkkohjmleepaaDoorKt
import Derived.KernelRfl
set_option maxRecDepth 1000000
set_option linter.unusedVariables false
set_option linter.unusedSimpArgs false
namespace Go.Proofs.YtghkkohjmleepaaDoor
open Go Go.Vx

noncomputable def tb32_13 : List (List Value × Value) := [([.agg ⟨[.int .i64 32, .int .i64 24, .int .u8 0]⟩, .int .u8 0], .bool true), ([.agg ⟨[.int .i64 33, .int .i64 5, .int .u8 1]⟩, .int .u8 1], .bool true), ([.agg ⟨[.int .i64 34, .int .i64 17, .int .u8 2]⟩, .int .u8 2], .bool true), ([.agg ⟨[.int .i64 35, .int .i64 1, .int .u8 3]⟩, .int .u8 3], .bool true)]
theorem tb32_13_run (t : Nat → TypeId) : tb32_13.all (entryOk Tryd.prog (fun f args => findF f args livesT) (tabG t) 13) = true := by kernel_rfl

noncomputable def tb32_15 : List (List Value × Value) := [([.agg ⟨[.int .i64 32, .int .i64 24, .int .u8 0]⟩, .int .u8 2, .agg ⟨[.int .i64 (-44), .int .i64 31, .int .u8 0]⟩], .bool true), ([.agg ⟨[.int .i64 33, .int .i64 5, .int .u8 1]⟩, .int .u8 0, .agg ⟨[.int .i64 (-55), .int .i64 32, .int .u8 3]⟩], .bool true), ([.agg ⟨[.int .i64 34, .int .i64 17, .int .u8 2]⟩, .int .u8 1, .agg ⟨[.int .i64 (-17), .int .i64 8, .int .u8 1]⟩], .bool true), ([.agg ⟨[.int .i64 35, .int .i64 1, .int .u8 3]⟩, .int .u8 2, .agg ⟨[.int .i64 (-1), .int .i64 26, .int .u8 1]⟩], .bool true)]
theorem tb32_15_run (t : Nat → TypeId) : tb32_15.all (entryOk Tryd.prog (fun f args => findF f args livesT) (tabG t) 15) = true := by kernel_rfl

noncomputable def tb32_16 : List (List Value × Value) := [([.agg ⟨[.int .u8 1, .int .i64 32]⟩, .agg ⟨[.int .i64 (-44), .int .i64 31, .int .u8 0]⟩], .bool true), ([.agg ⟨[.int .u8 4, .int .i64 33]⟩, .agg ⟨[.int .i64 (-55), .int .i64 32, .int .u8 3]⟩], .bool true), ([.agg ⟨[.int .u8 2, .int .i64 34]⟩, .agg ⟨[.int .i64 (-17), .int .i64 8, .int .u8 1]⟩], .bool true), ([.agg ⟨[.int .u8 2, .int .i64 35]⟩, .agg ⟨[.int .i64 (-1), .int .i64 26, .int .u8 1]⟩], .bool true)]
theorem tb32_16_run (t : Nat → TypeId) : tb32_16.all (entryOk Tryd.prog (fun f args => findF f args livesT) (tabG t) 16) = true := by kernel_rfl

noncomputable def tb32_17 : List (List Value × Value) := [([.agg ⟨[.int .u8 0, .int .i64 14, .int .i64 32]⟩, .agg ⟨[.int .i64 32, .int .i64 24, .int .u8 0]⟩, .int .u8 44], .bool true), ([.agg ⟨[.int .u8 1, .int .i64 25, .int .i64 33]⟩, .agg ⟨[.int .i64 33, .int .i64 5, .int .u8 1]⟩, .int .u8 39], .bool true), ([.agg ⟨[.int .u8 2, .int .i64 17, .int .i64 35]⟩, .agg ⟨[.int .i64 34, .int .i64 17, .int .u8 2]⟩, .int .u8 77], .bool true), ([.agg ⟨[.int .u8 3, .int .i64 1, .int .i64 35]⟩, .agg ⟨[.int .i64 35, .int .i64 1, .int .u8 3]⟩, .int .u8 97], .bool true)]
theorem tb32_17_run (t : Nat → TypeId) : tb32_17.all (entryOk Tryd.prog (fun f args => findF f args livesT) (tabG t) 17) = true := by kernel_rfl

noncomputable def tb32_18 : List (List Value × Value) := [([.agg ⟨[.int .i64 32, .int .i64 24, .int .u8 0]⟩, .agg ⟨[.int .i64 (-44), .int .i64 31, .int .u8 0]⟩], .bool true), ([.agg ⟨[.int .i64 33, .int .i64 5, .int .u8 1]⟩, .agg ⟨[.int .i64 (-55), .int .i64 32, .int .u8 3]⟩], .bool true), ([.agg ⟨[.int .i64 34, .int .i64 17, .int .u8 2]⟩, .agg ⟨[.int .i64 (-17), .int .i64 8, .int .u8 1]⟩], .bool true), ([.agg ⟨[.int .i64 35, .int .i64 1, .int .u8 3]⟩, .agg ⟨[.int .i64 (-1), .int .i64 26, .int .u8 1]⟩], .bool true)]
theorem tb32_18_run (t : Nat → TypeId) : tb32_18.all (entryOk Tryd.prog (fun f args => findF f args livesT) (tabG t) 18) = true := by kernel_rfl

noncomputable def tb32_19 : List (List Value × Value) := [([.agg ⟨[.int .i64 32, .int .i64 24, .int .u8 0]⟩, .agg ⟨[.int .i64 (-44), .int .i64 31, .int .u8 0]⟩, .agg ⟨[.int .i64 32, .int .i64 24, .int .u8 0]⟩], .bool true), ([.agg ⟨[.int .i64 33, .int .i64 5, .int .u8 1]⟩, .agg ⟨[.int .i64 (-55), .int .i64 32, .int .u8 3]⟩, .agg ⟨[.int .i64 33, .int .i64 5, .int .u8 1]⟩], .bool true), ([.agg ⟨[.int .i64 34, .int .i64 17, .int .u8 2]⟩, .agg ⟨[.int .i64 (-17), .int .i64 8, .int .u8 1]⟩, .agg ⟨[.int .i64 34, .int .i64 17, .int .u8 2]⟩], .bool true), ([.agg ⟨[.int .i64 35, .int .i64 1, .int .u8 3]⟩, .agg ⟨[.int .i64 (-1), .int .i64 26, .int .u8 1]⟩, .agg ⟨[.int .i64 35, .int .i64 1, .int .u8 3]⟩], .bool true)]
theorem tb32_19_run (t : Nat → TypeId) : tb32_19.all (entryOk Tryd.prog (fun f args => findF f args livesT) (tabG t) 19) = true := by kernel_rfl

end Go.Proofs.YtghkkohjmleepaaDoor
