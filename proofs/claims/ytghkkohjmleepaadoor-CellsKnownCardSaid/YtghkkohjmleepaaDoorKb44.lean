/-
  Says: calls of the laws, rounds 44 to 47.
-/
import Derived.Test.YtghkkohjmleepaaDoorKt
import Derived.KernelRfl
set_option maxRecDepth 1000000
set_option linter.unusedVariables false
set_option linter.unusedSimpArgs false
namespace Go.Proofs.YtghkkohjmleepaaDoor
open Go Go.Vx

noncomputable def tb44_13 : List (List Value × Value) := [([.agg ⟨[.int .i64 44, .int .i64 47, .int .u8 0]⟩, .int .u8 0], .bool true), ([.agg ⟨[.int .i64 45, .int .i64 11, .int .u8 1]⟩, .int .u8 1], .bool true), ([.agg ⟨[.int .i64 46, .int .i64 27, .int .u8 2]⟩, .int .u8 2], .bool true), ([.agg ⟨[.int .i64 47, .int .i64 22, .int .u8 3]⟩, .int .u8 3], .bool true)]
theorem tb44_13_run (t : Nat → TypeId) : tb44_13.all (entryOk Tryd.prog (fun f args => findF f args livesT) (tabG t) 13) = true := by kernel_rfl

noncomputable def tb44_15 : List (List Value × Value) := [([.agg ⟨[.int .i64 44, .int .i64 47, .int .u8 0]⟩, .int .u8 2, .agg ⟨[.int .i64 (-37), .int .i64 24, .int .u8 1]⟩], .bool true), ([.agg ⟨[.int .i64 45, .int .i64 11, .int .u8 1]⟩, .int .u8 0, .agg ⟨[.int .i64 (-51), .int .i64 25, .int .u8 3]⟩], .bool true), ([.agg ⟨[.int .i64 46, .int .i64 27, .int .u8 2]⟩, .int .u8 1, .agg ⟨[.int .i64 (-17), .int .i64 8, .int .u8 1]⟩], .bool true), ([.agg ⟨[.int .i64 47, .int .i64 22, .int .u8 3]⟩, .int .u8 2, .agg ⟨[.int .i64 (-52), .int .i64 39, .int .u8 0]⟩], .bool true)]
theorem tb44_15_run (t : Nat → TypeId) : tb44_15.all (entryOk Tryd.prog (fun f args => findF f args livesT) (tabG t) 15) = true := by kernel_rfl

noncomputable def tb44_16 : List (List Value × Value) := [([.agg ⟨[.int .u8 2, .int .i64 44]⟩, .agg ⟨[.int .i64 (-37), .int .i64 24, .int .u8 1]⟩], .bool true), ([.agg ⟨[.int .u8 4, .int .i64 45]⟩, .agg ⟨[.int .i64 (-51), .int .i64 25, .int .u8 3]⟩], .bool true), ([.agg ⟨[.int .u8 2, .int .i64 46]⟩, .agg ⟨[.int .i64 (-17), .int .i64 8, .int .u8 1]⟩], .bool true), ([.agg ⟨[.int .u8 1, .int .i64 47]⟩, .agg ⟨[.int .i64 (-52), .int .i64 39, .int .u8 0]⟩], .bool true)]
theorem tb44_16_run (t : Nat → TypeId) : tb44_16.all (entryOk Tryd.prog (fun f args => findF f args livesT) (tabG t) 16) = true := by kernel_rfl

noncomputable def tb44_17 : List (List Value × Value) := [([.agg ⟨[.int .u8 4, .int .i64 7, .int .i64 45]⟩, .agg ⟨[.int .i64 44, .int .i64 47, .int .u8 0]⟩, .int .u8 97], .bool true), ([.agg ⟨[.int .u8 5, .int .i64 21, .int .i64 45]⟩, .agg ⟨[.int .i64 45, .int .i64 11, .int .u8 1]⟩, .int .u8 207], .bool true), ([.agg ⟨[.int .u8 6, .int .i64 17, .int .i64 47]⟩, .agg ⟨[.int .i64 46, .int .i64 27, .int .u8 2]⟩, .int .u8 61], .bool true), ([.agg ⟨[.int .u8 7, .int .i64 22, .int .i64 48]⟩, .agg ⟨[.int .i64 47, .int .i64 22, .int .u8 3]⟩, .int .u8 128], .bool true)]
theorem tb44_17_run (t : Nat → TypeId) : tb44_17.all (entryOk Tryd.prog (fun f args => findF f args livesT) (tabG t) 17) = true := by kernel_rfl

noncomputable def tb44_18 : List (List Value × Value) := [([.agg ⟨[.int .i64 44, .int .i64 47, .int .u8 0]⟩, .agg ⟨[.int .i64 (-37), .int .i64 24, .int .u8 1]⟩], .bool true), ([.agg ⟨[.int .i64 45, .int .i64 11, .int .u8 1]⟩, .agg ⟨[.int .i64 (-51), .int .i64 25, .int .u8 3]⟩], .bool true), ([.agg ⟨[.int .i64 46, .int .i64 27, .int .u8 2]⟩, .agg ⟨[.int .i64 (-17), .int .i64 8, .int .u8 1]⟩], .bool true), ([.agg ⟨[.int .i64 47, .int .i64 22, .int .u8 3]⟩, .agg ⟨[.int .i64 (-52), .int .i64 39, .int .u8 0]⟩], .bool true)]
theorem tb44_18_run (t : Nat → TypeId) : tb44_18.all (entryOk Tryd.prog (fun f args => findF f args livesT) (tabG t) 18) = true := by kernel_rfl

noncomputable def tb44_19 : List (List Value × Value) := [([.agg ⟨[.int .i64 44, .int .i64 47, .int .u8 0]⟩, .agg ⟨[.int .i64 (-37), .int .i64 24, .int .u8 1]⟩, .agg ⟨[.int .i64 44, .int .i64 47, .int .u8 0]⟩], .bool true), ([.agg ⟨[.int .i64 45, .int .i64 11, .int .u8 1]⟩, .agg ⟨[.int .i64 (-51), .int .i64 25, .int .u8 3]⟩, .agg ⟨[.int .i64 45, .int .i64 11, .int .u8 1]⟩], .bool true), ([.agg ⟨[.int .i64 46, .int .i64 27, .int .u8 2]⟩, .agg ⟨[.int .i64 (-17), .int .i64 8, .int .u8 1]⟩, .agg ⟨[.int .i64 46, .int .i64 27, .int .u8 2]⟩], .bool true), ([.agg ⟨[.int .i64 47, .int .i64 22, .int .u8 3]⟩, .agg ⟨[.int .i64 (-52), .int .i64 39, .int .u8 0]⟩, .agg ⟨[.int .i64 47, .int .i64 22, .int .u8 3]⟩], .bool true)]
theorem tb44_19_run (t : Nat → TypeId) : tb44_19.all (entryOk Tryd.prog (fun f args => findF f args livesT) (tabG t) 19) = true := by kernel_rfl

end Go.Proofs.YtghkkohjmleepaaDoor
