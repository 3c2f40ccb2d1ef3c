/-
  Says: calls of the laws, rounds 12 to 15.
-/
import Derived.Test.YtghkkohjmleepaaDoorKt
import Derived.KernelRfl
set_option maxRecDepth 1000000
set_option linter.unusedVariables false
set_option linter.unusedSimpArgs false
namespace Go.Proofs.YtghkkohjmleepaaDoor
open Go Go.Vx

noncomputable def tb12_13 : List (List Value × Value) := [([.agg ⟨[.int .i64 12, .int .i64 5, .int .u8 0]⟩, .int .u8 0], .bool true), ([.agg ⟨[.int .i64 13, .int .i64 44, .int .u8 1]⟩, .int .u8 1], .bool true), ([.agg ⟨[.int .i64 14, .int .i64 38, .int .u8 2]⟩, .int .u8 2], .bool true), ([.agg ⟨[.int .i64 15, .int .i64 47, .int .u8 3]⟩, .int .u8 3], .bool true)]
theorem tb12_13_run (t : Nat → TypeId) : tb12_13.all (entryOk Tryd.prog (fun f args => findF f args livesT) (tabG t) 13) = true := by kernel_rfl

noncomputable def tb12_15 : List (List Value × Value) := [([.agg ⟨[.int .i64 12, .int .i64 5, .int .u8 0]⟩, .int .u8 0, .agg ⟨[.int .i64 (-15), .int .i64 28, .int .u8 3]⟩], .bool true), ([.agg ⟨[.int .i64 13, .int .i64 44, .int .u8 1]⟩, .int .u8 1, .agg ⟨[.int .i64 (-54), .int .i64 26, .int .u8 2]⟩], .bool true), ([.agg ⟨[.int .i64 14, .int .i64 38, .int .u8 2]⟩, .int .u8 2, .agg ⟨[.int .i64 (-58), .int .i64 39, .int .u8 2]⟩], .bool true), ([.agg ⟨[.int .i64 15, .int .i64 47, .int .u8 3]⟩, .int .u8 0, .agg ⟨[.int .i64 (-17), .int .i64 21, .int .u8 1]⟩], .bool true)]
theorem tb12_15_run (t : Nat → TypeId) : tb12_15.all (entryOk Tryd.prog (fun f args => findF f args livesT) (tabG t) 15) = true := by kernel_rfl

noncomputable def tb12_16 : List (List Value × Value) := [([.agg ⟨[.int .u8 4, .int .i64 12]⟩, .agg ⟨[.int .i64 (-15), .int .i64 28, .int .u8 3]⟩], .bool true), ([.agg ⟨[.int .u8 3, .int .i64 13]⟩, .agg ⟨[.int .i64 (-54), .int .i64 26, .int .u8 2]⟩], .bool true), ([.agg ⟨[.int .u8 3, .int .i64 14]⟩, .agg ⟨[.int .i64 (-58), .int .i64 39, .int .u8 2]⟩], .bool true), ([.agg ⟨[.int .u8 2, .int .i64 15]⟩, .agg ⟨[.int .i64 (-17), .int .i64 21, .int .u8 1]⟩], .bool true)]
theorem tb12_16_run (t : Nat → TypeId) : tb12_16.all (entryOk Tryd.prog (fun f args => findF f args livesT) (tabG t) 16) = true := by kernel_rfl

noncomputable def tb12_17 : List (List Value × Value) := [([.agg ⟨[.int .u8 4, .int .i64 15, .int .i64 13]⟩, .agg ⟨[.int .i64 12, .int .i64 5, .int .u8 0]⟩, .int .u8 39], .bool true), ([.agg ⟨[.int .u8 5, .int .i64 24, .int .i64 14]⟩, .agg ⟨[.int .i64 13, .int .i64 44, .int .u8 1]⟩, .int .u8 210], .bool true), ([.agg ⟨[.int .u8 6, .int .i64 28, .int .i64 14]⟩, .agg ⟨[.int .i64 14, .int .i64 38, .int .u8 2]⟩, .int .u8 70], .bool true), ([.agg ⟨[.int .u8 7, .int .i64 17, .int .i64 15]⟩, .agg ⟨[.int .i64 15, .int .i64 47, .int .u8 3]⟩, .int .u8 205], .bool true)]
theorem tb12_17_run (t : Nat → TypeId) : tb12_17.all (entryOk Tryd.prog (fun f args => findF f args livesT) (tabG t) 17) = true := by kernel_rfl

noncomputable def tb12_18 : List (List Value × Value) := [([.agg ⟨[.int .i64 12, .int .i64 5, .int .u8 0]⟩, .agg ⟨[.int .i64 (-15), .int .i64 28, .int .u8 3]⟩], .bool true), ([.agg ⟨[.int .i64 13, .int .i64 44, .int .u8 1]⟩, .agg ⟨[.int .i64 (-54), .int .i64 26, .int .u8 2]⟩], .bool true), ([.agg ⟨[.int .i64 14, .int .i64 38, .int .u8 2]⟩, .agg ⟨[.int .i64 (-58), .int .i64 39, .int .u8 2]⟩], .bool true), ([.agg ⟨[.int .i64 15, .int .i64 47, .int .u8 3]⟩, .agg ⟨[.int .i64 (-17), .int .i64 21, .int .u8 1]⟩], .bool true)]
theorem tb12_18_run (t : Nat → TypeId) : tb12_18.all (entryOk Tryd.prog (fun f args => findF f args livesT) (tabG t) 18) = true := by kernel_rfl

noncomputable def tb12_19 : List (List Value × Value) := [([.agg ⟨[.int .i64 12, .int .i64 5, .int .u8 0]⟩, .agg ⟨[.int .i64 (-15), .int .i64 28, .int .u8 3]⟩, .agg ⟨[.int .i64 12, .int .i64 5, .int .u8 0]⟩], .bool true), ([.agg ⟨[.int .i64 13, .int .i64 44, .int .u8 1]⟩, .agg ⟨[.int .i64 (-54), .int .i64 26, .int .u8 2]⟩, .agg ⟨[.int .i64 13, .int .i64 44, .int .u8 1]⟩], .bool true), ([.agg ⟨[.int .i64 14, .int .i64 38, .int .u8 2]⟩, .agg ⟨[.int .i64 (-58), .int .i64 39, .int .u8 2]⟩, .agg ⟨[.int .i64 14, .int .i64 38, .int .u8 2]⟩], .bool true), ([.agg ⟨[.int .i64 15, .int .i64 47, .int .u8 3]⟩, .agg ⟨[.int .i64 (-17), .int .i64 21, .int .u8 1]⟩, .agg ⟨[.int .i64 15, .int .i64 47, .int .u8 3]⟩], .bool true)]
theorem tb12_19_run (t : Nat → TypeId) : tb12_19.all (entryOk Tryd.prog (fun f args => findF f args livesT) (tabG t) 19) = true := by kernel_rfl

end Go.Proofs.YtghkkohjmleepaaDoor
