/-
  Says: calls of the laws, rounds 40 to 43.
-/
import Derived.Test.YtghkkohjmleepaaDoorKt
import Derived.KernelRfl
set_option maxRecDepth 1000000
set_option linter.unusedVariables false
set_option linter.unusedSimpArgs false
namespace Go.Proofs.YtghkkohjmleepaaDoor
open Go Go.Vx

noncomputable def tb40_13 : List (List Value × Value) := [([.agg ⟨[.int .i64 40, .int .i64 21, .int .u8 0]⟩, .int .u8 0], .bool true), ([.agg ⟨[.int .i64 41, .int .i64 0, .int .u8 1]⟩, .int .u8 1], .bool true), ([.agg ⟨[.int .i64 42, .int .i64 0, .int .u8 2]⟩, .int .u8 2], .bool true), ([.agg ⟨[.int .i64 43, .int .i64 10, .int .u8 3]⟩, .int .u8 3], .bool true)]
theorem tb40_13_run (t : Nat → TypeId) : tb40_13.all (entryOk Tryd.prog (fun f args => findF f args livesT) (tabG t) 13) = true := by kernel_rfl

noncomputable def tb40_15 : List (List Value × Value) := [([.agg ⟨[.int .i64 40, .int .i64 21, .int .u8 0]⟩, .int .u8 1, .agg ⟨[.int .i64 (-11), .int .i64 7, .int .u8 3]⟩], .bool true), ([.agg ⟨[.int .i64 41, .int .i64 0, .int .u8 1]⟩, .int .u8 2, .agg ⟨[.int .i64 (-30), .int .i64 36, .int .u8 2]⟩], .bool true), ([.agg ⟨[.int .i64 42, .int .i64 0, .int .u8 2]⟩, .int .u8 0, .agg ⟨[.int .i64 0, .int .i64 26, .int .u8 0]⟩], .bool true), ([.agg ⟨[.int .i64 43, .int .i64 10, .int .u8 3]⟩, .int .u8 1, .agg ⟨[.int .i64 (-20), .int .i64 28, .int .u8 0]⟩], .bool true)]
theorem tb40_15_run (t : Nat → TypeId) : tb40_15.all (entryOk Tryd.prog (fun f args => findF f args livesT) (tabG t) 15) = true := by kernel_rfl

noncomputable def tb40_16 : List (List Value × Value) := [([.agg ⟨[.int .u8 4, .int .i64 40]⟩, .agg ⟨[.int .i64 (-11), .int .i64 7, .int .u8 3]⟩], .bool true), ([.agg ⟨[.int .u8 3, .int .i64 41]⟩, .agg ⟨[.int .i64 (-30), .int .i64 36, .int .u8 2]⟩], .bool true), ([.agg ⟨[.int .u8 1, .int .i64 42]⟩, .agg ⟨[.int .i64 0, .int .i64 26, .int .u8 0]⟩], .bool true), ([.agg ⟨[.int .u8 1, .int .i64 43]⟩, .agg ⟨[.int .i64 (-20), .int .i64 28, .int .u8 0]⟩], .bool true)]
theorem tb40_16_run (t : Nat → TypeId) : tb40_16.all (entryOk Tryd.prog (fun f args => findF f args livesT) (tabG t) 16) = true := by kernel_rfl

noncomputable def tb40_17 : List (List Value × Value) := [([.agg ⟨[.int .u8 0, .int .i64 11, .int .i64 41]⟩, .agg ⟨[.int .i64 40, .int .i64 21, .int .u8 0]⟩, .int .u8 23], .bool true), ([.agg ⟨[.int .u8 1, .int .i64 0, .int .i64 42]⟩, .agg ⟨[.int .i64 41, .int .i64 0, .int .u8 1]⟩, .int .u8 2], .bool true), ([.agg ⟨[.int .u8 2, .int .i64 0, .int .i64 42]⟩, .agg ⟨[.int .i64 42, .int .i64 0, .int .u8 2]⟩, .int .u8 56], .bool true), ([.agg ⟨[.int .u8 3, .int .i64 20, .int .i64 44]⟩, .agg ⟨[.int .i64 43, .int .i64 10, .int .u8 3]⟩, .int .u8 108], .bool true)]
theorem tb40_17_run (t : Nat → TypeId) : tb40_17.all (entryOk Tryd.prog (fun f args => findF f args livesT) (tabG t) 17) = true := by kernel_rfl

noncomputable def tb40_18 : List (List Value × Value) := [([.agg ⟨[.int .i64 40, .int .i64 21, .int .u8 0]⟩, .agg ⟨[.int .i64 (-11), .int .i64 7, .int .u8 3]⟩], .bool true), ([.agg ⟨[.int .i64 41, .int .i64 0, .int .u8 1]⟩, .agg ⟨[.int .i64 (-30), .int .i64 36, .int .u8 2]⟩], .bool true), ([.agg ⟨[.int .i64 42, .int .i64 0, .int .u8 2]⟩, .agg ⟨[.int .i64 0, .int .i64 26, .int .u8 0]⟩], .bool true), ([.agg ⟨[.int .i64 43, .int .i64 10, .int .u8 3]⟩, .agg ⟨[.int .i64 (-20), .int .i64 28, .int .u8 0]⟩], .bool true)]
theorem tb40_18_run (t : Nat → TypeId) : tb40_18.all (entryOk Tryd.prog (fun f args => findF f args livesT) (tabG t) 18) = true := by kernel_rfl

noncomputable def tb40_19 : List (List Value × Value) := [([.agg ⟨[.int .i64 40, .int .i64 21, .int .u8 0]⟩, .agg ⟨[.int .i64 (-11), .int .i64 7, .int .u8 3]⟩, .agg ⟨[.int .i64 40, .int .i64 21, .int .u8 0]⟩], .bool true), ([.agg ⟨[.int .i64 41, .int .i64 0, .int .u8 1]⟩, .agg ⟨[.int .i64 (-30), .int .i64 36, .int .u8 2]⟩, .agg ⟨[.int .i64 41, .int .i64 0, .int .u8 1]⟩], .bool true), ([.agg ⟨[.int .i64 42, .int .i64 0, .int .u8 2]⟩, .agg ⟨[.int .i64 0, .int .i64 26, .int .u8 0]⟩, .agg ⟨[.int .i64 42, .int .i64 0, .int .u8 2]⟩], .bool true), ([.agg ⟨[.int .i64 43, .int .i64 10, .int .u8 3]⟩, .agg ⟨[.int .i64 (-20), .int .i64 28, .int .u8 0]⟩, .agg ⟨[.int .i64 43, .int .i64 10, .int .u8 3]⟩], .bool true)]
theorem tb40_19_run (t : Nat → TypeId) : tb40_19.all (entryOk Tryd.prog (fun f args => findF f args livesT) (tabG t) 19) = true := by kernel_rfl

end Go.Proofs.YtghkkohjmleepaaDoor
