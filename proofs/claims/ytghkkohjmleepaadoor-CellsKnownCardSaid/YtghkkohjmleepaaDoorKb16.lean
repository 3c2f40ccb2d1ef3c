/-
  Says: calls of the laws, rounds 16 to 19.
-/
import Derived.Test.YtghkkohjmleepaaDoorKt
import Derived.KernelRfl
set_option maxRecDepth 1000000
set_option linter.unusedVariables false
set_option linter.unusedSimpArgs false
namespace Go.Proofs.YtghkkohjmleepaaDoor
open Go Go.Vx

noncomputable def tb16_13 : List (List Value × Value) := [([.agg ⟨[.int .i64 16, .int .i64 23, .int .u8 0]⟩, .int .u8 0], .bool true), ([.agg ⟨[.int .i64 17, .int .i64 29, .int .u8 1]⟩, .int .u8 1], .bool true), ([.agg ⟨[.int .i64 18, .int .i64 8, .int .u8 2]⟩, .int .u8 2], .bool true), ([.agg ⟨[.int .i64 19, .int .i64 32, .int .u8 3]⟩, .int .u8 3], .bool true)]
theorem tb16_13_run (t : Nat → TypeId) : tb16_13.all (entryOk Tryd.prog (fun f args => findF f args livesT) (tabG t) 13) = true := by kernel_rfl

noncomputable def tb16_15 : List (List Value × Value) := [([.agg ⟨[.int .i64 16, .int .i64 23, .int .u8 0]⟩, .int .u8 1, .agg ⟨[.int .i64 (-43), .int .i64 11, .int .u8 3]⟩], .bool true), ([.agg ⟨[.int .i64 17, .int .i64 29, .int .u8 1]⟩, .int .u8 2, .agg ⟨[.int .i64 (-39), .int .i64 11, .int .u8 3]⟩], .bool true), ([.agg ⟨[.int .i64 18, .int .i64 8, .int .u8 2]⟩, .int .u8 0, .agg ⟨[.int .i64 (-18), .int .i64 15, .int .u8 2]⟩], .bool true), ([.agg ⟨[.int .i64 19, .int .i64 32, .int .u8 3]⟩, .int .u8 1, .agg ⟨[.int .i64 (-52), .int .i64 19, .int .u8 0]⟩], .bool true)]
theorem tb16_15_run (t : Nat → TypeId) : tb16_15.all (entryOk Tryd.prog (fun f args => findF f args livesT) (tabG t) 15) = true := by kernel_rfl

noncomputable def tb16_16 : List (List Value × Value) := [([.agg ⟨[.int .u8 4, .int .i64 16]⟩, .agg ⟨[.int .i64 (-43), .int .i64 11, .int .u8 3]⟩], .bool true), ([.agg ⟨[.int .u8 4, .int .i64 17]⟩, .agg ⟨[.int .i64 (-39), .int .i64 11, .int .u8 3]⟩], .bool true), ([.agg ⟨[.int .u8 3, .int .i64 18]⟩, .agg ⟨[.int .i64 (-18), .int .i64 15, .int .u8 2]⟩], .bool true), ([.agg ⟨[.int .u8 1, .int .i64 19]⟩, .agg ⟨[.int .i64 (-52), .int .i64 19, .int .u8 0]⟩], .bool true)]
theorem tb16_16_run (t : Nat → TypeId) : tb16_16.all (entryOk Tryd.prog (fun f args => findF f args livesT) (tabG t) 16) = true := by kernel_rfl

noncomputable def tb16_17 : List (List Value × Value) := [([.agg ⟨[.int .u8 0, .int .i64 13, .int .i64 17]⟩, .agg ⟨[.int .i64 16, .int .i64 23, .int .u8 0]⟩, .int .u8 71], .bool true), ([.agg ⟨[.int .u8 1, .int .i64 9, .int .i64 17]⟩, .agg ⟨[.int .i64 17, .int .i64 29, .int .u8 1]⟩, .int .u8 251], .bool true), ([.agg ⟨[.int .u8 2, .int .i64 18, .int .i64 18]⟩, .agg ⟨[.int .i64 18, .int .i64 8, .int .u8 2]⟩, .int .u8 114], .bool true), ([.agg ⟨[.int .u8 3, .int .i64 22, .int .i64 20]⟩, .agg ⟨[.int .i64 19, .int .i64 32, .int .u8 3]⟩, .int .u8 180], .bool true)]
theorem tb16_17_run (t : Nat → TypeId) : tb16_17.all (entryOk Tryd.prog (fun f args => findF f args livesT) (tabG t) 17) = true := by kernel_rfl

noncomputable def tb16_18 : List (List Value × Value) := [([.agg ⟨[.int .i64 16, .int .i64 23, .int .u8 0]⟩, .agg ⟨[.int .i64 (-43), .int .i64 11, .int .u8 3]⟩], .bool true), ([.agg ⟨[.int .i64 17, .int .i64 29, .int .u8 1]⟩, .agg ⟨[.int .i64 (-39), .int .i64 11, .int .u8 3]⟩], .bool true), ([.agg ⟨[.int .i64 18, .int .i64 8, .int .u8 2]⟩, .agg ⟨[.int .i64 (-18), .int .i64 15, .int .u8 2]⟩], .bool true), ([.agg ⟨[.int .i64 19, .int .i64 32, .int .u8 3]⟩, .agg ⟨[.int .i64 (-52), .int .i64 19, .int .u8 0]⟩], .bool true)]
theorem tb16_18_run (t : Nat → TypeId) : tb16_18.all (entryOk Tryd.prog (fun f args => findF f args livesT) (tabG t) 18) = true := by kernel_rfl

noncomputable def tb16_19 : List (List Value × Value) := [([.agg ⟨[.int .i64 16, .int .i64 23, .int .u8 0]⟩, .agg ⟨[.int .i64 (-43), .int .i64 11, .int .u8 3]⟩, .agg ⟨[.int .i64 16, .int .i64 23, .int .u8 0]⟩], .bool true), ([.agg ⟨[.int .i64 17, .int .i64 29, .int .u8 1]⟩, .agg ⟨[.int .i64 (-39), .int .i64 11, .int .u8 3]⟩, .agg ⟨[.int .i64 17, .int .i64 29, .int .u8 1]⟩], .bool true), ([.agg ⟨[.int .i64 18, .int .i64 8, .int .u8 2]⟩, .agg ⟨[.int .i64 (-18), .int .i64 15, .int .u8 2]⟩, .agg ⟨[.int .i64 18, .int .i64 8, .int .u8 2]⟩], .bool true), ([.agg ⟨[.int .i64 19, .int .i64 32, .int .u8 3]⟩, .agg ⟨[.int .i64 (-52), .int .i64 19, .int .u8 0]⟩, .agg ⟨[.int .i64 19, .int .i64 32, .int .u8 3]⟩], .bool true)]
theorem tb16_19_run (t : Nat → TypeId) : tb16_19.all (entryOk Tryd.prog (fun f args => findF f args livesT) (tabG t) 19) = true := by kernel_rfl

end Go.Proofs.YtghkkohjmleepaaDoor
