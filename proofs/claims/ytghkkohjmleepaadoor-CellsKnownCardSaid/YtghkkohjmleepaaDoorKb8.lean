/-
  Says: calls of the laws, rounds 8 to 11.
-/
import Derived.Test.YtghkkohjmleepaaDoorKt
import Derived.KernelRfl
set_option maxRecDepth 1000000
set_option linter.unusedVariables false
set_option linter.unusedSimpArgs false
namespace Go.Proofs.YtghkkohjmleepaaDoor
open Go Go.Vx

noncomputable def tb8_13 : List (List Value × Value) := [([.agg ⟨[.int .i64 8, .int .i64 42, .int .u8 0]⟩, .int .u8 0], .bool true), ([.agg ⟨[.int .i64 9, .int .i64 44, .int .u8 1]⟩, .int .u8 1], .bool true), ([.agg ⟨[.int .i64 10, .int .i64 11, .int .u8 2]⟩, .int .u8 2], .bool true), ([.agg ⟨[.int .i64 11, .int .i64 21, .int .u8 3]⟩, .int .u8 3], .bool true)]
theorem tb8_13_run (t : Nat → TypeId) : tb8_13.all (entryOk Tryd.prog (fun f args => findF f args livesT) (tabG t) 13) = true := by kernel_rfl

noncomputable def tb8_15 : List (List Value × Value) := [([.agg ⟨[.int .i64 8, .int .i64 42, .int .u8 0]⟩, .int .u8 2, .agg ⟨[.int .i64 (-42), .int .i64 31, .int .u8 2]⟩], .bool true), ([.agg ⟨[.int .i64 9, .int .i64 44, .int .u8 1]⟩, .int .u8 0, .agg ⟨[.int .i64 (-54), .int .i64 32, .int .u8 2]⟩], .bool true), ([.agg ⟨[.int .i64 10, .int .i64 11, .int .u8 2]⟩, .int .u8 1, .agg ⟨[.int .i64 (-41), .int .i64 17, .int .u8 1]⟩], .bool true), ([.agg ⟨[.int .i64 11, .int .i64 21, .int .u8 3]⟩, .int .u8 2, .agg ⟨[.int .i64 (-21), .int .i64 29, .int .u8 1]⟩], .bool true)]
theorem tb8_15_run (t : Nat → TypeId) : tb8_15.all (entryOk Tryd.prog (fun f args => findF f args livesT) (tabG t) 15) = true := by kernel_rfl

noncomputable def tb8_16 : List (List Value × Value) := [([.agg ⟨[.int .u8 3, .int .i64 8]⟩, .agg ⟨[.int .i64 (-42), .int .i64 31, .int .u8 2]⟩], .bool true), ([.agg ⟨[.int .u8 3, .int .i64 9]⟩, .agg ⟨[.int .i64 (-54), .int .i64 32, .int .u8 2]⟩], .bool true), ([.agg ⟨[.int .u8 2, .int .i64 10]⟩, .agg ⟨[.int .i64 (-41), .int .i64 17, .int .u8 1]⟩], .bool true), ([.agg ⟨[.int .u8 2, .int .i64 11]⟩, .agg ⟨[.int .i64 (-21), .int .i64 29, .int .u8 1]⟩], .bool true)]
theorem tb8_16_run (t : Nat → TypeId) : tb8_16.all (entryOk Tryd.prog (fun f args => findF f args livesT) (tabG t) 16) = true := by kernel_rfl

noncomputable def tb8_17 : List (List Value × Value) := [([.agg ⟨[.int .u8 0, .int .i64 12, .int .i64 8]⟩, .agg ⟨[.int .i64 8, .int .i64 42, .int .u8 0]⟩, .int .u8 234], .bool true), ([.agg ⟨[.int .u8 1, .int .i64 24, .int .i64 10]⟩, .agg ⟨[.int .i64 9, .int .i64 44, .int .u8 1]⟩, .int .u8 174], .bool true), ([.agg ⟨[.int .u8 2, .int .i64 11, .int .i64 11]⟩, .agg ⟨[.int .i64 10, .int .i64 11, .int .u8 2]⟩, .int .u8 161], .bool true), ([.agg ⟨[.int .u8 3, .int .i64 21, .int .i64 11]⟩, .agg ⟨[.int .i64 11, .int .i64 21, .int .u8 3]⟩, .int .u8 253], .bool true)]
theorem tb8_17_run (t : Nat → TypeId) : tb8_17.all (entryOk Tryd.prog (fun f args => findF f args livesT) (tabG t) 17) = true := by kernel_rfl

noncomputable def tb8_18 : List (List Value × Value) := [([.agg ⟨[.int .i64 8, .int .i64 42, .int .u8 0]⟩, .agg ⟨[.int .i64 (-42), .int .i64 31, .int .u8 2]⟩], .bool true), ([.agg ⟨[.int .i64 9, .int .i64 44, .int .u8 1]⟩, .agg ⟨[.int .i64 (-54), .int .i64 32, .int .u8 2]⟩], .bool true), ([.agg ⟨[.int .i64 10, .int .i64 11, .int .u8 2]⟩, .agg ⟨[.int .i64 (-41), .int .i64 17, .int .u8 1]⟩], .bool true), ([.agg ⟨[.int .i64 11, .int .i64 21, .int .u8 3]⟩, .agg ⟨[.int .i64 (-21), .int .i64 29, .int .u8 1]⟩], .bool true)]
theorem tb8_18_run (t : Nat → TypeId) : tb8_18.all (entryOk Tryd.prog (fun f args => findF f args livesT) (tabG t) 18) = true := by kernel_rfl

noncomputable def tb8_19 : List (List Value × Value) := [([.agg ⟨[.int .i64 8, .int .i64 42, .int .u8 0]⟩, .agg ⟨[.int .i64 (-42), .int .i64 31, .int .u8 2]⟩, .agg ⟨[.int .i64 8, .int .i64 42, .int .u8 0]⟩], .bool true), ([.agg ⟨[.int .i64 9, .int .i64 44, .int .u8 1]⟩, .agg ⟨[.int .i64 (-54), .int .i64 32, .int .u8 2]⟩, .agg ⟨[.int .i64 9, .int .i64 44, .int .u8 1]⟩], .bool true), ([.agg ⟨[.int .i64 10, .int .i64 11, .int .u8 2]⟩, .agg ⟨[.int .i64 (-41), .int .i64 17, .int .u8 1]⟩, .agg ⟨[.int .i64 10, .int .i64 11, .int .u8 2]⟩], .bool true), ([.agg ⟨[.int .i64 11, .int .i64 21, .int .u8 3]⟩, .agg ⟨[.int .i64 (-21), .int .i64 29, .int .u8 1]⟩, .agg ⟨[.int .i64 11, .int .i64 21, .int .u8 3]⟩], .bool true)]
theorem tb8_19_run (t : Nat → TypeId) : tb8_19.all (entryOk Tryd.prog (fun f args => findF f args livesT) (tabG t) 19) = true := by kernel_rfl

end Go.Proofs.YtghkkohjmleepaaDoor
