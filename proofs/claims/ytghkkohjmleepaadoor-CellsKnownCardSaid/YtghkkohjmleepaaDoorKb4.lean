/-
  Says: calls of the laws, rounds 4 to 7.
-/
import Derived.Test.YtghkkohjmleepaaDoorKt
import Derived.KernelRfl
set_option maxRecDepth 1000000
set_option linter.unusedVariables false
set_option linter.unusedSimpArgs false
namespace Go.Proofs.YtghkkohjmleepaaDoor
open Go Go.Vx

noncomputable def tb4_13 : List (List Value × Value) := [([.agg ⟨[.int .i64 4, .int .i64 41, .int .u8 0]⟩, .int .u8 0], .bool true), ([.agg ⟨[.int .i64 5, .int .i64 47, .int .u8 1]⟩, .int .u8 1], .bool true), ([.agg ⟨[.int .i64 6, .int .i64 11, .int .u8 2]⟩, .int .u8 2], .bool true), ([.agg ⟨[.int .i64 7, .int .i64 13, .int .u8 3]⟩, .int .u8 3], .bool true)]
theorem tb4_13_run (t : Nat → TypeId) : tb4_13.all (entryOk Tryd.prog (fun f args => findF f args livesT) (tabG t) 13) = true := by kernel_rfl

noncomputable def tb4_15 : List (List Value × Value) := [([.agg ⟨[.int .i64 4, .int .i64 41, .int .u8 0]⟩, .int .u8 1, .agg ⟨[.int .i64 (-51), .int .i64 19, .int .u8 3]⟩], .bool true), ([.agg ⟨[.int .i64 5, .int .i64 47, .int .u8 1]⟩, .int .u8 2, .agg ⟨[.int .i64 (-57), .int .i64 13, .int .u8 1]⟩], .bool true), ([.agg ⟨[.int .i64 6, .int .i64 11, .int .u8 2]⟩, .int .u8 0, .agg ⟨[.int .i64 (-11), .int .i64 7, .int .u8 3]⟩], .bool true), ([.agg ⟨[.int .i64 7, .int .i64 13, .int .u8 3]⟩, .int .u8 1, .agg ⟨[.int .i64 (-13), .int .i64 1, .int .u8 1]⟩], .bool true)]
theorem tb4_15_run (t : Nat → TypeId) : tb4_15.all (entryOk Tryd.prog (fun f args => findF f args livesT) (tabG t) 15) = true := by kernel_rfl

noncomputable def tb4_16 : List (List Value × Value) := [([.agg ⟨[.int .u8 4, .int .i64 4]⟩, .agg ⟨[.int .i64 (-51), .int .i64 19, .int .u8 3]⟩], .bool true), ([.agg ⟨[.int .u8 2, .int .i64 5]⟩, .agg ⟨[.int .i64 (-57), .int .i64 13, .int .u8 1]⟩], .bool true), ([.agg ⟨[.int .u8 4, .int .i64 6]⟩, .agg ⟨[.int .i64 (-11), .int .i64 7, .int .u8 3]⟩], .bool true), ([.agg ⟨[.int .u8 2, .int .i64 7]⟩, .agg ⟨[.int .i64 (-13), .int .i64 1, .int .u8 1]⟩], .bool true)]
theorem tb4_16_run (t : Nat → TypeId) : tb4_16.all (entryOk Tryd.prog (fun f args => findF f args livesT) (tabG t) 16) = true := by kernel_rfl

noncomputable def tb4_17 : List (List Value × Value) := [([.agg ⟨[.int .u8 4, .int .i64 21, .int .i64 5]⟩, .agg ⟨[.int .i64 4, .int .i64 41, .int .u8 0]⟩, .int .u8 171], .bool true), ([.agg ⟨[.int .u8 5, .int .i64 27, .int .i64 5]⟩, .agg ⟨[.int .i64 5, .int .i64 47, .int .u8 1]⟩, .int .u8 125], .bool true), ([.agg ⟨[.int .u8 6, .int .i64 11, .int .i64 7]⟩, .agg ⟨[.int .i64 6, .int .i64 11, .int .u8 2]⟩, .int .u8 103], .bool true), ([.agg ⟨[.int .u8 7, .int .i64 13, .int .i64 7]⟩, .agg ⟨[.int .i64 7, .int .i64 13, .int .u8 3]⟩, .int .u8 125], .bool true)]
theorem tb4_17_run (t : Nat → TypeId) : tb4_17.all (entryOk Tryd.prog (fun f args => findF f args livesT) (tabG t) 17) = true := by kernel_rfl

noncomputable def tb4_18 : List (List Value × Value) := [([.agg ⟨[.int .i64 4, .int .i64 41, .int .u8 0]⟩, .agg ⟨[.int .i64 (-51), .int .i64 19, .int .u8 3]⟩], .bool true), ([.agg ⟨[.int .i64 5, .int .i64 47, .int .u8 1]⟩, .agg ⟨[.int .i64 (-57), .int .i64 13, .int .u8 1]⟩], .bool true), ([.agg ⟨[.int .i64 6, .int .i64 11, .int .u8 2]⟩, .agg ⟨[.int .i64 (-11), .int .i64 7, .int .u8 3]⟩], .bool true), ([.agg ⟨[.int .i64 7, .int .i64 13, .int .u8 3]⟩, .agg ⟨[.int .i64 (-13), .int .i64 1, .int .u8 1]⟩], .bool true)]
theorem tb4_18_run (t : Nat → TypeId) : tb4_18.all (entryOk Tryd.prog (fun f args => findF f args livesT) (tabG t) 18) = true := by kernel_rfl

noncomputable def tb4_19 : List (List Value × Value) := [([.agg ⟨[.int .i64 4, .int .i64 41, .int .u8 0]⟩, .agg ⟨[.int .i64 (-51), .int .i64 19, .int .u8 3]⟩, .agg ⟨[.int .i64 4, .int .i64 41, .int .u8 0]⟩], .bool true), ([.agg ⟨[.int .i64 5, .int .i64 47, .int .u8 1]⟩, .agg ⟨[.int .i64 (-57), .int .i64 13, .int .u8 1]⟩, .agg ⟨[.int .i64 5, .int .i64 47, .int .u8 1]⟩], .bool true), ([.agg ⟨[.int .i64 6, .int .i64 11, .int .u8 2]⟩, .agg ⟨[.int .i64 (-11), .int .i64 7, .int .u8 3]⟩, .agg ⟨[.int .i64 6, .int .i64 11, .int .u8 2]⟩], .bool true), ([.agg ⟨[.int .i64 7, .int .i64 13, .int .u8 3]⟩, .agg ⟨[.int .i64 (-13), .int .i64 1, .int .u8 1]⟩, .agg ⟨[.int .i64 7, .int .i64 13, .int .u8 3]⟩], .bool true)]
theorem tb4_19_run (t : Nat → TypeId) : tb4_19.all (entryOk Tryd.prog (fun f args => findF f args livesT) (tabG t) 19) = true := by kernel_rfl

end Go.Proofs.YtghkkohjmleepaaDoor
