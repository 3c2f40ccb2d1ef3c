/-
  Says: calls of the laws, rounds 24 to 27.
-/
import Derived.Test.YtghkkohjmleepaaDoorKt
import Derived.KernelRfl
set_option maxRecDepth 1000000
set_option linter.unusedVariables false
set_option linter.unusedSimpArgs false
namespace Go.Proofs.YtghkkohjmleepaaDoor
open Go Go.Vx

noncomputable def tb24_13 : List (List Value × Value) := [([.agg ⟨[.int .i64 24, .int .i64 42, .int .u8 0]⟩, .int .u8 0], .bool true), ([.agg ⟨[.int .i64 25, .int .i64 1, .int .u8 1]⟩, .int .u8 1], .bool true), ([.agg ⟨[.int .i64 26, .int .i64 33, .int .u8 2]⟩, .int .u8 2], .bool true), ([.agg ⟨[.int .i64 27, .int .i64 0, .int .u8 3]⟩, .int .u8 3], .bool true)]
theorem tb24_13_run (t : Nat → TypeId) : tb24_13.all (entryOk Tryd.prog (fun f args => findF f args livesT) (tabG t) 13) = true := by kernel_rfl

noncomputable def tb24_15 : List (List Value × Value) := [([.agg ⟨[.int .i64 24, .int .i64 42, .int .u8 0]⟩, .int .u8 0, .agg ⟨[.int .i64 (-22), .int .i64 35, .int .u8 2]⟩], .bool true), ([.agg ⟨[.int .i64 25, .int .i64 1, .int .u8 1]⟩, .int .u8 1, .agg ⟨[.int .i64 (-11), .int .i64 14, .int .u8 3]⟩], .bool true), ([.agg ⟨[.int .i64 26, .int .i64 33, .int .u8 2]⟩, .int .u8 2, .agg ⟨[.int .i64 (-43), .int .i64 31, .int .u8 3]⟩], .bool true), ([.agg ⟨[.int .i64 27, .int .i64 0, .int .u8 3]⟩, .int .u8 0, .agg ⟨[.int .i64 (-40), .int .i64 24, .int .u8 0]⟩], .bool true)]
theorem tb24_15_run (t : Nat → TypeId) : tb24_15.all (entryOk Tryd.prog (fun f args => findF f args livesT) (tabG t) 15) = true := by kernel_rfl

noncomputable def tb24_16 : List (List Value × Value) := [([.agg ⟨[.int .u8 3, .int .i64 24]⟩, .agg ⟨[.int .i64 (-22), .int .i64 35, .int .u8 2]⟩], .bool true), ([.agg ⟨[.int .u8 4, .int .i64 25]⟩, .agg ⟨[.int .i64 (-11), .int .i64 14, .int .u8 3]⟩], .bool true), ([.agg ⟨[.int .u8 4, .int .i64 26]⟩, .agg ⟨[.int .i64 (-43), .int .i64 31, .int .u8 3]⟩], .bool true), ([.agg ⟨[.int .u8 1, .int .i64 27]⟩, .agg ⟨[.int .i64 (-40), .int .i64 24, .int .u8 0]⟩], .bool true)]
theorem tb24_16_run (t : Nat → TypeId) : tb24_16.all (entryOk Tryd.prog (fun f args => findF f args livesT) (tabG t) 16) = true := by kernel_rfl

noncomputable def tb24_17 : List (List Value × Value) := [([.agg ⟨[.int .u8 0, .int .i64 22, .int .i64 24]⟩, .agg ⟨[.int .i64 24, .int .i64 42, .int .u8 0]⟩, .int .u8 170], .bool true), ([.agg ⟨[.int .u8 1, .int .i64 11, .int .i64 25]⟩, .agg ⟨[.int .i64 25, .int .i64 1, .int .u8 1]⟩, .int .u8 235], .bool true), ([.agg ⟨[.int .u8 2, .int .i64 13, .int .i64 27]⟩, .agg ⟨[.int .i64 26, .int .i64 33, .int .u8 2]⟩, .int .u8 91], .bool true), ([.agg ⟨[.int .u8 3, .int .i64 10, .int .i64 28]⟩, .agg ⟨[.int .i64 27, .int .i64 0, .int .u8 3]⟩, .int .u8 196], .bool true)]
theorem tb24_17_run (t : Nat → TypeId) : tb24_17.all (entryOk Tryd.prog (fun f args => findF f args livesT) (tabG t) 17) = true := by kernel_rfl

noncomputable def tb24_18 : List (List Value × Value) := [([.agg ⟨[.int .i64 24, .int .i64 42, .int .u8 0]⟩, .agg ⟨[.int .i64 (-22), .int .i64 35, .int .u8 2]⟩], .bool true), ([.agg ⟨[.int .i64 25, .int .i64 1, .int .u8 1]⟩, .agg ⟨[.int .i64 (-11), .int .i64 14, .int .u8 3]⟩], .bool true), ([.agg ⟨[.int .i64 26, .int .i64 33, .int .u8 2]⟩, .agg ⟨[.int .i64 (-43), .int .i64 31, .int .u8 3]⟩], .bool true), ([.agg ⟨[.int .i64 27, .int .i64 0, .int .u8 3]⟩, .agg ⟨[.int .i64 (-40), .int .i64 24, .int .u8 0]⟩], .bool true)]
theorem tb24_18_run (t : Nat → TypeId) : tb24_18.all (entryOk Tryd.prog (fun f args => findF f args livesT) (tabG t) 18) = true := by kernel_rfl

noncomputable def tb24_19 : List (List Value × Value) := [([.agg ⟨[.int .i64 24, .int .i64 42, .int .u8 0]⟩, .agg ⟨[.int .i64 (-22), .int .i64 35, .int .u8 2]⟩, .agg ⟨[.int .i64 24, .int .i64 42, .int .u8 0]⟩], .bool true), ([.agg ⟨[.int .i64 25, .int .i64 1, .int .u8 1]⟩, .agg ⟨[.int .i64 (-11), .int .i64 14, .int .u8 3]⟩, .agg ⟨[.int .i64 25, .int .i64 1, .int .u8 1]⟩], .bool true), ([.agg ⟨[.int .i64 26, .int .i64 33, .int .u8 2]⟩, .agg ⟨[.int .i64 (-43), .int .i64 31, .int .u8 3]⟩, .agg ⟨[.int .i64 26, .int .i64 33, .int .u8 2]⟩], .bool true), ([.agg ⟨[.int .i64 27, .int .i64 0, .int .u8 3]⟩, .agg ⟨[.int .i64 (-40), .int .i64 24, .int .u8 0]⟩, .agg ⟨[.int .i64 27, .int .i64 0, .int .u8 3]⟩], .bool true)]
theorem tb24_19_run (t : Nat → TypeId) : tb24_19.all (entryOk Tryd.prog (fun f args => findF f args livesT) (tabG t) 19) = true := by kernel_rfl

end Go.Proofs.YtghkkohjmleepaaDoor
