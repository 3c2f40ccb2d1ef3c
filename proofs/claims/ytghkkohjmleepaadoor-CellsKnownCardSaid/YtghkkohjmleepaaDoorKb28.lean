/-
  Says: calls of the laws, rounds 28 to 31.
-/
import Derived.Test.YtghkkohjmleepaaDoorKt
import Derived.KernelRfl
set_option maxRecDepth 1000000
set_option linter.unusedVariables false
set_option linter.unusedSimpArgs false
namespace Go.Proofs.YtghkkohjmleepaaDoor
open Go Go.Vx

noncomputable def tb28_13 : List (List Value × Value) := [([.agg ⟨[.int .i64 28, .int .i64 14, .int .u8 0]⟩, .int .u8 0], .bool true), ([.agg ⟨[.int .i64 29, .int .i64 28, .int .u8 1]⟩, .int .u8 1], .bool true), ([.agg ⟨[.int .i64 30, .int .i64 23, .int .u8 2]⟩, .int .u8 2], .bool true), ([.agg ⟨[.int .i64 31, .int .i64 22, .int .u8 3]⟩, .int .u8 3], .bool true)]
theorem tb28_13_run (t : Nat → TypeId) : tb28_13.all (entryOk Tryd.prog (fun f args => findF f args livesT) (tabG t) 13) = true := by kernel_rfl

noncomputable def tb28_15 : List (List Value × Value) := [([.agg ⟨[.int .i64 28, .int .i64 14, .int .u8 0]⟩, .int .u8 1, .agg ⟨[.int .i64 (-24), .int .i64 2, .int .u8 0]⟩], .bool true), ([.agg ⟨[.int .i64 29, .int .i64 28, .int .u8 1]⟩, .int .u8 2, .agg ⟨[.int .i64 (-48), .int .i64 5, .int .u8 0]⟩], .bool true), ([.agg ⟨[.int .i64 30, .int .i64 23, .int .u8 2]⟩, .int .u8 0, .agg ⟨[.int .i64 (-13), .int .i64 14, .int .u8 1]⟩], .bool true), ([.agg ⟨[.int .i64 31, .int .i64 22, .int .u8 3]⟩, .int .u8 1, .agg ⟨[.int .i64 (-32), .int .i64 36, .int .u8 0]⟩], .bool true)]
theorem tb28_15_run (t : Nat → TypeId) : tb28_15.all (entryOk Tryd.prog (fun f args => findF f args livesT) (tabG t) 15) = true := by kernel_rfl

noncomputable def tb28_16 : List (List Value × Value) := [([.agg ⟨[.int .u8 1, .int .i64 28]⟩, .agg ⟨[.int .i64 (-24), .int .i64 2, .int .u8 0]⟩], .bool true), ([.agg ⟨[.int .u8 1, .int .i64 29]⟩, .agg ⟨[.int .i64 (-48), .int .i64 5, .int .u8 0]⟩], .bool true), ([.agg ⟨[.int .u8 2, .int .i64 30]⟩, .agg ⟨[.int .i64 (-13), .int .i64 14, .int .u8 1]⟩], .bool true), ([.agg ⟨[.int .u8 1, .int .i64 31]⟩, .agg ⟨[.int .i64 (-32), .int .i64 36, .int .u8 0]⟩], .bool true)]
theorem tb28_16_run (t : Nat → TypeId) : tb28_16.all (entryOk Tryd.prog (fun f args => findF f args livesT) (tabG t) 16) = true := by kernel_rfl

noncomputable def tb28_17 : List (List Value × Value) := [([.agg ⟨[.int .u8 4, .int .i64 24, .int .i64 28]⟩, .agg ⟨[.int .i64 28, .int .i64 14, .int .u8 0]⟩, .int .u8 224], .bool true), ([.agg ⟨[.int .u8 5, .int .i64 18, .int .i64 30]⟩, .agg ⟨[.int .i64 29, .int .i64 28, .int .u8 1]⟩, .int .u8 144], .bool true), ([.agg ⟨[.int .u8 6, .int .i64 13, .int .i64 31]⟩, .agg ⟨[.int .i64 30, .int .i64 23, .int .u8 2]⟩, .int .u8 93], .bool true), ([.agg ⟨[.int .u8 7, .int .i64 2, .int .i64 32]⟩, .agg ⟨[.int .i64 31, .int .i64 22, .int .u8 3]⟩, .int .u8 148], .bool true)]
theorem tb28_17_run (t : Nat → TypeId) : tb28_17.all (entryOk Tryd.prog (fun f args => findF f args livesT) (tabG t) 17) = true := by kernel_rfl

noncomputable def tb28_18 : List (List Value × Value) := [([.agg ⟨[.int .i64 28, .int .i64 14, .int .u8 0]⟩, .agg ⟨[.int .i64 (-24), .int .i64 2, .int .u8 0]⟩], .bool true), ([.agg ⟨[.int .i64 29, .int .i64 28, .int .u8 1]⟩, .agg ⟨[.int .i64 (-48), .int .i64 5, .int .u8 0]⟩], .bool true), ([.agg ⟨[.int .i64 30, .int .i64 23, .int .u8 2]⟩, .agg ⟨[.int .i64 (-13), .int .i64 14, .int .u8 1]⟩], .bool true), ([.agg ⟨[.int .i64 31, .int .i64 22, .int .u8 3]⟩, .agg ⟨[.int .i64 (-32), .int .i64 36, .int .u8 0]⟩], .bool true)]
theorem tb28_18_run (t : Nat → TypeId) : tb28_18.all (entryOk Tryd.prog (fun f args => findF f args livesT) (tabG t) 18) = true := by kernel_rfl

noncomputable def tb28_19 : List (List Value × Value) := [([.agg ⟨[.int .i64 28, .int .i64 14, .int .u8 0]⟩, .agg ⟨[.int .i64 (-24), .int .i64 2, .int .u8 0]⟩, .agg ⟨[.int .i64 28, .int .i64 14, .int .u8 0]⟩], .bool true), ([.agg ⟨[.int .i64 29, .int .i64 28, .int .u8 1]⟩, .agg ⟨[.int .i64 (-48), .int .i64 5, .int .u8 0]⟩, .agg ⟨[.int .i64 29, .int .i64 28, .int .u8 1]⟩], .bool true), ([.agg ⟨[.int .i64 30, .int .i64 23, .int .u8 2]⟩, .agg ⟨[.int .i64 (-13), .int .i64 14, .int .u8 1]⟩, .agg ⟨[.int .i64 30, .int .i64 23, .int .u8 2]⟩], .bool true), ([.agg ⟨[.int .i64 31, .int .i64 22, .int .u8 3]⟩, .agg ⟨[.int .i64 (-32), .int .i64 36, .int .u8 0]⟩, .agg ⟨[.int .i64 31, .int .i64 22, .int .u8 3]⟩], .bool true)]
theorem tb28_19_run (t : Nat → TypeId) : tb28_19.all (entryOk Tryd.prog (fun f args => findF f args livesT) (tabG t) 19) = true := by kernel_rfl

end Go.Proofs.YtghkkohjmleepaaDoor
