/-
  Says: calls of the laws, rounds 36 to 39.
-/
import Derived.Test.YtghkkohjmleepaaDoorKt
import Derived.KernelRfl
set_option maxRecDepth 1000000
set_option linter.unusedVariables false
set_option linter.unusedSimpArgs false
namespace Go.Proofs.YtghkkohjmleepaaDoor
open Go Go.Vx

noncomputable def tb36_13 : List (List Value × Value) := [([.agg ⟨[.int .i64 36, .int .i64 37, .int .u8 0]⟩, .int .u8 0], .bool true), ([.agg ⟨[.int .i64 37, .int .i64 41, .int .u8 1]⟩, .int .u8 1], .bool true), ([.agg ⟨[.int .i64 38, .int .i64 29, .int .u8 2]⟩, .int .u8 2], .bool true), ([.agg ⟨[.int .i64 39, .int .i64 4, .int .u8 3]⟩, .int .u8 3], .bool true)]
theorem tb36_13_run (t : Nat → TypeId) : tb36_13.all (entryOk Tryd.prog (fun f args => findF f args livesT) (tabG t) 13) = true := by kernel_rfl

noncomputable def tb36_15 : List (List Value × Value) := [([.agg ⟨[.int .i64 36, .int .i64 37, .int .u8 0]⟩, .int .u8 0, .agg ⟨[.int .i64 (-47), .int .i64 18, .int .u8 3]⟩], .bool true), ([.agg ⟨[.int .i64 37, .int .i64 41, .int .u8 1]⟩, .int .u8 1, .agg ⟨[.int .i64 (-11), .int .i64 1, .int .u8 3]⟩], .bool true), ([.agg ⟨[.int .i64 38, .int .i64 29, .int .u8 2]⟩, .int .u8 2, .agg ⟨[.int .i64 (-19), .int .i64 22, .int .u8 3]⟩], .bool true), ([.agg ⟨[.int .i64 39, .int .i64 4, .int .u8 3]⟩, .int .u8 0, .agg ⟨[.int .i64 (-14), .int .i64 1, .int .u8 2]⟩], .bool true)]
theorem tb36_15_run (t : Nat → TypeId) : tb36_15.all (entryOk Tryd.prog (fun f args => findF f args livesT) (tabG t) 15) = true := by kernel_rfl

noncomputable def tb36_16 : List (List Value × Value) := [([.agg ⟨[.int .u8 4, .int .i64 36]⟩, .agg ⟨[.int .i64 (-47), .int .i64 18, .int .u8 3]⟩], .bool true), ([.agg ⟨[.int .u8 4, .int .i64 37]⟩, .agg ⟨[.int .i64 (-11), .int .i64 1, .int .u8 3]⟩], .bool true), ([.agg ⟨[.int .u8 4, .int .i64 38]⟩, .agg ⟨[.int .i64 (-19), .int .i64 22, .int .u8 3]⟩], .bool true), ([.agg ⟨[.int .u8 3, .int .i64 39]⟩, .agg ⟨[.int .i64 (-14), .int .i64 1, .int .u8 2]⟩], .bool true)]
theorem tb36_16_run (t : Nat → TypeId) : tb36_16.all (entryOk Tryd.prog (fun f args => findF f args livesT) (tabG t) 16) = true := by kernel_rfl

noncomputable def tb36_17 : List (List Value × Value) := [([.agg ⟨[.int .u8 4, .int .i64 17, .int .i64 37]⟩, .agg ⟨[.int .i64 36, .int .i64 37, .int .u8 0]⟩, .int .u8 191], .bool true), ([.agg ⟨[.int .u8 5, .int .i64 11, .int .i64 37]⟩, .agg ⟨[.int .i64 37, .int .i64 41, .int .u8 1]⟩, .int .u8 131], .bool true), ([.agg ⟨[.int .u8 6, .int .i64 19, .int .i64 39]⟩, .agg ⟨[.int .i64 38, .int .i64 29, .int .u8 2]⟩, .int .u8 95], .bool true), ([.agg ⟨[.int .u8 7, .int .i64 14, .int .i64 40]⟩, .agg ⟨[.int .i64 39, .int .i64 4, .int .u8 3]⟩, .int .u8 78], .bool true)]
theorem tb36_17_run (t : Nat → TypeId) : tb36_17.all (entryOk Tryd.prog (fun f args => findF f args livesT) (tabG t) 17) = true := by kernel_rfl

noncomputable def tb36_18 : List (List Value × Value) := [([.agg ⟨[.int .i64 36, .int .i64 37, .int .u8 0]⟩, .agg ⟨[.int .i64 (-47), .int .i64 18, .int .u8 3]⟩], .bool true), ([.agg ⟨[.int .i64 37, .int .i64 41, .int .u8 1]⟩, .agg ⟨[.int .i64 (-11), .int .i64 1, .int .u8 3]⟩], .bool true), ([.agg ⟨[.int .i64 38, .int .i64 29, .int .u8 2]⟩, .agg ⟨[.int .i64 (-19), .int .i64 22, .int .u8 3]⟩], .bool true), ([.agg ⟨[.int .i64 39, .int .i64 4, .int .u8 3]⟩, .agg ⟨[.int .i64 (-14), .int .i64 1, .int .u8 2]⟩], .bool true)]
theorem tb36_18_run (t : Nat → TypeId) : tb36_18.all (entryOk Tryd.prog (fun f args => findF f args livesT) (tabG t) 18) = true := by kernel_rfl

noncomputable def tb36_19 : List (List Value × Value) := [([.agg ⟨[.int .i64 36, .int .i64 37, .int .u8 0]⟩, .agg ⟨[.int .i64 (-47), .int .i64 18, .int .u8 3]⟩, .agg ⟨[.int .i64 36, .int .i64 37, .int .u8 0]⟩], .bool true), ([.agg ⟨[.int .i64 37, .int .i64 41, .int .u8 1]⟩, .agg ⟨[.int .i64 (-11), .int .i64 1, .int .u8 3]⟩, .agg ⟨[.int .i64 37, .int .i64 41, .int .u8 1]⟩], .bool true), ([.agg ⟨[.int .i64 38, .int .i64 29, .int .u8 2]⟩, .agg ⟨[.int .i64 (-19), .int .i64 22, .int .u8 3]⟩, .agg ⟨[.int .i64 38, .int .i64 29, .int .u8 2]⟩], .bool true), ([.agg ⟨[.int .i64 39, .int .i64 4, .int .u8 3]⟩, .agg ⟨[.int .i64 (-14), .int .i64 1, .int .u8 2]⟩, .agg ⟨[.int .i64 39, .int .i64 4, .int .u8 3]⟩], .bool true)]
theorem tb36_19_run (t : Nat → TypeId) : tb36_19.all (entryOk Tryd.prog (fun f args => findF f args livesT) (tabG t) 19) = true := by kernel_rfl

end Go.Proofs.YtghkkohjmleepaaDoor
