/-
  Says: calls of the laws, rounds 0 to 3.
-/
import Derived.Test.YtghkkohjmleepaaDoorKt
import Derived.KernelRfl
set_option maxRecDepth 1000000
set_option linter.unusedVariables false
set_option linter.unusedSimpArgs false
namespace Go.Proofs.YtghkkohjmleepaaDoor
open Go Go.Vx

noncomputable def tb0_13 : List (List Value × Value) := [([.agg ⟨[.int .i64 0, .int .i64 1, .int .u8 0]⟩, .int .u8 0], .bool true), ([.agg ⟨[.int .i64 1, .int .i64 42, .int .u8 1]⟩, .int .u8 1], .bool true), ([.agg ⟨[.int .i64 2, .int .i64 20, .int .u8 2]⟩, .int .u8 2], .bool true), ([.agg ⟨[.int .i64 3, .int .i64 45, .int .u8 3]⟩, .int .u8 3], .bool true)]
theorem tb0_13_run (t : Nat → TypeId) : tb0_13.all (entryOk Tryd.prog (fun f args => findF f args livesT) (tabG t) 13) = true := by kernel_rfl

noncomputable def tb0_15 : List (List Value × Value) := [([.agg ⟨[.int .i64 0, .int .i64 1, .int .u8 0]⟩, .int .u8 0, .agg ⟨[.int .i64 (-1), .int .i64 0, .int .u8 1]⟩], .bool true), ([.agg ⟨[.int .i64 1, .int .i64 42, .int .u8 1]⟩, .int .u8 1, .agg ⟨[.int .i64 (-42), .int .i64 4, .int .u8 2]⟩], .bool true), ([.agg ⟨[.int .i64 2, .int .i64 20, .int .u8 2]⟩, .int .u8 2, .agg ⟨[.int .i64 0, .int .i64 26, .int .u8 0]⟩], .bool true), ([.agg ⟨[.int .i64 3, .int .i64 45, .int .u8 3]⟩, .int .u8 0, .agg ⟨[.int .i64 (-25), .int .i64 29, .int .u8 1]⟩], .bool true)]
theorem tb0_15_run (t : Nat → TypeId) : tb0_15.all (entryOk Tryd.prog (fun f args => findF f args livesT) (tabG t) 15) = true := by kernel_rfl

noncomputable def tb0_16 : List (List Value × Value) := [([.agg ⟨[.int .u8 2, .int .i64 0]⟩, .agg ⟨[.int .i64 (-1), .int .i64 0, .int .u8 1]⟩], .bool true), ([.agg ⟨[.int .u8 3, .int .i64 1]⟩, .agg ⟨[.int .i64 (-42), .int .i64 4, .int .u8 2]⟩], .bool true), ([.agg ⟨[.int .u8 1, .int .i64 2]⟩, .agg ⟨[.int .i64 0, .int .i64 26, .int .u8 0]⟩], .bool true), ([.agg ⟨[.int .u8 2, .int .i64 3]⟩, .agg ⟨[.int .i64 (-25), .int .i64 29, .int .u8 1]⟩], .bool true)]
theorem tb0_16_run (t : Nat → TypeId) : tb0_16.all (entryOk Tryd.prog (fun f args => findF f args livesT) (tabG t) 16) = true := by kernel_rfl

noncomputable def tb0_17 : List (List Value × Value) := [([.agg ⟨[.int .u8 0, .int .i64 1, .int .i64 1]⟩, .agg ⟨[.int .i64 0, .int .i64 1, .int .u8 0]⟩, .int .u8 1], .bool true), ([.agg ⟨[.int .u8 1, .int .i64 12, .int .i64 2]⟩, .agg ⟨[.int .i64 1, .int .i64 42, .int .u8 1]⟩, .int .u8 42], .bool true), ([.agg ⟨[.int .u8 2, .int .i64 0, .int .i64 2]⟩, .agg ⟨[.int .i64 2, .int .i64 20, .int .u8 2]⟩, .int .u8 40], .bool true), ([.agg ⟨[.int .u8 3, .int .i64 25, .int .i64 3]⟩, .agg ⟨[.int .i64 3, .int .i64 45, .int .u8 3]⟩, .int .u8 241], .bool true)]
theorem tb0_17_run (t : Nat → TypeId) : tb0_17.all (entryOk Tryd.prog (fun f args => findF f args livesT) (tabG t) 17) = true := by kernel_rfl

noncomputable def tb0_18 : List (List Value × Value) := [([.agg ⟨[.int .i64 0, .int .i64 1, .int .u8 0]⟩, .agg ⟨[.int .i64 (-1), .int .i64 0, .int .u8 1]⟩], .bool true), ([.agg ⟨[.int .i64 1, .int .i64 42, .int .u8 1]⟩, .agg ⟨[.int .i64 (-42), .int .i64 4, .int .u8 2]⟩], .bool true), ([.agg ⟨[.int .i64 2, .int .i64 20, .int .u8 2]⟩, .agg ⟨[.int .i64 0, .int .i64 26, .int .u8 0]⟩], .bool true), ([.agg ⟨[.int .i64 3, .int .i64 45, .int .u8 3]⟩, .agg ⟨[.int .i64 (-25), .int .i64 29, .int .u8 1]⟩], .bool true)]
theorem tb0_18_run (t : Nat → TypeId) : tb0_18.all (entryOk Tryd.prog (fun f args => findF f args livesT) (tabG t) 18) = true := by kernel_rfl

noncomputable def tb0_19 : List (List Value × Value) := [([.agg ⟨[.int .i64 0, .int .i64 1, .int .u8 0]⟩, .agg ⟨[.int .i64 (-1), .int .i64 0, .int .u8 1]⟩, .agg ⟨[.int .i64 0, .int .i64 1, .int .u8 0]⟩], .bool true), ([.agg ⟨[.int .i64 1, .int .i64 42, .int .u8 1]⟩, .agg ⟨[.int .i64 (-42), .int .i64 4, .int .u8 2]⟩, .agg ⟨[.int .i64 1, .int .i64 42, .int .u8 1]⟩], .bool true), ([.agg ⟨[.int .i64 2, .int .i64 20, .int .u8 2]⟩, .agg ⟨[.int .i64 0, .int .i64 26, .int .u8 0]⟩, .agg ⟨[.int .i64 2, .int .i64 20, .int .u8 2]⟩], .bool true), ([.agg ⟨[.int .i64 3, .int .i64 45, .int .u8 3]⟩, .agg ⟨[.int .i64 (-25), .int .i64 29, .int .u8 1]⟩, .agg ⟨[.int .i64 3, .int .i64 45, .int .u8 3]⟩], .bool true)]
theorem tb0_19_run (t : Nat → TypeId) : tb0_19.all (entryOk Tryd.prog (fun f args => findF f args livesT) (tabG t) 19) = true := by kernel_rfl

end Go.Proofs.YtghkkohjmleepaaDoor
