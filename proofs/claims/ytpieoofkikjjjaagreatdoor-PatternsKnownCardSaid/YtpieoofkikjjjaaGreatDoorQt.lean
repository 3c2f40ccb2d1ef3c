/-
  Says: the package-level tables, as the executor sees them.
-/
import Derived.Test.YtpieoofkikjjjaaGreatDoorVx24
import Derived.Test.YtpieoofkikjjjaaGreatDoorProg
import Derived.KernelRfl
set_option maxRecDepth 1000000
set_option linter.unusedVariables false
set_option linter.unusedSimpArgs false
namespace Go.Proofs.YtpieoofkikjjjaaGreatDoor
open Go Go.Vx

/-- The tables; what their rows are typed as is left open. -/
noncomputable def tabG (t : Nat → TypeId) : VW := ⟨(T.set 21 (T.set 21 (T.set 21 (T.set 21 (T.set 21 (T.set 21 (T.set 21 (T.set 21 (T.set 21 (T.set 21 (T.set 21 .nil 0 (.dfr true)) 1 (.cells [.int .i64 0, .int .i64 (-1), .int .u8 2, .int .i64 0, .int .i64 0, .int .u8 1, .int .i64 0, .int .i64 0, .int .u8 3, .int .i64 1, .int .i64 0, .int .u8 3, .int .i64 0, .int .i64 0, .int .u8 0, .int .i64 0, .int .i64 0, .int .u8 2, .int .i64 0, .int .i64 1, .int .u8 0, .int .i64 0, .int .i64 0, .int .u8 3, .int .i64 0, .int .i64 0, .int .u8 1, .int .i64 (-1), .int .i64 0, .int .u8 1, .int .i64 0, .int .i64 0, .int .u8 2, .int .i64 0, .int .i64 0, .int .u8 0] (t 1) true)) 2 (.dfr true)) 3 (.dfr true)) 4 (.dfr true)) 5 (.dfr true)) 6 (.dfr true)) 7 (.dfr true)) 8 (.dfr true)) 9 (.dfr true)) 10 (.dfr true)), 11, 11⟩
theorem size_G : Tryz.prog.globals.size = 11 := by kernel_rfl
theorem size_V (t : Nat → TypeId) : (tabG t).size = Tryz.prog.globals.size := by rw [size_G]; rfl
theorem floor_V (t : Nat → TypeId) : (tabG t).floor = Tryz.prog.globals.size := by rw [size_G]; rfl
theorem base_G (t : Nat → TypeId) : tabG t = ⟨(tabG t).heap, Tryz.prog.globals.size, Tryz.prog.globals.size⟩ := by rw [size_G]; rfl

end Go.Proofs.YtpieoofkikjjjaaGreatDoor
