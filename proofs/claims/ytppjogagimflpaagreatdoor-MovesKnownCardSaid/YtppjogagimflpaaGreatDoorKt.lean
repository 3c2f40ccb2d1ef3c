/-
  Says: the package-level tables, as the executor sees them.
-/
import Derived.Test.YtppjogagimflpaaGreatDoorVx25
import Derived.Test.YtppjogagimflpaaGreatDoorProg
import Derived.KernelRfl
set_option maxRecDepth 1000000
set_option linter.unusedVariables false
set_option linter.unusedSimpArgs false
namespace Go.Proofs.YtppjogagimflpaaGreatDoor
open Go Go.Vx

/-- The tables; what their rows are typed as is left open. -/
noncomputable def tabG (t : Nat → TypeId) : VW := ⟨(T.set 21 (T.set 21 (T.set 21 (T.set 21 (T.set 21 (T.set 21 (T.set 21 (T.set 21 (T.set 21 .nil 0 (.cells [.int .i64 1, .int .i64 0, .int .i64 0, .int .i64 1, .int .i64 0, .int .i64 (-1), .int .i64 1, .int .i64 0, .int .i64 (-1), .int .i64 0, .int .i64 0, .int .i64 (-1), .int .i64 0, .int .i64 1, .int .i64 (-1), .int .i64 0, .int .i64 (-1), .int .i64 0, .int .i64 0, .int .i64 1, .int .i64 0, .int .i64 (-1), .int .i64 (-1), .int .i64 0, .int .i64 1, .int .i64 0, .int .i64 0, .int .i64 (-1), .int .i64 0, .int .i64 1, .int .i64 1, .int .i64 0] (t 0) true)) 1 (.dfr true)) 2 (.dfr true)) 3 (.dfr true)) 4 (.dfr true)) 5 (.dfr true)) 6 (.dfr true)) 7 (.dfr true)) 8 (.dfr true)), 9, 9⟩
theorem size_G : Tryz.prog.globals.size = 9 := by kernel_rfl
theorem size_V (t : Nat → TypeId) : (tabG t).size = Tryz.prog.globals.size := by rw [size_G]; rfl
theorem floor_V (t : Nat → TypeId) : (tabG t).floor = Tryz.prog.globals.size := by rw [size_G]; rfl
theorem base_G (t : Nat → TypeId) : tabG t = ⟨(tabG t).heap, Tryz.prog.globals.size, Tryz.prog.globals.size⟩ := by rw [size_G]; rfl

end Go.Proofs.YtppjogagimflpaaGreatDoor
