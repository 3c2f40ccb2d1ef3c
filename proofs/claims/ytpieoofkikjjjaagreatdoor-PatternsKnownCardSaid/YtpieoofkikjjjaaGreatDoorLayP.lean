/-
  Says: what the package-level tables hold.
-/
import Derived.Test.YtpieoofkikjjjaaGreatDoorVx9
import Derived.Test.YtpieoofkikjjjaaGreatDoorProg
set_option linter.unusedVariables false
set_option linter.unusedSimpArgs false
namespace Go.Proofs.YtpieoofkikjjjaaGreatDoor
open Go Go.RowKit

set_option maxRecDepth 100000
/-- crimp/cells.neighbours -/
def tb1 : List Value := [.int .i64 0, .int .i64 (-1), .int .u8 2, .int .i64 0, .int .i64 0, .int .u8 1, .int .i64 0, .int .i64 0, .int .u8 3, .int .i64 1, .int .i64 0, .int .u8 3, .int .i64 0, .int .i64 0, .int .u8 0, .int .i64 0, .int .i64 0, .int .u8 2, .int .i64 0, .int .i64 1, .int .u8 0, .int .i64 0, .int .i64 0, .int .u8 3, .int .i64 0, .int .i64 0, .int .u8 1, .int .i64 (-1), .int .i64 0, .int .u8 1, .int .i64 0, .int .i64 0, .int .u8 2, .int .i64 0, .int .i64 0, .int .u8 0]
/-- The tables are as their initialisers laid them. -/
structure Lay (w : World) : Prop where
  t1 : ∀ i < tb1.length, w.cell? ⟨1, i, none⟩ = some (tb1.getD i undef)
  len : 11 ≤ w.heap.size

end Go.Proofs.YtpieoofkikjjjaaGreatDoor
