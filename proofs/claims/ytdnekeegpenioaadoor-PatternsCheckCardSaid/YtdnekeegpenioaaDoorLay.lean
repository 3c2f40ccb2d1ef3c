/-
  Says: what the package-level tables hold.
-/
import Derived.Test.YtdnekeegpenioaaDoorVx9
import Derived.Test.YtdnekeegpenioaaDoorProg
set_option linter.unusedVariables false
set_option linter.unusedSimpArgs false
namespace Go.Proofs.YtdnekeegpenioaaDoor
open Go Go.RowKit

set_option maxRecDepth 100000
def neiL : List Value := [.int .i64 0, .int .i64 (-1), .int .u8 2, .int .i64 0, .int .i64 0, .int .u8 1, .int .i64 0, .int .i64 0, .int .u8 3, .int .i64 1, .int .i64 0, .int .u8 3, .int .i64 0, .int .i64 0, .int .u8 0, .int .i64 0, .int .i64 0, .int .u8 2, .int .i64 0, .int .i64 1, .int .u8 0, .int .i64 0, .int .i64 0, .int .u8 3, .int .i64 0, .int .i64 0, .int .u8 1, .int .i64 (-1), .int .i64 0, .int .u8 1, .int .i64 0, .int .i64 0, .int .u8 2, .int .i64 0, .int .i64 0, .int .u8 0]
/-- The package's tables are as their initialisers laid them. -/
structure Lay (w : World) : Prop where
  nei : ∀ i < 36, w.cell? ⟨0, i, none⟩ = some (neiL.getD i undef)

end Go.Proofs.YtdnekeegpenioaaDoor
