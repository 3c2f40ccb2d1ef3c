/-
  Says: what the package-level tables hold.
-/
import Derived.Test.YtaacmbmnlhoghaaDoorVx20
import Derived.Test.YtaacmbmnlhoghaaDoorProg
set_option linter.unusedVariables false
set_option linter.unusedSimpArgs false
namespace Go.Proofs.YtaacmbmnlhoghaaDoor
open Go Go.RowKit

set_option maxRecDepth 100000
def cornersL : List Int := [1, 1, 0, 0, 2, 0, 1, 1, 2, 2, 2, 0, 1, 1, 2, 2, 0, 2, 1, 1, 0, 0, 0, 2]
def neiL : List Value := [.int .i64 0, .int .i64 (-1), .int .u8 2, .int .i64 0, .int .i64 0, .int .u8 1, .int .i64 0, .int .i64 0, .int .u8 3, .int .i64 1, .int .i64 0, .int .u8 3, .int .i64 0, .int .i64 0, .int .u8 0, .int .i64 0, .int .i64 0, .int .u8 2, .int .i64 0, .int .i64 1, .int .u8 0, .int .i64 0, .int .i64 0, .int .u8 3, .int .i64 0, .int .i64 0, .int .u8 1, .int .i64 (-1), .int .i64 0, .int .u8 1, .int .i64 0, .int .i64 0, .int .u8 2, .int .i64 0, .int .i64 0, .int .u8 0]
/-- The package's tables are as their initialisers laid them. -/
structure Lay (w : World) : Prop where
  cor : ∀ i < 24, w.cell? ⟨1, i, none⟩ = some (.int .i64 (cornersL.getD i 0))
  nei : ∀ i < 36, w.cell? ⟨0, i, none⟩ = some (neiL.getD i undef)
  len : 2 ≤ w.heap.size

end Go.Proofs.YtaacmbmnlhoghaaDoor
