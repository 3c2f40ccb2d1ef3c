/-
  Says: what the package-level tables hold.
-/
import Derived.Test.YtghkkohjmleepaaDoorVx21
import Derived.Test.YtghkkohjmleepaaDoorProg
set_option linter.unusedVariables false
set_option linter.unusedSimpArgs false
namespace Go.Proofs.YtghkkohjmleepaaDoor
open Go Go.RowKit

set_option maxRecDepth 100000
def turnsL : List Int := [1, 0, 0, 1, 0, -1, 1, 0, -1, 0, 0, -1, 0, 1, -1, 0, -1, 0, 0, 1, 0, -1, -1, 0, 1, 0, 0, -1, 0, 1, 1, 0]
def cornersL : List Int := [1, 1, 0, 0, 2, 0, 1, 1, 2, 2, 2, 0, 1, 1, 2, 2, 0, 2, 1, 1, 0, 0, 0, 2]
def neiL : List Value := [.int .i64 0, .int .i64 (-1), .int .u8 2, .int .i64 0, .int .i64 0, .int .u8 1, .int .i64 0, .int .i64 0, .int .u8 3, .int .i64 1, .int .i64 0, .int .u8 3, .int .i64 0, .int .i64 0, .int .u8 0, .int .i64 0, .int .i64 0, .int .u8 2, .int .i64 0, .int .i64 1, .int .u8 0, .int .i64 0, .int .i64 0, .int .u8 3, .int .i64 0, .int .i64 0, .int .u8 1, .int .i64 (-1), .int .i64 0, .int .u8 1, .int .i64 0, .int .i64 0, .int .u8 2, .int .i64 0, .int .i64 0, .int .u8 0]
def Turns (w : World) : Prop := ∀ i < 32, w.cell? ⟨3, i, none⟩ = some (.int .i64 (turnsL.getD i 0))
/-- The package's tables are as their initialisers laid them. -/
structure Lay (w : World) : Prop where
  turns : Turns w
  cor : ∀ i < 24, w.cell? ⟨1, i, none⟩ = some (.int .i64 (cornersL.getD i 0))
  nei : ∀ i < 36, w.cell? ⟨2, i, none⟩ = some (neiL.getD i undef)

end Go.Proofs.YtghkkohjmleepaaDoor
