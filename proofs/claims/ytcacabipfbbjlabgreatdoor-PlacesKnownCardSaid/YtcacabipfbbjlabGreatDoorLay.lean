/-
  Says: what the package-level tables hold.
-/
import Derived.Test.YtcacabipfbbjlabGreatDoorVx9
import Derived.Test.YtcacabipfbbjlabGreatDoorProg
set_option linter.unusedVariables false
set_option linter.unusedSimpArgs false
namespace Go.Proofs.YtcacabipfbbjlabGreatDoor
open Go Go.RowKit

set_option maxRecDepth 100000
/-- crimp/moves.turns -/
def tb0 : List Value := [.int .i64 1, .int .i64 0, .int .i64 0, .int .i64 1, .int .i64 0, .int .i64 (-1), .int .i64 1, .int .i64 0, .int .i64 (-1), .int .i64 0, .int .i64 0, .int .i64 (-1), .int .i64 0, .int .i64 1, .int .i64 (-1), .int .i64 0, .int .i64 (-1), .int .i64 0, .int .i64 0, .int .i64 1, .int .i64 0, .int .i64 (-1), .int .i64 (-1), .int .i64 0, .int .i64 1, .int .i64 0, .int .i64 0, .int .i64 (-1), .int .i64 0, .int .i64 1, .int .i64 1, .int .i64 0]
/-- crimp/places.kinds -/
def tb1 : List Value := [.int .u8 2, .int .u8 4, .int .u8 1, .int .u8 3]
/-- crimp/corners.directions -/
def tb2 : List Value := [.int .i64 1, .int .i64 0, .int .i64 1, .int .i64 1, .int .i64 0, .int .i64 1, .int .i64 (-1), .int .i64 1, .int .i64 (-1), .int .i64 0, .int .i64 (-1), .int .i64 (-1), .int .i64 0, .int .i64 (-1), .int .i64 1, .int .i64 (-1)]
/-- crimp/cells.neighbours -/
def tb3 : List Value := [.int .i64 0, .int .i64 (-1), .int .u8 2, .int .i64 0, .int .i64 0, .int .u8 1, .int .i64 0, .int .i64 0, .int .u8 3, .int .i64 1, .int .i64 0, .int .u8 3, .int .i64 0, .int .i64 0, .int .u8 0, .int .i64 0, .int .i64 0, .int .u8 2, .int .i64 0, .int .i64 1, .int .u8 0, .int .i64 0, .int .i64 0, .int .u8 3, .int .i64 0, .int .i64 0, .int .u8 1, .int .i64 (-1), .int .i64 0, .int .u8 1, .int .i64 0, .int .i64 0, .int .u8 2, .int .i64 0, .int .i64 0, .int .u8 0]
/-- crimp/cells.corners -/
def tb4 : List Value := [.int .i64 1, .int .i64 1, .int .i64 0, .int .i64 0, .int .i64 2, .int .i64 0, .int .i64 1, .int .i64 1, .int .i64 2, .int .i64 2, .int .i64 2, .int .i64 0, .int .i64 1, .int .i64 1, .int .i64 2, .int .i64 2, .int .i64 0, .int .i64 2, .int .i64 1, .int .i64 1, .int .i64 0, .int .i64 0, .int .i64 0, .int .i64 2]
/-- The tables are as their initialisers laid them. -/
structure Lay (w : World) : Prop where
  t0 : ∀ i < tb0.length, w.cell? ⟨0, i, none⟩ = some (tb0.getD i undef)
  t1 : ∀ i < tb1.length, w.cell? ⟨1, i, none⟩ = some (tb1.getD i undef)
  t2 : ∀ i < tb2.length, w.cell? ⟨2, i, none⟩ = some (tb2.getD i undef)
  t3 : ∀ i < tb3.length, w.cell? ⟨3, i, none⟩ = some (tb3.getD i undef)
  t4 : ∀ i < tb4.length, w.cell? ⟨4, i, none⟩ = some (tb4.getD i undef)
  len : 5 ≤ w.heap.size

end Go.Proofs.YtcacabipfbbjlabGreatDoor
