/-
  DERIVED. GIVEN WITH THE SEED: THE PROGRAM's TIES (one call each: nine closed facts by the kernel) AND EACH ROW's TIE, after the 31st guide's Derived/Test/Toyas{Tie, Card}.lean. No idea stands in it: it is a product of the set-up. Laid BY PROGRAM, IN A SANDBOX (cutbox-door.mjs). By AI agents, Wed Nov 11 2026. No macro, syntax, notation, axiom, sorry.
-/
import Derived.Test.YtcacabipfbbjlabGreatDoorRows
import Derived.LaidByTextLater
import Derived.SevenTiedAt
import Derived.LaidSub
import Derived.LaidOnce
namespace Go.Proofs.YtcacabipfbbjlabGreatDoor
open Go
set_option maxRecDepth 100000
theorem seatTie1 : Tryz.prog.laidByTextLater [("crimp/moves.turns", Rows.laid_crimp_moves_turns), ("crimp/cells.neighbours", Rows.laid_crimp_cells_neighbours), ("crimp/cells.corners", Rows.laid_crimp_cells_corners), ("crimp/corners.directions", Rows.laid_crimp_corners_directions), ("crimp/places.kinds", Rows.laid_crimp_places_kinds)] [.data, .data, .data, .data, .data] true :=
  Program.laidByTextLater_by_one 98 8 37 (by kernel_rfl) (by kernel_rfl) (by kernel_rfl) (by kernel_rfl) (by kernel_rfl) (by kernel_rfl) (fun _ _ => by kernel_rfl)
theorem noOwnUnsafe : Tryz.pinned.checked.prog.headLifts.contains "ownunsafe" = false := by kernel_rfl
theorem tie : Tryz.prog.laidByTextLater [("crimp/moves.turns", Rows.laid_crimp_moves_turns), ("crimp/cells.neighbours", Rows.laid_crimp_cells_neighbours), ("crimp/cells.corners", Rows.laid_crimp_cells_corners), ("crimp/corners.directions", Rows.laid_crimp_corners_directions), ("crimp/places.kinds", Rows.laid_crimp_places_kinds)] [.data, .data, .data, .data, .data] true :=
  Program.laidByTextLater.sub seatTie1 ["crimp/moves.turns", "crimp/cells.neighbours", "crimp/cells.corners", "crimp/corners.directions", "crimp/places.kinds"] (by kernel_rfl) (by kernel_rfl)
theorem placesKnown_row_tie : Rows.placesKnownRow.laidByTextAt .later Tryz.pinned [.data, .data, .data, .data, .data] true :=
  OpenClaim.laidByTextAt_later rfl rfl tie noOwnUnsafe
theorem placesKnownUpto_row_tie : Rows.placesKnownUptoRow.laidByTextAt .later Tryz.pinned [.data, .data, .data, .data, .data] true :=
  OpenClaim.laidByTextAt_later rfl rfl tie noOwnUnsafe
end Go.Proofs.YtcacabipfbbjlabGreatDoor
