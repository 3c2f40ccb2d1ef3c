/-
  DERIVED. GIVEN WITH THE SEED: THE CARDS: each row of YtpieoofkikjjjaaGreatDoorRows.lean that lists a variable, with what it lists TIED to the program's text (the seventh form; the later family's looks); each row that meets fmt, with fmt's text TOLD by the authors' own Lean function (tested against real Go, not proved from fmt's source: count such statements apart). THE CARD IS WHAT COUNTS. Prove the row's statement (the work); the ties are given (YtpieoofkikjjjaaGreatDoorTie.lean); close each card by the builder's one call (the guide's Derived/Test/ToyasCard.lean, 'card_holds'). Laid BY PROGRAM, IN A SANDBOX (cutbox-door.mjs). By AI agents, Wed Nov 11 2026. No macro, syntax, notation, axiom, sorry.
-/
import Derived.Test.YtpieoofkikjjjaaGreatDoorRows
import GoSem.ClaimSeven
namespace Go.Proofs.YtpieoofkikjjjaaGreatDoor
namespace Rows

/-- THE TIED CARD OF 'crimplaw06.PatternsKnown'. -/
def patternsKnownCard : Claim7 := { stood := { row := patternsKnownRow, standIns := [], harness := (true, "0540822f6fe460bb193cf52154f686b8d1813d10b876f408056a0cb1737d70e9"), looks := true }, kinds := [], alts := [], laidByText := true, laidKinds := [.data], laidTests := true, laidLooks := .later }
def PatternsKnownCardSaid : Prop := Claim7.holds Tryz.pinned (.plain (OpenSpec.ofChange patternsKnownSpec)) patternsKnownCard

/-- THE TIED CARD OF 'crimplaw07.SegmentsUnits'. -/
def segmentsUnitsCard : Claim7 := { stood := { row := segmentsUnitsRow, standIns := [], harness := (true, "0540822f6fe460bb193cf52154f686b8d1813d10b876f408056a0cb1737d70e9"), looks := true }, kinds := [], alts := [], laidByText := true, laidKinds := [.data, .data, .data, .data, .sentinel, .sentinel, .data, .data, .pinned], laidTests := true, laidLooks := .later }
def SegmentsUnitsCardSaid : Prop := Claim7.holds Tryz.pinned (.plain (OpenSpec.ofChange segmentsUnitsSpec)) segmentsUnitsCard

/-- THE TIED CARD OF 'crimplaw09.CornersAround'. -/
def cornersAroundCard : Claim7 := { stood := { row := cornersAroundRow, standIns := [], harness := (true, "0540822f6fe460bb193cf52154f686b8d1813d10b876f408056a0cb1737d70e9"), looks := true }, kinds := [], alts := [], laidByText := true, laidKinds := [.data, .data, .data], laidTests := true, laidLooks := .later }
def CornersAroundCardSaid : Prop := Claim7.holds Tryz.pinned (.plain (OpenSpec.ofChange cornersAroundSpec)) cornersAroundCard

/-- THE SECOND FORM's CARD OF 'crimplaw06.PatternsKnown'. -/
def patternsKnownUptoCard : Claim7 := { stood := { row := patternsKnownUptoRow, standIns := [], harness := (true, "0540822f6fe460bb193cf52154f686b8d1813d10b876f408056a0cb1737d70e9"), looks := true }, kinds := [], alts := [], laidByText := true, laidKinds := [.data], laidTests := true, laidLooks := .later }
def PatternsKnownUptoCardSaid : Prop := Claim7.holds Tryz.pinned (.plain (OpenSpec.upto patternsKnownSpec)) patternsKnownUptoCard

/-- THE SECOND FORM's CARD OF 'crimplaw07.SegmentsUnits'. -/
def segmentsUnitsUptoCard : Claim7 := { stood := { row := segmentsUnitsUptoRow, standIns := [], harness := (true, "0540822f6fe460bb193cf52154f686b8d1813d10b876f408056a0cb1737d70e9"), looks := true }, kinds := [], alts := [], laidByText := true, laidKinds := [.data, .data, .data, .data, .sentinel, .sentinel, .data, .data, .pinned], laidTests := true, laidLooks := .later }
def SegmentsUnitsUptoCardSaid : Prop := Claim7.holds Tryz.pinned (.plain (OpenSpec.upto segmentsUnitsSpec)) segmentsUnitsUptoCard

/-- THE SECOND FORM's CARD OF 'crimplaw09.CornersAround'. -/
def cornersAroundUptoCard : Claim7 := { stood := { row := cornersAroundUptoRow, standIns := [], harness := (true, "0540822f6fe460bb193cf52154f686b8d1813d10b876f408056a0cb1737d70e9"), looks := true }, kinds := [], alts := [], laidByText := true, laidKinds := [.data, .data, .data], laidTests := true, laidLooks := .later }
def CornersAroundUptoCardSaid : Prop := Claim7.holds Tryz.pinned (.plain (OpenSpec.upto cornersAroundSpec)) cornersAroundUptoCard
end Rows
end Go.Proofs.YtpieoofkikjjjaaGreatDoor
