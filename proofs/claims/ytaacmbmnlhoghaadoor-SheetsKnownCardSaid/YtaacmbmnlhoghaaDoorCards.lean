/-
  DERIVED. GIVEN WITH THE SEED: THE CARDS: each row of YtaacmbmnlhoghaaDoorRows.lean that lists a variable, with what it lists TIED to the program's text (the seventh form; the later family's looks); each row that meets fmt, with fmt's text TOLD by the authors' own Lean function (tested against real Go, not proved from fmt's source: count such statements apart). THE CARD IS WHAT COUNTS. Prove the row's statement (the work); the ties are given (YtaacmbmnlhoghaaDoorTie.lean); close each card by the builder's one call (the guide's Derived/Test/ToyasCard.lean, 'card_holds'). Laid BY PROGRAM, IN A SANDBOX (cutbox-door.mjs). By AI agents, Wed Nov 11 2026. No macro, syntax, notation, axiom, sorry.
-/
import Derived.Test.YtaacmbmnlhoghaaDoorRows
import GoSem.ClaimSeven
namespace Go.Proofs.YtaacmbmnlhoghaaDoor
namespace Rows

/-- THE TIED CARD OF 'crimplaw05.SheetsCell'. -/
def sheetsCellCard : Claim7 := { stood := { row := sheetsCellRow, standIns := [], harness := (true, "8e4cc0e6362cba19d7b667e52a35bd05c614877622f68faa52a6917dc910fc4b"), looks := false }, kinds := [], alts := [], laidByText := true, laidKinds := [.data, .data], laidTests := true, laidLooks := .later }
def SheetsCellCardSaid : Prop := Claim7.holds Tryd.pinned (.plain (OpenSpec.ofChange sheetsCellSpec)) sheetsCellCard

/-- THE TIED CARD OF 'crimplaw05.SheetsNeighbour'. -/
def sheetsNeighbourCard : Claim7 := { stood := { row := sheetsNeighbourRow, standIns := [], harness := (true, "8e4cc0e6362cba19d7b667e52a35bd05c614877622f68faa52a6917dc910fc4b"), looks := false }, kinds := [], alts := [], laidByText := true, laidKinds := [.data, .data], laidTests := true, laidLooks := .later }
def SheetsNeighbourCardSaid : Prop := Claim7.holds Tryd.pinned (.plain (OpenSpec.ofChange sheetsNeighbourSpec)) sheetsNeighbourCard

/-- THE TIED CARD OF 'crimplaw05.SheetsUnits'. -/
def sheetsUnitsCard : Claim7 := { stood := { row := sheetsUnitsRow, standIns := [], harness := (true, "8e4cc0e6362cba19d7b667e52a35bd05c614877622f68faa52a6917dc910fc4b"), looks := false }, kinds := [], alts := [], laidByText := true, laidKinds := [.data, .data], laidTests := true, laidLooks := .later }
def SheetsUnitsCardSaid : Prop := Claim7.holds Tryd.pinned (.plain (OpenSpec.ofChange sheetsUnitsSpec)) sheetsUnitsCard

/-- THE TIED CARD OF 'crimplaw05.SheetsNone'. -/
def sheetsNoneCard : Claim7 := { stood := { row := sheetsNoneRow, standIns := [], harness := (true, "8e4cc0e6362cba19d7b667e52a35bd05c614877622f68faa52a6917dc910fc4b"), looks := false }, kinds := [], alts := [], laidByText := true, laidKinds := [.data, .data], laidTests := true, laidLooks := .later }
def SheetsNoneCardSaid : Prop := Claim7.holds Tryd.pinned (.plain (OpenSpec.ofChange sheetsNoneSpec)) sheetsNoneCard

/-- THE TIED CARD OF 'crimplaw05.SheetsKnown'. -/
def sheetsKnownCard : Claim7 := { stood := { row := sheetsKnownRow, standIns := [], harness := (true, "8e4cc0e6362cba19d7b667e52a35bd05c614877622f68faa52a6917dc910fc4b"), looks := false }, kinds := [], alts := [], laidByText := true, laidKinds := [.data, .data], laidTests := true, laidLooks := .later }
def SheetsKnownCardSaid : Prop := Claim7.holds Tryd.pinned (.plain (OpenSpec.ofChange sheetsKnownSpec)) sheetsKnownCard

/-- THE SECOND FORM's CARD OF 'crimplaw05.SheetsCell'. -/
def sheetsCellUptoCard : Claim7 := { stood := { row := sheetsCellUptoRow, standIns := [], harness := (true, "8e4cc0e6362cba19d7b667e52a35bd05c614877622f68faa52a6917dc910fc4b"), looks := false }, kinds := [], alts := [], laidByText := true, laidKinds := [.data, .data], laidTests := true, laidLooks := .later }
def SheetsCellUptoCardSaid : Prop := Claim7.holds Tryd.pinned (.plain (OpenSpec.upto sheetsCellSpec)) sheetsCellUptoCard

/-- THE SECOND FORM's CARD OF 'crimplaw05.SheetsNeighbour'. -/
def sheetsNeighbourUptoCard : Claim7 := { stood := { row := sheetsNeighbourUptoRow, standIns := [], harness := (true, "8e4cc0e6362cba19d7b667e52a35bd05c614877622f68faa52a6917dc910fc4b"), looks := false }, kinds := [], alts := [], laidByText := true, laidKinds := [.data, .data], laidTests := true, laidLooks := .later }
def SheetsNeighbourUptoCardSaid : Prop := Claim7.holds Tryd.pinned (.plain (OpenSpec.upto sheetsNeighbourSpec)) sheetsNeighbourUptoCard

/-- THE SECOND FORM's CARD OF 'crimplaw05.SheetsUnits'. -/
def sheetsUnitsUptoCard : Claim7 := { stood := { row := sheetsUnitsUptoRow, standIns := [], harness := (true, "8e4cc0e6362cba19d7b667e52a35bd05c614877622f68faa52a6917dc910fc4b"), looks := false }, kinds := [], alts := [], laidByText := true, laidKinds := [.data, .data], laidTests := true, laidLooks := .later }
def SheetsUnitsUptoCardSaid : Prop := Claim7.holds Tryd.pinned (.plain (OpenSpec.upto sheetsUnitsSpec)) sheetsUnitsUptoCard

/-- THE SECOND FORM's CARD OF 'crimplaw05.SheetsNone'. -/
def sheetsNoneUptoCard : Claim7 := { stood := { row := sheetsNoneUptoRow, standIns := [], harness := (true, "8e4cc0e6362cba19d7b667e52a35bd05c614877622f68faa52a6917dc910fc4b"), looks := false }, kinds := [], alts := [], laidByText := true, laidKinds := [.data, .data], laidTests := true, laidLooks := .later }
def SheetsNoneUptoCardSaid : Prop := Claim7.holds Tryd.pinned (.plain (OpenSpec.upto sheetsNoneSpec)) sheetsNoneUptoCard

/-- THE SECOND FORM's CARD OF 'crimplaw05.SheetsKnown'. -/
def sheetsKnownUptoCard : Claim7 := { stood := { row := sheetsKnownUptoRow, standIns := [], harness := (true, "8e4cc0e6362cba19d7b667e52a35bd05c614877622f68faa52a6917dc910fc4b"), looks := false }, kinds := [], alts := [], laidByText := true, laidKinds := [.data, .data], laidTests := true, laidLooks := .later }
def SheetsKnownUptoCardSaid : Prop := Claim7.holds Tryd.pinned (.plain (OpenSpec.upto sheetsKnownSpec)) sheetsKnownUptoCard
end Rows
end Go.Proofs.YtaacmbmnlhoghaaDoor
