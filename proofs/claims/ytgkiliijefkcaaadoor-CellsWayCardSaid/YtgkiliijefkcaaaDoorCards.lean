/-
  DERIVED. GIVEN WITH THE SEED: THE CARDS: each row of YtgkiliijefkcaaaDoorRows.lean that lists a variable, with what it lists TIED to the program's text (the seventh form; the later family's looks); each row that meets fmt, with fmt's text TOLD by the authors' own Lean function (tested against real Go, not proved from fmt's source: count such statements apart). THE CARD IS WHAT COUNTS. Prove the row's statement (the work); the ties are given (YtgkiliijefkcaaaDoorTie.lean); close each card by the builder's one call (the guide's Derived/Test/ToyasCard.lean, 'card_holds'). Laid BY PROGRAM, IN A SANDBOX (cutbox-door.mjs). By AI agents, Wed Nov 11 2026. No macro, syntax, notation, axiom, sorry.
-/
import Derived.Test.YtgkiliijefkcaaaDoorRows
import GoSem.ClaimSeven
namespace Go.Proofs.YtgkiliijefkcaaaDoor
namespace Rows

/-- THE TIED CARD OF 'crimplaw03.CellsLine'. -/
def cellsLineCard : Claim7 := { stood := { row := cellsLineRow, standIns := [], harness := (true, "c9f8e7c321b4b2576f1636ae23aefc4796bd88dcf22a131ab7cdd29d64758792"), looks := false }, kinds := [], alts := [], laidByText := true, laidKinds := [.data, .data, .data], laidTests := true, laidLooks := .later }
def CellsLineCardSaid : Prop := Claim7.holds Tryd.pinned (.plain (OpenSpec.ofChange cellsLineSpec)) cellsLineCard

/-- THE TIED CARD OF 'crimplaw03.CellsNeighbour'. -/
def cellsNeighbourCard : Claim7 := { stood := { row := cellsNeighbourRow, standIns := [], harness := (true, "c9f8e7c321b4b2576f1636ae23aefc4796bd88dcf22a131ab7cdd29d64758792"), looks := false }, kinds := [], alts := [], laidByText := true, laidKinds := [.data, .data, .data], laidTests := true, laidLooks := .later }
def CellsNeighbourCardSaid : Prop := Claim7.holds Tryd.pinned (.plain (OpenSpec.ofChange cellsNeighbourSpec)) cellsNeighbourCard

/-- THE TIED CARD OF 'crimplaw03.CellsSide'. -/
def cellsSideCard : Claim7 := { stood := { row := cellsSideRow, standIns := [], harness := (true, "c9f8e7c321b4b2576f1636ae23aefc4796bd88dcf22a131ab7cdd29d64758792"), looks := false }, kinds := [], alts := [], laidByText := true, laidKinds := [.data, .data, .data], laidTests := true, laidLooks := .later }
def CellsSideCardSaid : Prop := Claim7.holds Tryd.pinned (.plain (OpenSpec.ofChange cellsSideSpec)) cellsSideCard

/-- THE TIED CARD OF 'crimplaw03.CellsMove'. -/
def cellsMoveCard : Claim7 := { stood := { row := cellsMoveRow, standIns := [], harness := (true, "c9f8e7c321b4b2576f1636ae23aefc4796bd88dcf22a131ab7cdd29d64758792"), looks := false }, kinds := [], alts := [], laidByText := true, laidKinds := [.data, .data, .data], laidTests := true, laidLooks := .later }
def CellsMoveCardSaid : Prop := Claim7.holds Tryd.pinned (.plain (OpenSpec.ofChange cellsMoveSpec)) cellsMoveCard

/-- THE TIED CARD OF 'crimplaw03.CellsBetween'. -/
def cellsBetweenCard : Claim7 := { stood := { row := cellsBetweenRow, standIns := [], harness := (true, "c9f8e7c321b4b2576f1636ae23aefc4796bd88dcf22a131ab7cdd29d64758792"), looks := false }, kinds := [], alts := [], laidByText := true, laidKinds := [.data, .data, .data], laidTests := true, laidLooks := .later }
def CellsBetweenCardSaid : Prop := Claim7.holds Tryd.pinned (.plain (OpenSpec.ofChange cellsBetweenSpec)) cellsBetweenCard

/-- THE TIED CARD OF 'crimplaw03.CellsCompare'. -/
def cellsCompareCard : Claim7 := { stood := { row := cellsCompareRow, standIns := [], harness := (true, "c9f8e7c321b4b2576f1636ae23aefc4796bd88dcf22a131ab7cdd29d64758792"), looks := false }, kinds := [], alts := [], laidByText := true, laidKinds := [.data, .data, .data], laidTests := true, laidLooks := .later }
def CellsCompareCardSaid : Prop := Claim7.holds Tryd.pinned (.plain (OpenSpec.ofChange cellsCompareSpec)) cellsCompareCard

/-- THE TIED CARD OF 'crimplaw03.CellsWay'. -/
def cellsWayCard : Claim7 := { stood := { row := cellsWayRow, standIns := [], harness := (true, "c9f8e7c321b4b2576f1636ae23aefc4796bd88dcf22a131ab7cdd29d64758792"), looks := false }, kinds := [], alts := [], laidByText := true, laidKinds := [.data, .data, .data], laidTests := true, laidLooks := .later }
def CellsWayCardSaid : Prop := Claim7.holds Tryd.pinned (.plain (OpenSpec.ofChange cellsWaySpec)) cellsWayCard

/-- THE TIED CARD OF 'crimplaw03.CellsKnown'. -/
def cellsKnownCard : Claim7 := { stood := { row := cellsKnownRow, standIns := [], harness := (true, "c9f8e7c321b4b2576f1636ae23aefc4796bd88dcf22a131ab7cdd29d64758792"), looks := false }, kinds := [], alts := [], laidByText := true, laidKinds := [.data, .data, .data], laidTests := true, laidLooks := .later }
def CellsKnownCardSaid : Prop := Claim7.holds Tryd.pinned (.plain (OpenSpec.ofChange cellsKnownSpec)) cellsKnownCard

/-- THE SECOND FORM's CARD OF 'crimplaw03.CellsLine'. -/
def cellsLineUptoCard : Claim7 := { stood := { row := cellsLineUptoRow, standIns := [], harness := (true, "c9f8e7c321b4b2576f1636ae23aefc4796bd88dcf22a131ab7cdd29d64758792"), looks := false }, kinds := [], alts := [], laidByText := true, laidKinds := [.data, .data, .data], laidTests := true, laidLooks := .later }
def CellsLineUptoCardSaid : Prop := Claim7.holds Tryd.pinned (.plain (OpenSpec.upto cellsLineSpec)) cellsLineUptoCard

/-- THE SECOND FORM's CARD OF 'crimplaw03.CellsNeighbour'. -/
def cellsNeighbourUptoCard : Claim7 := { stood := { row := cellsNeighbourUptoRow, standIns := [], harness := (true, "c9f8e7c321b4b2576f1636ae23aefc4796bd88dcf22a131ab7cdd29d64758792"), looks := false }, kinds := [], alts := [], laidByText := true, laidKinds := [.data, .data, .data], laidTests := true, laidLooks := .later }
def CellsNeighbourUptoCardSaid : Prop := Claim7.holds Tryd.pinned (.plain (OpenSpec.upto cellsNeighbourSpec)) cellsNeighbourUptoCard

/-- THE SECOND FORM's CARD OF 'crimplaw03.CellsSide'. -/
def cellsSideUptoCard : Claim7 := { stood := { row := cellsSideUptoRow, standIns := [], harness := (true, "c9f8e7c321b4b2576f1636ae23aefc4796bd88dcf22a131ab7cdd29d64758792"), looks := false }, kinds := [], alts := [], laidByText := true, laidKinds := [.data, .data, .data], laidTests := true, laidLooks := .later }
def CellsSideUptoCardSaid : Prop := Claim7.holds Tryd.pinned (.plain (OpenSpec.upto cellsSideSpec)) cellsSideUptoCard

/-- THE SECOND FORM's CARD OF 'crimplaw03.CellsMove'. -/
def cellsMoveUptoCard : Claim7 := { stood := { row := cellsMoveUptoRow, standIns := [], harness := (true, "c9f8e7c321b4b2576f1636ae23aefc4796bd88dcf22a131ab7cdd29d64758792"), looks := false }, kinds := [], alts := [], laidByText := true, laidKinds := [.data, .data, .data], laidTests := true, laidLooks := .later }
def CellsMoveUptoCardSaid : Prop := Claim7.holds Tryd.pinned (.plain (OpenSpec.upto cellsMoveSpec)) cellsMoveUptoCard

/-- THE SECOND FORM's CARD OF 'crimplaw03.CellsBetween'. -/
def cellsBetweenUptoCard : Claim7 := { stood := { row := cellsBetweenUptoRow, standIns := [], harness := (true, "c9f8e7c321b4b2576f1636ae23aefc4796bd88dcf22a131ab7cdd29d64758792"), looks := false }, kinds := [], alts := [], laidByText := true, laidKinds := [.data, .data, .data], laidTests := true, laidLooks := .later }
def CellsBetweenUptoCardSaid : Prop := Claim7.holds Tryd.pinned (.plain (OpenSpec.upto cellsBetweenSpec)) cellsBetweenUptoCard

/-- THE SECOND FORM's CARD OF 'crimplaw03.CellsCompare'. -/
def cellsCompareUptoCard : Claim7 := { stood := { row := cellsCompareUptoRow, standIns := [], harness := (true, "c9f8e7c321b4b2576f1636ae23aefc4796bd88dcf22a131ab7cdd29d64758792"), looks := false }, kinds := [], alts := [], laidByText := true, laidKinds := [.data, .data, .data], laidTests := true, laidLooks := .later }
def CellsCompareUptoCardSaid : Prop := Claim7.holds Tryd.pinned (.plain (OpenSpec.upto cellsCompareSpec)) cellsCompareUptoCard

/-- THE SECOND FORM's CARD OF 'crimplaw03.CellsWay'. -/
def cellsWayUptoCard : Claim7 := { stood := { row := cellsWayUptoRow, standIns := [], harness := (true, "c9f8e7c321b4b2576f1636ae23aefc4796bd88dcf22a131ab7cdd29d64758792"), looks := false }, kinds := [], alts := [], laidByText := true, laidKinds := [.data, .data, .data], laidTests := true, laidLooks := .later }
def CellsWayUptoCardSaid : Prop := Claim7.holds Tryd.pinned (.plain (OpenSpec.upto cellsWaySpec)) cellsWayUptoCard

/-- THE SECOND FORM's CARD OF 'crimplaw03.CellsKnown'. -/
def cellsKnownUptoCard : Claim7 := { stood := { row := cellsKnownUptoRow, standIns := [], harness := (true, "c9f8e7c321b4b2576f1636ae23aefc4796bd88dcf22a131ab7cdd29d64758792"), looks := false }, kinds := [], alts := [], laidByText := true, laidKinds := [.data, .data, .data], laidTests := true, laidLooks := .later }
def CellsKnownUptoCardSaid : Prop := Claim7.holds Tryd.pinned (.plain (OpenSpec.upto cellsKnownSpec)) cellsKnownUptoCard
end Rows
end Go.Proofs.YtgkiliijefkcaaaDoor
