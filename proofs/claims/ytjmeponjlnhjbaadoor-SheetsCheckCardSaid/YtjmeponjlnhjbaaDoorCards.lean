/-
  DERIVED. GIVEN WITH THE SEED: THE CARDS: each row of YtjmeponjlnhjbaaDoorRows.lean that lists a variable, with what it lists TIED to the program's text (the seventh form; the later family's looks); each row that meets fmt, with fmt's text TOLD by the authors' own Lean function (tested against real Go, not proved from fmt's source: count such statements apart). THE CARD IS WHAT COUNTS. Prove the row's statement (the work); the ties are given (YtjmeponjlnhjbaaDoorTie.lean); close each card by the builder's one call (the guide's Derived/Test/ToyasCard.lean, 'card_holds'). Laid BY PROGRAM, IN A SANDBOX (cutbox-door.mjs). By AI agents, Wed Nov 11 2026. No macro, syntax, notation, axiom, sorry.
-/
import Derived.Test.YtjmeponjlnhjbaaDoorRows
import GoSem.ClaimSeven
namespace Go.Proofs.YtjmeponjlnhjbaaDoor
namespace Rows

/-- THE TIED CARD OF 'crimplaw04.SetsOf'. -/
def setsOfCard : Claim7 := { stood := { row := setsOfRow, standIns := [], harness := (true, "0ac11d5d3dea76356cb512de2d4cb65f86be87be11311af66b7177700ae36090"), looks := false }, kinds := [], alts := [], laidByText := true, laidKinds := [.data, .data, .data, .data], laidTests := true, laidLooks := .later }
def SetsOfCardSaid : Prop := Claim7.holds Tryd.pinned (.plain (OpenSpec.ofChange setsOfSpec)) setsOfCard

/-- THE TIED CARD OF 'crimplaw04.SetsMerge'. -/
def setsMergeCard : Claim7 := { stood := { row := setsMergeRow, standIns := [], harness := (true, "0ac11d5d3dea76356cb512de2d4cb65f86be87be11311af66b7177700ae36090"), looks := false }, kinds := [], alts := [], laidByText := true, laidKinds := [.data, .data, .data, .data], laidTests := true, laidLooks := .later }
def SetsMergeCardSaid : Prop := Claim7.holds Tryd.pinned (.plain (OpenSpec.ofChange setsMergeSpec)) setsMergeCard

/-- THE TIED CARD OF 'crimplaw04.SetsAssociate'. -/
def setsAssociateCard : Claim7 := { stood := { row := setsAssociateRow, standIns := [], harness := (true, "0ac11d5d3dea76356cb512de2d4cb65f86be87be11311af66b7177700ae36090"), looks := false }, kinds := [], alts := [], laidByText := true, laidKinds := [.data, .data, .data, .data], laidTests := true, laidLooks := .later }
def SetsAssociateCardSaid : Prop := Claim7.holds Tryd.pinned (.plain (OpenSpec.ofChange setsAssociateSpec)) setsAssociateCard

/-- THE TIED CARD OF 'crimplaw04.SetsMove'. -/
def setsMoveCard : Claim7 := { stood := { row := setsMoveRow, standIns := [], harness := (true, "0ac11d5d3dea76356cb512de2d4cb65f86be87be11311af66b7177700ae36090"), looks := false }, kinds := [], alts := [], laidByText := true, laidKinds := [.data, .data, .data, .data], laidTests := true, laidLooks := .later }
def SetsMoveCardSaid : Prop := Claim7.holds Tryd.pinned (.plain (OpenSpec.ofChange setsMoveSpec)) setsMoveCard

/-- THE TIED CARD OF 'crimplaw04.SetsShape'. -/
def setsShapeCard : Claim7 := { stood := { row := setsShapeRow, standIns := [], harness := (true, "0ac11d5d3dea76356cb512de2d4cb65f86be87be11311af66b7177700ae36090"), looks := false }, kinds := [], alts := [], laidByText := true, laidKinds := [.data, .data, .data, .data], laidTests := true, laidLooks := .later }
def SetsShapeCardSaid : Prop := Claim7.holds Tryd.pinned (.plain (OpenSpec.ofChange setsShapeSpec)) setsShapeCard

/-- THE TIED CARD OF 'crimplaw04.SetsText'. -/
def setsTextCard : Claim7 := { stood := { row := setsTextRow, standIns := [], harness := (true, "0ac11d5d3dea76356cb512de2d4cb65f86be87be11311af66b7177700ae36090"), looks := false }, kinds := [], alts := [], laidByText := true, laidKinds := [.data, .data, .data, .data], laidTests := true, laidLooks := .later }
def SetsTextCardSaid : Prop := Claim7.holds Tryd.pinned (.plain (OpenSpec.ofChange setsTextSpec)) setsTextCard

/-- THE TIED CARD OF 'crimplaw04.SetsErrors'. -/
def setsErrorsCard : Claim7 := { stood := { row := setsErrorsRow, standIns := [], harness := (true, "0ac11d5d3dea76356cb512de2d4cb65f86be87be11311af66b7177700ae36090"), looks := false }, kinds := [], alts := [], laidByText := true, laidKinds := [.data, .data, .data, .data], laidTests := true, laidLooks := .later }
def SetsErrorsCardSaid : Prop := Claim7.holds Tryd.pinned (.plain (OpenSpec.ofChange setsErrorsSpec)) setsErrorsCard

/-- THE TIED CARD OF 'crimplaw05.SheetsCheck'. -/
def sheetsCheckCard : Claim7 := { stood := { row := sheetsCheckRow, standIns := [], harness := (true, "0ac11d5d3dea76356cb512de2d4cb65f86be87be11311af66b7177700ae36090"), looks := false }, kinds := [], alts := [], laidByText := true, laidKinds := [.data, .data], laidTests := true, laidLooks := .later }
def SheetsCheckCardSaid : Prop := Claim7.holds Tryd.pinned (.plain (OpenSpec.ofChange sheetsCheckSpec)) sheetsCheckCard

/-- THE TIED CARD OF 'crimplaw05.SheetsCell'. -/
def sheetsCellCard : Claim7 := { stood := { row := sheetsCellRow, standIns := [], harness := (true, "0ac11d5d3dea76356cb512de2d4cb65f86be87be11311af66b7177700ae36090"), looks := false }, kinds := [], alts := [], laidByText := true, laidKinds := [.data, .data], laidTests := true, laidLooks := .later }
def SheetsCellCardSaid : Prop := Claim7.holds Tryd.pinned (.plain (OpenSpec.ofChange sheetsCellSpec)) sheetsCellCard

/-- THE TIED CARD OF 'crimplaw05.SheetsNeighbour'. -/
def sheetsNeighbourCard : Claim7 := { stood := { row := sheetsNeighbourRow, standIns := [], harness := (true, "0ac11d5d3dea76356cb512de2d4cb65f86be87be11311af66b7177700ae36090"), looks := false }, kinds := [], alts := [], laidByText := true, laidKinds := [.data, .data], laidTests := true, laidLooks := .later }
def SheetsNeighbourCardSaid : Prop := Claim7.holds Tryd.pinned (.plain (OpenSpec.ofChange sheetsNeighbourSpec)) sheetsNeighbourCard

/-- THE SECOND FORM's CARD OF 'crimplaw04.SetsOf'. -/
def setsOfUptoCard : Claim7 := { stood := { row := setsOfUptoRow, standIns := [], harness := (true, "0ac11d5d3dea76356cb512de2d4cb65f86be87be11311af66b7177700ae36090"), looks := false }, kinds := [], alts := [], laidByText := true, laidKinds := [.data, .data, .data, .data], laidTests := true, laidLooks := .later }
def SetsOfUptoCardSaid : Prop := Claim7.holds Tryd.pinned (.plain (OpenSpec.upto setsOfSpec)) setsOfUptoCard

/-- THE SECOND FORM's CARD OF 'crimplaw04.SetsMerge'. -/
def setsMergeUptoCard : Claim7 := { stood := { row := setsMergeUptoRow, standIns := [], harness := (true, "0ac11d5d3dea76356cb512de2d4cb65f86be87be11311af66b7177700ae36090"), looks := false }, kinds := [], alts := [], laidByText := true, laidKinds := [.data, .data, .data, .data], laidTests := true, laidLooks := .later }
def SetsMergeUptoCardSaid : Prop := Claim7.holds Tryd.pinned (.plain (OpenSpec.upto setsMergeSpec)) setsMergeUptoCard

/-- THE SECOND FORM's CARD OF 'crimplaw04.SetsAssociate'. -/
def setsAssociateUptoCard : Claim7 := { stood := { row := setsAssociateUptoRow, standIns := [], harness := (true, "0ac11d5d3dea76356cb512de2d4cb65f86be87be11311af66b7177700ae36090"), looks := false }, kinds := [], alts := [], laidByText := true, laidKinds := [.data, .data, .data, .data], laidTests := true, laidLooks := .later }
def SetsAssociateUptoCardSaid : Prop := Claim7.holds Tryd.pinned (.plain (OpenSpec.upto setsAssociateSpec)) setsAssociateUptoCard

/-- THE SECOND FORM's CARD OF 'crimplaw04.SetsMove'. -/
def setsMoveUptoCard : Claim7 := { stood := { row := setsMoveUptoRow, standIns := [], harness := (true, "0ac11d5d3dea76356cb512de2d4cb65f86be87be11311af66b7177700ae36090"), looks := false }, kinds := [], alts := [], laidByText := true, laidKinds := [.data, .data, .data, .data], laidTests := true, laidLooks := .later }
def SetsMoveUptoCardSaid : Prop := Claim7.holds Tryd.pinned (.plain (OpenSpec.upto setsMoveSpec)) setsMoveUptoCard

/-- THE SECOND FORM's CARD OF 'crimplaw04.SetsShape'. -/
def setsShapeUptoCard : Claim7 := { stood := { row := setsShapeUptoRow, standIns := [], harness := (true, "0ac11d5d3dea76356cb512de2d4cb65f86be87be11311af66b7177700ae36090"), looks := false }, kinds := [], alts := [], laidByText := true, laidKinds := [.data, .data, .data, .data], laidTests := true, laidLooks := .later }
def SetsShapeUptoCardSaid : Prop := Claim7.holds Tryd.pinned (.plain (OpenSpec.upto setsShapeSpec)) setsShapeUptoCard

/-- THE SECOND FORM's CARD OF 'crimplaw04.SetsText'. -/
def setsTextUptoCard : Claim7 := { stood := { row := setsTextUptoRow, standIns := [], harness := (true, "0ac11d5d3dea76356cb512de2d4cb65f86be87be11311af66b7177700ae36090"), looks := false }, kinds := [], alts := [], laidByText := true, laidKinds := [.data, .data, .data, .data], laidTests := true, laidLooks := .later }
def SetsTextUptoCardSaid : Prop := Claim7.holds Tryd.pinned (.plain (OpenSpec.upto setsTextSpec)) setsTextUptoCard

/-- THE SECOND FORM's CARD OF 'crimplaw04.SetsErrors'. -/
def setsErrorsUptoCard : Claim7 := { stood := { row := setsErrorsUptoRow, standIns := [], harness := (true, "0ac11d5d3dea76356cb512de2d4cb65f86be87be11311af66b7177700ae36090"), looks := false }, kinds := [], alts := [], laidByText := true, laidKinds := [.data, .data, .data, .data], laidTests := true, laidLooks := .later }
def SetsErrorsUptoCardSaid : Prop := Claim7.holds Tryd.pinned (.plain (OpenSpec.upto setsErrorsSpec)) setsErrorsUptoCard

/-- THE SECOND FORM's CARD OF 'crimplaw05.SheetsCheck'. -/
def sheetsCheckUptoCard : Claim7 := { stood := { row := sheetsCheckUptoRow, standIns := [], harness := (true, "0ac11d5d3dea76356cb512de2d4cb65f86be87be11311af66b7177700ae36090"), looks := false }, kinds := [], alts := [], laidByText := true, laidKinds := [.data, .data], laidTests := true, laidLooks := .later }
def SheetsCheckUptoCardSaid : Prop := Claim7.holds Tryd.pinned (.plain (OpenSpec.upto sheetsCheckSpec)) sheetsCheckUptoCard

/-- THE SECOND FORM's CARD OF 'crimplaw05.SheetsCell'. -/
def sheetsCellUptoCard : Claim7 := { stood := { row := sheetsCellUptoRow, standIns := [], harness := (true, "0ac11d5d3dea76356cb512de2d4cb65f86be87be11311af66b7177700ae36090"), looks := false }, kinds := [], alts := [], laidByText := true, laidKinds := [.data, .data], laidTests := true, laidLooks := .later }
def SheetsCellUptoCardSaid : Prop := Claim7.holds Tryd.pinned (.plain (OpenSpec.upto sheetsCellSpec)) sheetsCellUptoCard

/-- THE SECOND FORM's CARD OF 'crimplaw05.SheetsNeighbour'. -/
def sheetsNeighbourUptoCard : Claim7 := { stood := { row := sheetsNeighbourUptoRow, standIns := [], harness := (true, "0ac11d5d3dea76356cb512de2d4cb65f86be87be11311af66b7177700ae36090"), looks := false }, kinds := [], alts := [], laidByText := true, laidKinds := [.data, .data], laidTests := true, laidLooks := .later }
def SheetsNeighbourUptoCardSaid : Prop := Claim7.holds Tryd.pinned (.plain (OpenSpec.upto sheetsNeighbourSpec)) sheetsNeighbourUptoCard
end Rows
end Go.Proofs.YtjmeponjlnhjbaaDoor
