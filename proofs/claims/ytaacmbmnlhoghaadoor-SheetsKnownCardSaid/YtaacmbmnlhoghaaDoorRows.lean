/-
  NARROWER THAN 'FOR EVERY INPUT', by the rows' own cells (each row's printed sentence says how): SheetsCell: laid · SheetsNeighbour: laid · SheetsUnits: laid · SheetsNone: laid · SheetsKnown: laid.
  DERIVED. THE GIVEN ROWS OF THIS SEAT. 5 by the template 'for every input the law returns true; each argument reads behind the call as it read before'; 0 by the template 'total and deterministic' (their statements: YtaacmbmnlhoghaaDoorTotals.lean).
  GIVEN WITH THE SEED: the statements are not yours to turn. If you find one false, say at which input.
  Laid BY PROGRAM, IN A SANDBOX (cutbox-rows.mjs): the forced cells as the released guide's own fill.sh prints them over the translation d3e959c322f2bf85… (all of the seat's roots in one cut). By AI agents, Wed Nov 11 2026. No macro, syntax, notation, axiom, sorry.
-/
import Derived.Test.YtaacmbmnlhoghaaDoorChecked
import GoSem.Claim
import GoSem.ClaimJoined
import GoSem.ClaimMapViews
import Derived.JoinedTies
import Derived.KernelRfl
namespace Go.Proofs.YtaacmbmnlhoghaaDoor
/- THE CELL 'sum', in the pinned program and in every row, IS THE sha256 OF THE DUMP (.gsa) THAT YtaacmbmnlhoghaaDoorProg.lean LOADS. Nothing in Lean hashes anything: it is a label: what it is worth is what the hold of that sum in a sandbox is worth. -/
noncomputable def Tryd.pinned : Pinned := { name := "ytaacmbmnlhoghaadoor", sum := "d3e959c322f2bf8551cecc528e5f906c1900c425920cfc25cfa9be36aae2650c", checked := Tryd.checked }
namespace Rows
def none {H : Type} : Left H := { results := [], args := [] }

/- WHAT THE LISTED PACKAGE-LEVEL VARIABLES READ AS WHEN THE CALL BEGINS. Each datum BY PROGRAM (the guide's laid-datum.mjs) off the statement by which the dump's own 'gosem.cut.vars' lays the variable. In a bare row this is a premise. The card (YtaacmbmnlhoghaaDoorCards.lean) ties it to the program's text. -/
def laid_crimp_cells_neighbours {H : Type} : DataW H := .agg [.agg [.agg [.lit (.int .i64 0), .lit (.int .i64 (-1)), .lit (.int .u8 2)], .agg [.lit (.int .i64 0), .lit (.int .i64 0), .lit (.int .u8 1)], .agg [.lit (.int .i64 0), .lit (.int .i64 0), .lit (.int .u8 3)]], .agg [.agg [.lit (.int .i64 1), .lit (.int .i64 0), .lit (.int .u8 3)], .agg [.lit (.int .i64 0), .lit (.int .i64 0), .lit (.int .u8 0)], .agg [.lit (.int .i64 0), .lit (.int .i64 0), .lit (.int .u8 2)]], .agg [.agg [.lit (.int .i64 0), .lit (.int .i64 1), .lit (.int .u8 0)], .agg [.lit (.int .i64 0), .lit (.int .i64 0), .lit (.int .u8 3)], .agg [.lit (.int .i64 0), .lit (.int .i64 0), .lit (.int .u8 1)]], .agg [.agg [.lit (.int .i64 (-1)), .lit (.int .i64 0), .lit (.int .u8 1)], .agg [.lit (.int .i64 0), .lit (.int .i64 0), .lit (.int .u8 2)], .agg [.lit (.int .i64 0), .lit (.int .i64 0), .lit (.int .u8 0)]]]
def laid_crimp_cells_corners {H : Type} : DataW H := .agg [.agg [.agg [.lit (.int .i64 1), .lit (.int .i64 1)], .agg [.lit (.int .i64 0), .lit (.int .i64 0)], .agg [.lit (.int .i64 2), .lit (.int .i64 0)]], .agg [.agg [.lit (.int .i64 1), .lit (.int .i64 1)], .agg [.lit (.int .i64 2), .lit (.int .i64 2)], .agg [.lit (.int .i64 2), .lit (.int .i64 0)]], .agg [.agg [.lit (.int .i64 1), .lit (.int .i64 1)], .agg [.lit (.int .i64 2), .lit (.int .i64 2)], .agg [.lit (.int .i64 0), .lit (.int .i64 2)]], .agg [.agg [.lit (.int .i64 1), .lit (.int .i64 1)], .agg [.lit (.int .i64 0), .lit (.int .i64 0)], .agg [.lit (.int .i64 0), .lit (.int .i64 2)]]]

/-- 'crimplaw05.SheetsCell': WHATEVER THE INPUT: true; the input reads as it did. -/
def sheetsCellSpec : ChangeSpec := { name := "sheetsCell", fn := fun _ => fun
  | [d1, d2, d3] => { results := [.lit (.bool true)], args := [d1, d2, d3] }
  | _ => none }
def sheetsCellRow : OpenClaim := { program := "ytaacmbmnlhoghaadoor", sum := "d3e959c322f2bf8551cecc528e5f906c1900c425920cfc25cfa9be36aae2650c", func := "crimp/crimplaw05.SheetsCell", spec := "sheetsCell", unfollowed := true, recurses := true, named := ["crimp/cells.neighbours", "crimp/cells.corners"], plainKeys := false, apart := false, laid := [("crimp/cells.neighbours", laid_crimp_cells_neighbours), ("crimp/cells.corners", laid_crimp_cells_corners)] }
def SheetsCellSaid : Prop := sheetsCellRow.holds Tryd.pinned (OpenSpec.ofChange sheetsCellSpec)

/-- ITS FALSE NEIGHBOUR: 'it returns false'. Refute it at one input. -/
def sheetsCellWrong : ChangeSpec := { name := "sheetsCell", fn := fun _ => fun
  | [d1, d2, d3] => { results := [.lit (.bool false)], args := [d1, d2, d3] }
  | _ => none }
def SheetsCellWrongFalsely : Prop := sheetsCellRow.holds Tryd.pinned (OpenSpec.ofChange sheetsCellWrong)

/-- 'crimplaw05.SheetsNeighbour': WHATEVER THE INPUT: true; the input reads as it did. -/
def sheetsNeighbourSpec : ChangeSpec := { name := "sheetsNeighbour", fn := fun _ => fun
  | [d1, d2, d3] => { results := [.lit (.bool true)], args := [d1, d2, d3] }
  | _ => none }
def sheetsNeighbourRow : OpenClaim := { program := "ytaacmbmnlhoghaadoor", sum := "d3e959c322f2bf8551cecc528e5f906c1900c425920cfc25cfa9be36aae2650c", func := "crimp/crimplaw05.SheetsNeighbour", spec := "sheetsNeighbour", unfollowed := true, recurses := true, named := ["crimp/cells.neighbours", "crimp/cells.corners"], plainKeys := false, apart := false, laid := [("crimp/cells.neighbours", laid_crimp_cells_neighbours), ("crimp/cells.corners", laid_crimp_cells_corners)] }
def SheetsNeighbourSaid : Prop := sheetsNeighbourRow.holds Tryd.pinned (OpenSpec.ofChange sheetsNeighbourSpec)

/-- ITS FALSE NEIGHBOUR: 'it returns false'. Refute it at one input. -/
def sheetsNeighbourWrong : ChangeSpec := { name := "sheetsNeighbour", fn := fun _ => fun
  | [d1, d2, d3] => { results := [.lit (.bool false)], args := [d1, d2, d3] }
  | _ => none }
def SheetsNeighbourWrongFalsely : Prop := sheetsNeighbourRow.holds Tryd.pinned (OpenSpec.ofChange sheetsNeighbourWrong)

/-- 'crimplaw05.SheetsUnits': WHATEVER THE INPUT: true; the input reads as it did. -/
def sheetsUnitsSpec : ChangeSpec := { name := "sheetsUnits", fn := fun _ => fun
  | [d] => { results := [.lit (.bool true)], args := [d] }
  | _ => none }
def sheetsUnitsRow : OpenClaim := { program := "ytaacmbmnlhoghaadoor", sum := "d3e959c322f2bf8551cecc528e5f906c1900c425920cfc25cfa9be36aae2650c", func := "crimp/crimplaw05.SheetsUnits", spec := "sheetsUnits", unfollowed := true, recurses := true, named := ["crimp/cells.neighbours", "crimp/cells.corners"], plainKeys := false, apart := false, laid := [("crimp/cells.neighbours", laid_crimp_cells_neighbours), ("crimp/cells.corners", laid_crimp_cells_corners)] }
def SheetsUnitsSaid : Prop := sheetsUnitsRow.holds Tryd.pinned (OpenSpec.ofChange sheetsUnitsSpec)

/-- ITS FALSE NEIGHBOUR: 'it returns false'. Refute it at one input. -/
def sheetsUnitsWrong : ChangeSpec := { name := "sheetsUnits", fn := fun _ => fun
  | [d] => { results := [.lit (.bool false)], args := [d] }
  | _ => none }
def SheetsUnitsWrongFalsely : Prop := sheetsUnitsRow.holds Tryd.pinned (OpenSpec.ofChange sheetsUnitsWrong)

/-- 'crimplaw05.SheetsNone': WHATEVER THE INPUT: true; the input reads as it did. -/
def sheetsNoneSpec : ChangeSpec := { name := "sheetsNone", fn := fun _ => fun
  | [d1, d2] => { results := [.lit (.bool true)], args := [d1, d2] }
  | _ => none }
def sheetsNoneRow : OpenClaim := { program := "ytaacmbmnlhoghaadoor", sum := "d3e959c322f2bf8551cecc528e5f906c1900c425920cfc25cfa9be36aae2650c", func := "crimp/crimplaw05.SheetsNone", spec := "sheetsNone", unfollowed := true, recurses := true, named := ["crimp/cells.neighbours", "crimp/cells.corners"], plainKeys := false, apart := false, laid := [("crimp/cells.neighbours", laid_crimp_cells_neighbours), ("crimp/cells.corners", laid_crimp_cells_corners)] }
def SheetsNoneSaid : Prop := sheetsNoneRow.holds Tryd.pinned (OpenSpec.ofChange sheetsNoneSpec)

/-- ITS FALSE NEIGHBOUR: 'it returns false'. Refute it at one input. -/
def sheetsNoneWrong : ChangeSpec := { name := "sheetsNone", fn := fun _ => fun
  | [d1, d2] => { results := [.lit (.bool false)], args := [d1, d2] }
  | _ => none }
def SheetsNoneWrongFalsely : Prop := sheetsNoneRow.holds Tryd.pinned (OpenSpec.ofChange sheetsNoneWrong)

/-- 'crimplaw05.SheetsKnown': WHATEVER THE INPUT: true; the input reads as it did. -/
def sheetsKnownSpec : ChangeSpec := { name := "sheetsKnown", fn := fun _ => fun
  | [] => { results := [.lit (.bool true)], args := [] }
  | _ => none }
def sheetsKnownRow : OpenClaim := { program := "ytaacmbmnlhoghaadoor", sum := "d3e959c322f2bf8551cecc528e5f906c1900c425920cfc25cfa9be36aae2650c", func := "crimp/crimplaw05.SheetsKnown", spec := "sheetsKnown", unfollowed := true, recurses := true, named := ["crimp/cells.neighbours", "crimp/cells.corners"], plainKeys := false, apart := false, laid := [("crimp/cells.neighbours", laid_crimp_cells_neighbours), ("crimp/cells.corners", laid_crimp_cells_corners)] }
def SheetsKnownSaid : Prop := sheetsKnownRow.holds Tryd.pinned (OpenSpec.ofChange sheetsKnownSpec)

/-- ITS FALSE NEIGHBOUR: 'it returns false'. Refute it at one input. -/
def sheetsKnownWrong : ChangeSpec := { name := "sheetsKnown", fn := fun _ => fun
  | [] => { results := [.lit (.bool false)], args := [] }
  | _ => none }
def SheetsKnownWrongFalsely : Prop := sheetsKnownRow.holds Tryd.pinned (OpenSpec.ofChange sheetsKnownWrong)

/- THE SECOND FORM. 'bulk': how many values and letters a reading holds, each counted each time it is reached (what is shared counts as often as it is met; a slice's spare places count too). A statement '..UptoSaid' is the law's where the arguments, and the package variables that the reading takes, are together of bulk at most 1048576: NARROWER than '..Said'. Prove '..Said' where nothing that the law and all that it calls make is longer than what came in: it says more and counts as full. Else prove '..UptoSaid'. A law counts once. -/
mutual
def uptoBulk {H : Type} : DataW H → Nat
  | .lit (.string bytes) => bytes.length + 1
  | .lit _ => 1
  | .nil => 1
  | .ptr d => uptoBulk d + 1
  | .slice elems spare => uptoBulkAll elems + uptoBulkAll spare + 1
  | .agg parts => uptoBulkAll parts + 1
  | .iface _ d => uptoBulk d + 1
  | .map entries => uptoBulkEntries entries + 1
  | .held _ => 1
def uptoBulkAll {H : Type} : List (DataW H) → Nat
  | [] => 0
  | d :: r => uptoBulk d + uptoBulkAll r
def uptoBulkEntries {H : Type} : List (Lit × DataW H) → Nat
  | [] => 0
  | x :: r => uptoBulkEntry x + uptoBulkEntries r
def uptoBulkEntry {H : Type} : Lit × DataW H → Nat
  | (.string bytes, d) => bytes.length + uptoBulk d + 1
  | (_, d) => uptoBulk d + 1
 end
def uptoSmall : (H : Type) → List (DataW H) → Bool := fun _ ds => decide (uptoBulkAll ds ≤ 1048576)
def OpenSpec.upto (s : _root_.Go.ChangeSpec) : _root_.Go.OpenSpec := { _root_.Go.OpenSpec.ofChange s with cond := some uptoSmall }

/-- 'crimplaw05.SheetsCell', WHERE WHAT IT READS IS OF BULK AT MOST 1048576: true; the input reads as it did. -/
def sheetsCellUptoRow : OpenClaim := { program := "ytaacmbmnlhoghaadoor", sum := "d3e959c322f2bf8551cecc528e5f906c1900c425920cfc25cfa9be36aae2650c", func := "crimp/crimplaw05.SheetsCell", spec := "sheetsCell", unfollowed := true, recurses := true, named := ["crimp/cells.neighbours", "crimp/cells.corners"], plainKeys := false, apart := false, laid := [("crimp/cells.neighbours", laid_crimp_cells_neighbours), ("crimp/cells.corners", laid_crimp_cells_corners)], narrowed := true }
def SheetsCellUptoSaid : Prop := sheetsCellUptoRow.holds Tryd.pinned (OpenSpec.upto sheetsCellSpec)

/-- 'crimplaw05.SheetsNeighbour', WHERE WHAT IT READS IS OF BULK AT MOST 1048576: true; the input reads as it did. -/
def sheetsNeighbourUptoRow : OpenClaim := { program := "ytaacmbmnlhoghaadoor", sum := "d3e959c322f2bf8551cecc528e5f906c1900c425920cfc25cfa9be36aae2650c", func := "crimp/crimplaw05.SheetsNeighbour", spec := "sheetsNeighbour", unfollowed := true, recurses := true, named := ["crimp/cells.neighbours", "crimp/cells.corners"], plainKeys := false, apart := false, laid := [("crimp/cells.neighbours", laid_crimp_cells_neighbours), ("crimp/cells.corners", laid_crimp_cells_corners)], narrowed := true }
def SheetsNeighbourUptoSaid : Prop := sheetsNeighbourUptoRow.holds Tryd.pinned (OpenSpec.upto sheetsNeighbourSpec)

/-- 'crimplaw05.SheetsUnits', WHERE WHAT IT READS IS OF BULK AT MOST 1048576: true; the input reads as it did. -/
def sheetsUnitsUptoRow : OpenClaim := { program := "ytaacmbmnlhoghaadoor", sum := "d3e959c322f2bf8551cecc528e5f906c1900c425920cfc25cfa9be36aae2650c", func := "crimp/crimplaw05.SheetsUnits", spec := "sheetsUnits", unfollowed := true, recurses := true, named := ["crimp/cells.neighbours", "crimp/cells.corners"], plainKeys := false, apart := false, laid := [("crimp/cells.neighbours", laid_crimp_cells_neighbours), ("crimp/cells.corners", laid_crimp_cells_corners)], narrowed := true }
def SheetsUnitsUptoSaid : Prop := sheetsUnitsUptoRow.holds Tryd.pinned (OpenSpec.upto sheetsUnitsSpec)

/-- 'crimplaw05.SheetsNone', WHERE WHAT IT READS IS OF BULK AT MOST 1048576: true; the input reads as it did. -/
def sheetsNoneUptoRow : OpenClaim := { program := "ytaacmbmnlhoghaadoor", sum := "d3e959c322f2bf8551cecc528e5f906c1900c425920cfc25cfa9be36aae2650c", func := "crimp/crimplaw05.SheetsNone", spec := "sheetsNone", unfollowed := true, recurses := true, named := ["crimp/cells.neighbours", "crimp/cells.corners"], plainKeys := false, apart := false, laid := [("crimp/cells.neighbours", laid_crimp_cells_neighbours), ("crimp/cells.corners", laid_crimp_cells_corners)], narrowed := true }
def SheetsNoneUptoSaid : Prop := sheetsNoneUptoRow.holds Tryd.pinned (OpenSpec.upto sheetsNoneSpec)

/-- 'crimplaw05.SheetsKnown', WHERE WHAT IT READS IS OF BULK AT MOST 1048576: true; the input reads as it did. -/
def sheetsKnownUptoRow : OpenClaim := { program := "ytaacmbmnlhoghaadoor", sum := "d3e959c322f2bf8551cecc528e5f906c1900c425920cfc25cfa9be36aae2650c", func := "crimp/crimplaw05.SheetsKnown", spec := "sheetsKnown", unfollowed := true, recurses := true, named := ["crimp/cells.neighbours", "crimp/cells.corners"], plainKeys := false, apart := false, laid := [("crimp/cells.neighbours", laid_crimp_cells_neighbours), ("crimp/cells.corners", laid_crimp_cells_corners)], narrowed := true }
def SheetsKnownUptoSaid : Prop := sheetsKnownUptoRow.holds Tryd.pinned (OpenSpec.upto sheetsKnownSpec)

end Rows
end Go.Proofs.YtaacmbmnlhoghaaDoor
