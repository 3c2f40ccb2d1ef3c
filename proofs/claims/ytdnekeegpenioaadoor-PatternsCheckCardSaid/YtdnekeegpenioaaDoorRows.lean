/-
  NARROWER THAN 'FOR EVERY INPUT', by the rows' own cells (each row's printed sentence says how): PatternsCheck: laid · PatternsSet: laid · PatternsOrder: laid · PatternsSame: laid · PatternsTurned: laid.
  DERIVED. THE GIVEN ROWS OF THIS SEAT. 5 by the template 'for every input the law returns true; each argument reads behind the call as it read before'; 0 by the template 'total and deterministic' (their statements: YtdnekeegpenioaaDoorTotals.lean).
  GIVEN WITH THE SEED: the statements are not yours to turn. If you find one false, say at which input.
  Laid BY PROGRAM, IN A SANDBOX (cutbox-rows.mjs): the forced cells as the released guide's own fill.sh prints them over the translation 9439d260667e8d6a… (all of the seat's roots in one cut). By AI agents, Wed Nov 11 2026. No macro, syntax, notation, axiom, sorry.
-/
import Derived.Test.YtdnekeegpenioaaDoorChecked
import GoSem.Claim
import GoSem.ClaimJoined
import GoSem.ClaimMapViews
import Derived.JoinedTies
import Derived.KernelRfl
namespace Go.Proofs.YtdnekeegpenioaaDoor
/- THE CELL 'sum', in the pinned program and in every row, IS THE sha256 OF THE DUMP (.gsa) THAT YtdnekeegpenioaaDoorProg.lean LOADS. Nothing in Lean hashes anything: it is a label: what it is worth is what the hold of that sum in a sandbox is worth. -/
noncomputable def Tryd.pinned : Pinned := { name := "ytdnekeegpenioaadoor", sum := "9439d260667e8d6ab769f8f92ee4a6d282f464688252b9e0fafdb0b65e6c2f00", checked := Tryd.checked }
namespace Rows
def none {H : Type} : Left H := { results := [], args := [] }

/- WHAT THE LISTED PACKAGE-LEVEL VARIABLES READ AS WHEN THE CALL BEGINS. Each datum BY PROGRAM (the guide's laid-datum.mjs) off the statement by which the dump's own 'gosem.cut.vars' lays the variable. In a bare row this is a premise. The card (YtdnekeegpenioaaDoorCards.lean) ties it to the program's text. -/
def laid_crimp_cells_neighbours {H : Type} : DataW H := .agg [.agg [.agg [.lit (.int .i64 0), .lit (.int .i64 (-1)), .lit (.int .u8 2)], .agg [.lit (.int .i64 0), .lit (.int .i64 0), .lit (.int .u8 1)], .agg [.lit (.int .i64 0), .lit (.int .i64 0), .lit (.int .u8 3)]], .agg [.agg [.lit (.int .i64 1), .lit (.int .i64 0), .lit (.int .u8 3)], .agg [.lit (.int .i64 0), .lit (.int .i64 0), .lit (.int .u8 0)], .agg [.lit (.int .i64 0), .lit (.int .i64 0), .lit (.int .u8 2)]], .agg [.agg [.lit (.int .i64 0), .lit (.int .i64 1), .lit (.int .u8 0)], .agg [.lit (.int .i64 0), .lit (.int .i64 0), .lit (.int .u8 3)], .agg [.lit (.int .i64 0), .lit (.int .i64 0), .lit (.int .u8 1)]], .agg [.agg [.lit (.int .i64 (-1)), .lit (.int .i64 0), .lit (.int .u8 1)], .agg [.lit (.int .i64 0), .lit (.int .i64 0), .lit (.int .u8 2)], .agg [.lit (.int .i64 0), .lit (.int .i64 0), .lit (.int .u8 0)]]]

/-- 'crimplaw06.PatternsCheck': WHATEVER THE INPUT: true; the input reads as it did. -/
def patternsCheckSpec : ChangeSpec := { name := "patternsCheck", fn := fun _ => fun
  | [d1, d2, d3] => { results := [.lit (.bool true)], args := [d1, d2, d3] }
  | _ => none }
def patternsCheckRow : OpenClaim := { program := "ytdnekeegpenioaadoor", sum := "9439d260667e8d6ab769f8f92ee4a6d282f464688252b9e0fafdb0b65e6c2f00", func := "crimp/crimplaw06.PatternsCheck", spec := "patternsCheck", inPlace := ["slices.overlaps[crimp/patterns.Crease]"], unfollowed := true, recurses := true, named := ["crimp/cells.neighbours"], apart := false, laid := [("crimp/cells.neighbours", laid_crimp_cells_neighbours)] }
def PatternsCheckSaid : Prop := patternsCheckRow.holds Tryd.pinned (OpenSpec.ofChange patternsCheckSpec)

/-- ITS FALSE NEIGHBOUR: 'it returns false'. Refute it at one input. -/
def patternsCheckWrong : ChangeSpec := { name := "patternsCheck", fn := fun _ => fun
  | [d1, d2, d3] => { results := [.lit (.bool false)], args := [d1, d2, d3] }
  | _ => none }
def PatternsCheckWrongFalsely : Prop := patternsCheckRow.holds Tryd.pinned (OpenSpec.ofChange patternsCheckWrong)

/-- 'crimplaw06.PatternsSet': WHATEVER THE INPUT: true; the input reads as it did. -/
def patternsSetSpec : ChangeSpec := { name := "patternsSet", fn := fun _ => fun
  | [d1, d2, d3] => { results := [.lit (.bool true)], args := [d1, d2, d3] }
  | _ => none }
def patternsSetRow : OpenClaim := { program := "ytdnekeegpenioaadoor", sum := "9439d260667e8d6ab769f8f92ee4a6d282f464688252b9e0fafdb0b65e6c2f00", func := "crimp/crimplaw06.PatternsSet", spec := "patternsSet", inPlace := ["slices.overlaps[crimp/patterns.Crease]"], unfollowed := true, recurses := true, named := ["crimp/cells.neighbours"], apart := false, laid := [("crimp/cells.neighbours", laid_crimp_cells_neighbours)] }
def PatternsSetSaid : Prop := patternsSetRow.holds Tryd.pinned (OpenSpec.ofChange patternsSetSpec)

/-- ITS FALSE NEIGHBOUR: 'it returns false'. Refute it at one input. -/
def patternsSetWrong : ChangeSpec := { name := "patternsSet", fn := fun _ => fun
  | [d1, d2, d3] => { results := [.lit (.bool false)], args := [d1, d2, d3] }
  | _ => none }
def PatternsSetWrongFalsely : Prop := patternsSetRow.holds Tryd.pinned (OpenSpec.ofChange patternsSetWrong)

/-- 'crimplaw06.PatternsOrder': WHATEVER THE INPUT: true; the input reads as it did. -/
def patternsOrderSpec : ChangeSpec := { name := "patternsOrder", fn := fun _ => fun
  | [d1, d2, d3] => { results := [.lit (.bool true)], args := [d1, d2, d3] }
  | _ => none }
def patternsOrderRow : OpenClaim := { program := "ytdnekeegpenioaadoor", sum := "9439d260667e8d6ab769f8f92ee4a6d282f464688252b9e0fafdb0b65e6c2f00", func := "crimp/crimplaw06.PatternsOrder", spec := "patternsOrder", inPlace := ["slices.overlaps[crimp/patterns.Crease]"], unfollowed := true, recurses := true, named := ["crimp/cells.neighbours"], apart := false, laid := [("crimp/cells.neighbours", laid_crimp_cells_neighbours)] }
def PatternsOrderSaid : Prop := patternsOrderRow.holds Tryd.pinned (OpenSpec.ofChange patternsOrderSpec)

/-- ITS FALSE NEIGHBOUR: 'it returns false'. Refute it at one input. -/
def patternsOrderWrong : ChangeSpec := { name := "patternsOrder", fn := fun _ => fun
  | [d1, d2, d3] => { results := [.lit (.bool false)], args := [d1, d2, d3] }
  | _ => none }
def PatternsOrderWrongFalsely : Prop := patternsOrderRow.holds Tryd.pinned (OpenSpec.ofChange patternsOrderWrong)

/-- 'crimplaw06.PatternsSame': WHATEVER THE INPUT: true; the input reads as it did. -/
def patternsSameSpec : ChangeSpec := { name := "patternsSame", fn := fun _ => fun
  | [d1, d2, d3] => { results := [.lit (.bool true)], args := [d1, d2, d3] }
  | _ => none }
def patternsSameRow : OpenClaim := { program := "ytdnekeegpenioaadoor", sum := "9439d260667e8d6ab769f8f92ee4a6d282f464688252b9e0fafdb0b65e6c2f00", func := "crimp/crimplaw06.PatternsSame", spec := "patternsSame", inPlace := ["slices.overlaps[crimp/patterns.Crease]"], unfollowed := true, recurses := true, named := ["crimp/cells.neighbours"], apart := false, laid := [("crimp/cells.neighbours", laid_crimp_cells_neighbours)] }
def PatternsSameSaid : Prop := patternsSameRow.holds Tryd.pinned (OpenSpec.ofChange patternsSameSpec)

/-- ITS FALSE NEIGHBOUR: 'it returns false'. Refute it at one input. -/
def patternsSameWrong : ChangeSpec := { name := "patternsSame", fn := fun _ => fun
  | [d1, d2, d3] => { results := [.lit (.bool false)], args := [d1, d2, d3] }
  | _ => none }
def PatternsSameWrongFalsely : Prop := patternsSameRow.holds Tryd.pinned (OpenSpec.ofChange patternsSameWrong)

/-- 'crimplaw06.PatternsTurned': WHATEVER THE INPUT: true; the input reads as it did. -/
def patternsTurnedSpec : ChangeSpec := { name := "patternsTurned", fn := fun _ => fun
  | [d] => { results := [.lit (.bool true)], args := [d] }
  | _ => none }
def patternsTurnedRow : OpenClaim := { program := "ytdnekeegpenioaadoor", sum := "9439d260667e8d6ab769f8f92ee4a6d282f464688252b9e0fafdb0b65e6c2f00", func := "crimp/crimplaw06.PatternsTurned", spec := "patternsTurned", inPlace := ["slices.overlaps[crimp/patterns.Crease]"], unfollowed := true, recurses := true, named := ["crimp/cells.neighbours"], apart := false, laid := [("crimp/cells.neighbours", laid_crimp_cells_neighbours)] }
def PatternsTurnedSaid : Prop := patternsTurnedRow.holds Tryd.pinned (OpenSpec.ofChange patternsTurnedSpec)

/-- ITS FALSE NEIGHBOUR: 'it returns false'. Refute it at one input. -/
def patternsTurnedWrong : ChangeSpec := { name := "patternsTurned", fn := fun _ => fun
  | [d] => { results := [.lit (.bool false)], args := [d] }
  | _ => none }
def PatternsTurnedWrongFalsely : Prop := patternsTurnedRow.holds Tryd.pinned (OpenSpec.ofChange patternsTurnedWrong)

/- THE SECOND FORM. 'bulk': how many values and letters a reading holds, each counted each time it is reached (what is shared counts as often as it is met; a slice's spare places count too). A statement '..UptoSaid' is the law's where the arguments, and the package variables that the reading takes, are together of bulk at most 1048576: NARROWER than '..Said'. Prove '..Said' where nothing that the law and all that it calls make is longer than what came in: it says more and counts as full. Else prove '..UptoSaid'. A law counts once. -/
mutual
def uptoBulk {H : Type} : DataW H → Nat
  | .lit (.string bytes) => bytes.length + 1
  | .lit _ => 1
  | .nil => 1
  | .ptr d => uptoBulk d + 1
  | .slice elems spare => uptoBulkAll elems + uptoBulkAll spare + 1
  | .agg parts => uptoBulkAll parts + 1
  | .iface _ d => uptoBulk d + 1
  | .map entries => uptoBulkEntries entries + 1
  | .held _ => 1
def uptoBulkAll {H : Type} : List (DataW H) → Nat
  | [] => 0
  | d :: r => uptoBulk d + uptoBulkAll r
def uptoBulkEntries {H : Type} : List (Lit × DataW H) → Nat
  | [] => 0
  | x :: r => uptoBulkEntry x + uptoBulkEntries r
def uptoBulkEntry {H : Type} : Lit × DataW H → Nat
  | (.string bytes, d) => bytes.length + uptoBulk d + 1
  | (_, d) => uptoBulk d + 1
 end
def uptoSmall : (H : Type) → List (DataW H) → Bool := fun _ ds => decide (uptoBulkAll ds ≤ 1048576)
def OpenSpec.upto (s : _root_.Go.ChangeSpec) : _root_.Go.OpenSpec := { _root_.Go.OpenSpec.ofChange s with cond := some uptoSmall }

/-- 'crimplaw06.PatternsCheck', WHERE WHAT IT READS IS OF BULK AT MOST 1048576: true; the input reads as it did. -/
def patternsCheckUptoRow : OpenClaim := { program := "ytdnekeegpenioaadoor", sum := "9439d260667e8d6ab769f8f92ee4a6d282f464688252b9e0fafdb0b65e6c2f00", func := "crimp/crimplaw06.PatternsCheck", spec := "patternsCheck", inPlace := ["slices.overlaps[crimp/patterns.Crease]"], unfollowed := true, recurses := true, named := ["crimp/cells.neighbours"], apart := false, laid := [("crimp/cells.neighbours", laid_crimp_cells_neighbours)], narrowed := true }
def PatternsCheckUptoSaid : Prop := patternsCheckUptoRow.holds Tryd.pinned (OpenSpec.upto patternsCheckSpec)

/-- 'crimplaw06.PatternsSet', WHERE WHAT IT READS IS OF BULK AT MOST 1048576: true; the input reads as it did. -/
def patternsSetUptoRow : OpenClaim := { program := "ytdnekeegpenioaadoor", sum := "9439d260667e8d6ab769f8f92ee4a6d282f464688252b9e0fafdb0b65e6c2f00", func := "crimp/crimplaw06.PatternsSet", spec := "patternsSet", inPlace := ["slices.overlaps[crimp/patterns.Crease]"], unfollowed := true, recurses := true, named := ["crimp/cells.neighbours"], apart := false, laid := [("crimp/cells.neighbours", laid_crimp_cells_neighbours)], narrowed := true }
def PatternsSetUptoSaid : Prop := patternsSetUptoRow.holds Tryd.pinned (OpenSpec.upto patternsSetSpec)

/-- 'crimplaw06.PatternsOrder', WHERE WHAT IT READS IS OF BULK AT MOST 1048576: true; the input reads as it did. -/
def patternsOrderUptoRow : OpenClaim := { program := "ytdnekeegpenioaadoor", sum := "9439d260667e8d6ab769f8f92ee4a6d282f464688252b9e0fafdb0b65e6c2f00", func := "crimp/crimplaw06.PatternsOrder", spec := "patternsOrder", inPlace := ["slices.overlaps[crimp/patterns.Crease]"], unfollowed := true, recurses := true, named := ["crimp/cells.neighbours"], apart := false, laid := [("crimp/cells.neighbours", laid_crimp_cells_neighbours)], narrowed := true }
def PatternsOrderUptoSaid : Prop := patternsOrderUptoRow.holds Tryd.pinned (OpenSpec.upto patternsOrderSpec)

/-- 'crimplaw06.PatternsSame', WHERE WHAT IT READS IS OF BULK AT MOST 1048576: true; the input reads as it did. -/
def patternsSameUptoRow : OpenClaim := { program := "ytdnekeegpenioaadoor", sum := "9439d260667e8d6ab769f8f92ee4a6d282f464688252b9e0fafdb0b65e6c2f00", func := "crimp/crimplaw06.PatternsSame", spec := "patternsSame", inPlace := ["slices.overlaps[crimp/patterns.Crease]"], unfollowed := true, recurses := true, named := ["crimp/cells.neighbours"], apart := false, laid := [("crimp/cells.neighbours", laid_crimp_cells_neighbours)], narrowed := true }
def PatternsSameUptoSaid : Prop := patternsSameUptoRow.holds Tryd.pinned (OpenSpec.upto patternsSameSpec)

/-- 'crimplaw06.PatternsTurned', WHERE WHAT IT READS IS OF BULK AT MOST 1048576: true; the input reads as it did. -/
def patternsTurnedUptoRow : OpenClaim := { program := "ytdnekeegpenioaadoor", sum := "9439d260667e8d6ab769f8f92ee4a6d282f464688252b9e0fafdb0b65e6c2f00", func := "crimp/crimplaw06.PatternsTurned", spec := "patternsTurned", inPlace := ["slices.overlaps[crimp/patterns.Crease]"], unfollowed := true, recurses := true, named := ["crimp/cells.neighbours"], apart := false, laid := [("crimp/cells.neighbours", laid_crimp_cells_neighbours)], narrowed := true }
def PatternsTurnedUptoSaid : Prop := patternsTurnedUptoRow.holds Tryd.pinned (OpenSpec.upto patternsTurnedSpec)

end Rows
end Go.Proofs.YtdnekeegpenioaaDoor
