/-
  DERIVED. GIVEN WITH THE SEED: THE CARDS: each row of YtdnekeegpenioaaDoorRows.lean that lists a variable, with what it lists TIED to the program's text (the seventh form; the later family's looks); each row that meets fmt, with fmt's text TOLD by the authors' own Lean function (tested against real Go, not proved from fmt's source: count such statements apart). THE CARD IS WHAT COUNTS. Prove the row's statement (the work); the ties are given (YtdnekeegpenioaaDoorTie.lean); close each card by the builder's one call (the guide's Derived/Test/ToyasCard.lean, 'card_holds'). Laid BY PROGRAM, IN A SANDBOX (cutbox-door.mjs). By AI agents, Wed Nov 11 2026. No macro, syntax, notation, axiom, sorry.
-/
import Derived.Test.YtdnekeegpenioaaDoorRows
import GoSem.ClaimSeven
namespace Go.Proofs.YtdnekeegpenioaaDoor
namespace Rows

/-- THE TIED CARD OF 'crimplaw06.PatternsCheck'. -/
def patternsCheckCard : Claim7 := { stood := { row := patternsCheckRow, standIns := [], harness := (true, "f2d1c285a3929898d6d7996f2f9f906a1c445dcd9ee6330c0b396877852a3be1"), looks := false }, kinds := [], alts := [], laidByText := true, laidKinds := [.data], laidTests := true, laidLooks := .later }
def PatternsCheckCardSaid : Prop := Claim7.holds Tryd.pinned (.plain (OpenSpec.ofChange patternsCheckSpec)) patternsCheckCard

/-- THE TIED CARD OF 'crimplaw06.PatternsSet'. -/
def patternsSetCard : Claim7 := { stood := { row := patternsSetRow, standIns := [], harness := (true, "f2d1c285a3929898d6d7996f2f9f906a1c445dcd9ee6330c0b396877852a3be1"), looks := false }, kinds := [], alts := [], laidByText := true, laidKinds := [.data], laidTests := true, laidLooks := .later }
def PatternsSetCardSaid : Prop := Claim7.holds Tryd.pinned (.plain (OpenSpec.ofChange patternsSetSpec)) patternsSetCard

/-- THE TIED CARD OF 'crimplaw06.PatternsOrder'. -/
def patternsOrderCard : Claim7 := { stood := { row := patternsOrderRow, standIns := [], harness := (true, "f2d1c285a3929898d6d7996f2f9f906a1c445dcd9ee6330c0b396877852a3be1"), looks := false }, kinds := [], alts := [], laidByText := true, laidKinds := [.data], laidTests := true, laidLooks := .later }
def PatternsOrderCardSaid : Prop := Claim7.holds Tryd.pinned (.plain (OpenSpec.ofChange patternsOrderSpec)) patternsOrderCard

/-- THE TIED CARD OF 'crimplaw06.PatternsSame'. -/
def patternsSameCard : Claim7 := { stood := { row := patternsSameRow, standIns := [], harness := (true, "f2d1c285a3929898d6d7996f2f9f906a1c445dcd9ee6330c0b396877852a3be1"), looks := false }, kinds := [], alts := [], laidByText := true, laidKinds := [.data], laidTests := true, laidLooks := .later }
def PatternsSameCardSaid : Prop := Claim7.holds Tryd.pinned (.plain (OpenSpec.ofChange patternsSameSpec)) patternsSameCard

/-- THE TIED CARD OF 'crimplaw06.PatternsTurned'. -/
def patternsTurnedCard : Claim7 := { stood := { row := patternsTurnedRow, standIns := [], harness := (true, "f2d1c285a3929898d6d7996f2f9f906a1c445dcd9ee6330c0b396877852a3be1"), looks := false }, kinds := [], alts := [], laidByText := true, laidKinds := [.data], laidTests := true, laidLooks := .later }
def PatternsTurnedCardSaid : Prop := Claim7.holds Tryd.pinned (.plain (OpenSpec.ofChange patternsTurnedSpec)) patternsTurnedCard

/-- THE SECOND FORM's CARD OF 'crimplaw06.PatternsCheck'. -/
def patternsCheckUptoCard : Claim7 := { stood := { row := patternsCheckUptoRow, standIns := [], harness := (true, "f2d1c285a3929898d6d7996f2f9f906a1c445dcd9ee6330c0b396877852a3be1"), looks := false }, kinds := [], alts := [], laidByText := true, laidKinds := [.data], laidTests := true, laidLooks := .later }
def PatternsCheckUptoCardSaid : Prop := Claim7.holds Tryd.pinned (.plain (OpenSpec.upto patternsCheckSpec)) patternsCheckUptoCard

/-- THE SECOND FORM's CARD OF 'crimplaw06.PatternsSet'. -/
def patternsSetUptoCard : Claim7 := { stood := { row := patternsSetUptoRow, standIns := [], harness := (true, "f2d1c285a3929898d6d7996f2f9f906a1c445dcd9ee6330c0b396877852a3be1"), looks := false }, kinds := [], alts := [], laidByText := true, laidKinds := [.data], laidTests := true, laidLooks := .later }
def PatternsSetUptoCardSaid : Prop := Claim7.holds Tryd.pinned (.plain (OpenSpec.upto patternsSetSpec)) patternsSetUptoCard

/-- THE SECOND FORM's CARD OF 'crimplaw06.PatternsOrder'. -/
def patternsOrderUptoCard : Claim7 := { stood := { row := patternsOrderUptoRow, standIns := [], harness := (true, "f2d1c285a3929898d6d7996f2f9f906a1c445dcd9ee6330c0b396877852a3be1"), looks := false }, kinds := [], alts := [], laidByText := true, laidKinds := [.data], laidTests := true, laidLooks := .later }
def PatternsOrderUptoCardSaid : Prop := Claim7.holds Tryd.pinned (.plain (OpenSpec.upto patternsOrderSpec)) patternsOrderUptoCard

/-- THE SECOND FORM's CARD OF 'crimplaw06.PatternsSame'. -/
def patternsSameUptoCard : Claim7 := { stood := { row := patternsSameUptoRow, standIns := [], harness := (true, "f2d1c285a3929898d6d7996f2f9f906a1c445dcd9ee6330c0b396877852a3be1"), looks := false }, kinds := [], alts := [], laidByText := true, laidKinds := [.data], laidTests := true, laidLooks := .later }
def PatternsSameUptoCardSaid : Prop := Claim7.holds Tryd.pinned (.plain (OpenSpec.upto patternsSameSpec)) patternsSameUptoCard

/-- THE SECOND FORM's CARD OF 'crimplaw06.PatternsTurned'. -/
def patternsTurnedUptoCard : Claim7 := { stood := { row := patternsTurnedUptoRow, standIns := [], harness := (true, "f2d1c285a3929898d6d7996f2f9f906a1c445dcd9ee6330c0b396877852a3be1"), looks := false }, kinds := [], alts := [], laidByText := true, laidKinds := [.data], laidTests := true, laidLooks := .later }
def PatternsTurnedUptoCardSaid : Prop := Claim7.holds Tryd.pinned (.plain (OpenSpec.upto patternsTurnedSpec)) patternsTurnedUptoCard
end Rows
end Go.Proofs.YtdnekeegpenioaaDoor
