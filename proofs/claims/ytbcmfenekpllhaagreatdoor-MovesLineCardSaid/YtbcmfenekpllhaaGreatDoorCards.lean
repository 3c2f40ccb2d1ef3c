/-
  DERIVED. GIVEN WITH THE SEED: THE CARDS: each row of YtbcmfenekpllhaaGreatDoorRows.lean that lists a variable, with what it lists TIED to the program's text (the seventh form; the later family's looks); each row that meets fmt, with fmt's text TOLD by the authors' own Lean function (tested against real Go, not proved from fmt's source: count such statements apart). THE CARD IS WHAT COUNTS. Prove the row's statement (the work); the ties are given (YtbcmfenekpllhaaGreatDoorTie.lean); close each card by the builder's one call (the guide's Derived/Test/ToyasCard.lean, 'card_holds'). Laid BY PROGRAM, IN A SANDBOX (cutbox-door.mjs). By AI agents, Wed Nov 11 2026. No macro, syntax, notation, axiom, sorry.
-/
import Derived.Test.YtbcmfenekpllhaaGreatDoorRows
import GoSem.ClaimSeven
namespace Go.Proofs.YtbcmfenekpllhaaGreatDoor
namespace Rows

/-- THE TIED CARD OF 'crimplaw02.MovesLine'. -/
def movesLineCard : Claim7 := { stood := { row := movesLineRow, standIns := [], harness := (true, "ffd95f7cc7ee549c6b18c8c6edf1b8b3e1b6d18aeebe4c2f35dc71eed202e0da"), looks := true }, kinds := [], alts := [], laidByText := true, laidKinds := [.data, .data, .data, .data, .sentinel, .sentinel, .data, .pinned], laidTests := true, laidLooks := .later }
def MovesLineCardSaid : Prop := Claim7.holds Tryz.pinned (.plain (OpenSpec.ofChange movesLineSpec)) movesLineCard

/-- THE TIED CARD OF 'crimplaw02.MovesKnown'. -/
def movesKnownCard : Claim7 := { stood := { row := movesKnownRow, standIns := [], harness := (true, "ffd95f7cc7ee549c6b18c8c6edf1b8b3e1b6d18aeebe4c2f35dc71eed202e0da"), looks := true }, kinds := [], alts := [], laidByText := true, laidKinds := [.data, .data, .data, .data, .sentinel, .sentinel, .data, .pinned], laidTests := true, laidLooks := .later }
def MovesKnownCardSaid : Prop := Claim7.holds Tryz.pinned (.plain (OpenSpec.ofChange movesKnownSpec)) movesKnownCard

/-- THE SECOND FORM's CARD OF 'crimplaw02.MovesLine'. -/
def movesLineUptoCard : Claim7 := { stood := { row := movesLineUptoRow, standIns := [], harness := (true, "ffd95f7cc7ee549c6b18c8c6edf1b8b3e1b6d18aeebe4c2f35dc71eed202e0da"), looks := true }, kinds := [], alts := [], laidByText := true, laidKinds := [.data, .data, .data, .data, .sentinel, .sentinel, .data, .pinned], laidTests := true, laidLooks := .later }
def MovesLineUptoCardSaid : Prop := Claim7.holds Tryz.pinned (.plain (OpenSpec.upto movesLineSpec)) movesLineUptoCard

/-- THE SECOND FORM's CARD OF 'crimplaw02.MovesKnown'. -/
def movesKnownUptoCard : Claim7 := { stood := { row := movesKnownUptoRow, standIns := [], harness := (true, "ffd95f7cc7ee549c6b18c8c6edf1b8b3e1b6d18aeebe4c2f35dc71eed202e0da"), looks := true }, kinds := [], alts := [], laidByText := true, laidKinds := [.data, .data, .data, .data, .sentinel, .sentinel, .data, .pinned], laidTests := true, laidLooks := .later }
def MovesKnownUptoCardSaid : Prop := Claim7.holds Tryz.pinned (.plain (OpenSpec.upto movesKnownSpec)) movesKnownUptoCard
end Rows
end Go.Proofs.YtbcmfenekpllhaaGreatDoor
