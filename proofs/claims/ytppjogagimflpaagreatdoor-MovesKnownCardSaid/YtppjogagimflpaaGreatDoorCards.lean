/-
  DERIVED. GIVEN WITH THE SEED: THE CARDS: each row of YtppjogagimflpaaGreatDoorRows.lean that lists a variable, with what it lists TIED to the program's text (the seventh form; the later family's looks); each row that meets fmt, with fmt's text TOLD by the authors' own Lean function (tested against real Go, not proved from fmt's source: count such statements apart). THE CARD IS WHAT COUNTS. Prove the row's statement (the work); the ties are given (YtppjogagimflpaaGreatDoorTie.lean); close each card by the builder's one call (the guide's Derived/Test/ToyasCard.lean, 'card_holds'). Laid BY PROGRAM, IN A SANDBOX (cutbox-door.mjs). By AI agents, Wed Nov 11 2026. No macro, syntax, notation, axiom, sorry.
-/
import Derived.Test.YtppjogagimflpaaGreatDoorRows
import GoSem.ClaimSeven
namespace Go.Proofs.YtppjogagimflpaaGreatDoor
namespace Rows

/-- THE TIED CARD OF 'crimplaw02.MovesKnown'. -/
def movesKnownCard : Claim7 := { stood := { row := movesKnownRow, standIns := [], harness := (true, "72520e72d233d677b41a7570b533c559c20736aa6e4734884913c54ae4d20734"), looks := true }, kinds := [], alts := [], laidByText := true, laidKinds := [.data, .data, .data, .data, .sentinel, .sentinel, .data, .pinned], laidTests := true, laidLooks := .later }
def MovesKnownCardSaid : Prop := Claim7.holds Tryz.pinned (.plain (OpenSpec.ofChange movesKnownSpec)) movesKnownCard

/-- THE SECOND FORM's CARD OF 'crimplaw02.MovesKnown'. -/
def movesKnownUptoCard : Claim7 := { stood := { row := movesKnownUptoRow, standIns := [], harness := (true, "72520e72d233d677b41a7570b533c559c20736aa6e4734884913c54ae4d20734"), looks := true }, kinds := [], alts := [], laidByText := true, laidKinds := [.data, .data, .data, .data, .sentinel, .sentinel, .data, .pinned], laidTests := true, laidLooks := .later }
def MovesKnownUptoCardSaid : Prop := Claim7.holds Tryz.pinned (.plain (OpenSpec.upto movesKnownSpec)) movesKnownUptoCard
end Rows
end Go.Proofs.YtppjogagimflpaaGreatDoor
