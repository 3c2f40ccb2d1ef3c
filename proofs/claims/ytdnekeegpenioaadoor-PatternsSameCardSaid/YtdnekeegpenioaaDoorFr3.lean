/-
  Says: the state behind the second piece of PatternsSame.
-/
import Derived.Test.YtdnekeegpenioaaDoorFr2
set_option linter.unusedVariables false
set_option linter.unusedSimpArgs false
namespace Go.Proofs.YtdnekeegpenioaaDoor
open Go Go.RowKit

def P2 (w : World) (a' : Act) (W' : World) : Prop := ∃ (b7 b8 : Nat) (pa pb : Option Addr) (wa ha wb hb : Int) (na ca nb cb : Nat) (cA eA kA cB eB kB : Nat → Int), S7 b7 b8 a' ∧ AB w b7 b8 pa pb wa ha wb hb na ca nb cb cA eA kA cB eB kB W'

end Go.Proofs.YtdnekeegpenioaaDoor
