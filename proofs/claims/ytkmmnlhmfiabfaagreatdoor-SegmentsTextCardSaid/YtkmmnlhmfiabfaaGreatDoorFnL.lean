/-
  Says: what limited and slope give.
-/
import Derived.Test.YtkmmnlhmfiabfaaGreatDoorFnB
set_option linter.unusedVariables false
set_option linter.unusedSimpArgs false
namespace Go.Proofs.YtkmmnlhmfiabfaaGreatDoor
open Go Go.RowKit

end Go.Proofs.YtkmmnlhmfiabfaaGreatDoor
