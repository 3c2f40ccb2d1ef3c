/-
  Says: what the string functions answer, as a table.
-/
import Derived.Test.YtkmmnlhmfiabfaaGreatDoorKt
import Derived.KernelRfl
set_option maxRecDepth 1000000
set_option linter.unusedVariables false
set_option linter.unusedSimpArgs false
namespace Go.Proofs.YtkmmnlhmfiabfaaGreatDoor
open Go Go.Vx

noncomputable def sKs : List Ent := [(28, [vs [109, 32, 120, 32, 49, 32, 48, 32, 52]], vp [va [vu 1, vu 1, vi 1, vi 0, vi 4], vi 0]), (28, [vs [109, 32, 120, 32, 49, 32, 52, 32, 48]], vp [va [vu 0, vu 0, vi 0, vi 0, vi 0], vi 4]), (28, [vs [113, 32, 120, 32, 49, 32, 48, 32, 52]], vp [va [vu 0, vu 0, vi 0, vi 0, vi 0], vi 4])]

end Go.Proofs.YtkmmnlhmfiabfaaGreatDoor
