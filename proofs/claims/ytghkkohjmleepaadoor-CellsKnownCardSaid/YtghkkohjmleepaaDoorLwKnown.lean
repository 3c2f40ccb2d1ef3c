/-
  Says: CellsKnown answers true.
-/
import Derived.Test.YtghkkohjmleepaaDoorKz
import Derived.Test.YtghkkohjmleepaaDoorKj
import Derived.KernelRfl
set_option maxRecDepth 1000000
set_option linter.unusedVariables false
set_option linter.unusedSimpArgs false
namespace Go.Proofs.YtghkkohjmleepaaDoor
open Go Go.Vx

open Go.RowKit
theorem cellsknown_law (w : World) (hL : Lay w) : Calls Tryd.prog 3 #[] w fun r w' => r = .returned (.bool true) ∧ Below w.heap.size w w' :=
  ((entries_of (tabs_G _) (size_V _) (floor_V _) (orcI_of (tabs_G _) (knownT_holds (typ w)) index_ok) (known_run (typ w))) _ (List.mem_singleton.2 rfl)).1.calls (lies_G hL)

end Go.Proofs.YtghkkohjmleepaaDoor
