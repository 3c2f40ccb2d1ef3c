/-
  Says: the examples of the chapter hold.
-/
import Derived.Test.YtkmmnlhmfiabfaaGreatDoorKSs
import Derived.Test.YtkmmnlhmfiabfaaGreatDoorKv
import Derived.KernelRfl
set_option maxRecDepth 1000000
set_option linter.unusedVariables false
set_option linter.unusedSimpArgs false
namespace Go.Proofs.YtkmmnlhmfiabfaaGreatDoor
open Go Go.Vx

open Go.RowKit
attribute [local instance] anySyms stdKeeps
theorem lives7_known (t : Nat → TypeId) : Ents Tryz.prog (tabG t) [(13, [], vt)] :=
  ents_of (tabs_G t) (size_V t) (floor_V t) (valOrc_ok (base_G t) (orcL_ok (tabs_G t) (sKs_ok t))) (lives_run t)
theorem lives7_ok (w : World) (h : All w) : Calls Tryz.prog 13 #[] w fun e w' => e = .returned (.bool true) ∧ Below w.heap.size w w' :=
  (lives7_known (typ w) (13, [], vt) (List.mem_singleton.2 rfl)).1.calls (lies_G h)

end Go.Proofs.YtkmmnlhmfiabfaaGreatDoor
