/-
  Says: SegmentsText at what is too long; Text of the reference.
-/
import Derived.Test.YtkmmnlhmfiabfaaGreatDoorLv7
import Derived.Test.YtkmmnlhmfiabfaaGreatDoorSg4
import Derived.Test.YtkmmnlhmfiabfaaGreatDoorSg1
import Derived.Test.YtkmmnlhmfiabfaaGreatDoorRfA
import Derived.Deep.RegionHeld3
import Derived.RowKit3
import Derived.Test.YtkmmnlhmfiabfaaGreatDoorSg21
import Derived.Test.YtkmmnlhmfiabfaaGreatDoorSg22
import Derived.Test.YtkmmnlhmfiabfaaGreatDoorSg23
set_option linter.unusedVariables false
set_option linter.unusedSimpArgs false
namespace Go.Proofs.YtkmmnlhmfiabfaaGreatDoor
open Go Go.RowKit

attribute [local go_sem] World.cell?_alloc_some frozen?_alloc_cells fz0 fz1 fz2 fz3 fz4 fz5

theorem rt7_ok (k l c f t : Int) (w : World) (a1 : 1 ≤ k) (a2 : k ≤ 3) (b1 : 1 ≤ l) (b2 : l ≤ 4) (b3 : -4096 ≤ c) (b4 : c ≤ 4096) (e1 : f < t) (e2 : -4096 ≤ f) (e3 : t ≤ 4096) : Calls Tryz.prog 27 #[sg k l c f t] w fun e w' => e = .returned (.string ⟨(textS k l c f t).toArray⟩) ∧ Below w.heap.size w w' := by
  obtain rfl | rfl | rfl : k = 1 ∨ k = 2 ∨ k = 3 := by omega
  · exact rt7_1 l c f t w b1 b2 b3 b4 e1 e2 e3
  · exact rt7_2 l c f t w b1 b2 b3 b4 e1 e2 e3
  · exact rt7_3 l c f t w b1 b2 b3 b4 e1 e2 e3

set_option maxRecDepth 100000 in
set_option maxHeartbeats 8000000 in
theorem stx_long (k l c f t : Int) (s : ByteArray) (w : World) (hl : 40 < (s.size : Int)) : Calls Tryz.prog 8 #[sg k l c f t, .string s] w fun e w' => e = .returned (.bool true) ∧ Below w.heap.size w w' := by
  go_enter Tryz.func8, Tryz.ntmps8
  go_wp2_with fail
  go_ret
  exact ⟨rfl, (by repeat first | (with_reducible exact Below.refl _ _) | (with_reducible refine below_on ?_ _) | (with_reducible refine below_alloc ?_ _) | (with_reducible refine below_set ?_ (by simp; try omega) _))⟩

end Go.Proofs.YtkmmnlhmfiabfaaGreatDoor
