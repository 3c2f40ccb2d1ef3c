/-
  Says: what the calls of CellsWay give.
-/
import Derived.Test.YtgkiliijefkcaaaDoorCm2
import Derived.Test.YtgkiliijefkcaaaDoorCv0
import Derived.Test.YtgkiliijefkcaaaDoorMv6
import Derived.Test.YtgkiliijefkcaaaDoorCb
set_option linter.unusedVariables false
set_option linter.unusedSimpArgs false
namespace Go.Proofs.YtgkiliijefkcaaaDoor
open Go Go.RowKit

attribute [local go_sem] World.cell?_alloc_some frozen?_alloc_cells fz0 fz1 fz2 fz3 fz4 fz5

set_option maxRecDepth 100000 in
set_option maxHeartbeats 2000000 in
theorem cof2_any (x y q : Int) (w : World) (x1 : -128 ≤ x) (x2 : x ≤ 127) (y1 : -128 ≤ y) (y2 : y ≤ 127) (q1 : 0 ≤ q) (q2 : q ≤ 255) : Calls Tryd.prog 32 #[.agg #[.int .i8 x, .int .i8 y, .int .u8 q]] w fun e w' => e = .returned (cl x y (q % 4)) ∧ Below w.heap.size w w' := by
  go_enter Tryd.func32, Tryd.ntmps32
  go_wp2_with (first | (go_at_call 39; with_reducible refine (cell_any _ _ _ _).mono ?_; rintro e wx ⟨rfl, hx⟩; obtain ⟨ux, rfl⟩ := after hx; clear hx) | fail)
  exact bodyPost_ret (v := cl x y (q % 4)) (by simp [results, Tryd.results32, go_sem]) rfl ⟨rfl, (by repeat first | (with_reducible exact Below.refl _ _) | (with_reducible refine below_on ?_ _) | (with_reducible refine below_alloc ?_ _) | (with_reducible refine below_set ?_ (by simp; try omega) _))⟩
theorem mof_any (k c : Int) (w : World) (h1 : 1 ≤ k) (h2 : k ≤ 4) (h3 : -4096 ≤ c) (h4 : c ≤ 4096) : Calls Tryd.prog 34 #[ln k c] w fun e w' => e = .returned (.tuple #[mv (rfT k) (rfX k c) (rfY k c), .int .i64 0]) ∧ Below w.heap.size w w' := by
  obtain rfl | rfl | rfl | rfl : k = 1 ∨ k = 2 ∨ k = 3 ∨ k = 4 := by omega
  · exact mof_1 c w h3 h4
  · exact mof_2 c w h3 h4
  · exact mof_3 c w h3 h4
  · exact mof_4 c w h3 h4

end Go.Proofs.YtgkiliijefkcaaaDoor
