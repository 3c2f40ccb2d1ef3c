/-
  Says: on which side of an edge's line a cell lies; CellsNeighbour at what has no neighbour.
-/
import Derived.Test.YtgkiliijefkcaaaDoorCv1
import Derived.Test.YtgkiliijefkcaaaDoorCr5
import Derived.Test.YtgkiliijefkcaaaDoorCf3
import Derived.Test.YtgkiliijefkcaaaDoorCf4
import Derived.Test.YtgkiliijefkcaaaDoorCf5
import Derived.Test.YtgkiliijefkcaaaDoorFnS
import Derived.Test.YtgkiliijefkcaaaDoorCb
set_option linter.unusedVariables false
set_option linter.unusedSimpArgs false
namespace Go.Proofs.YtgkiliijefkcaaaDoor
open Go Go.RowKit

attribute [local go_sem] World.cell?_alloc_some frozen?_alloc_cells fz0 fz1 fz2 fz3 fz4 fz5
attribute [local go_sem] eql_pt3

/-- The side of the line of an edge on which its cell lies. -/
def ownS (q e : Int) : Int := if e = 0 then (if q = 0 then 1 else if q = 3 then 1 else 0) else if e = 1 then (if q = 1 then 1 else if q = 2 then 1 else 0) else (if q = 2 then 1 else if q = 3 then 1 else 0)
theorem ownS_two (q e : Int) (q1 : 0 ≤ q) (q2 : q ≤ 3) (e1 : 0 ≤ e) (e2 : e ≤ 2) : ownS q e + ownS (nbQ q e) e = 1 := by
  obtain rfl | rfl | rfl | rfl : q = 0 ∨ q = 1 ∨ q = 2 ∨ q = 3 := by omega
  · obtain rfl | rfl | rfl : e = 0 ∨ e = 1 ∨ e = 2 := by omega
    all_goals rfl
  · obtain rfl | rfl | rfl : e = 0 ∨ e = 1 ∨ e = 2 := by omega
    all_goals rfl
  · obtain rfl | rfl | rfl : e = 0 ∨ e = 1 ∨ e = 2 := by omega
    all_goals rfl
  · obtain rfl | rfl | rfl : e = 0 ∨ e = 1 ∨ e = 2 := by omega
    all_goals rfl
theorem nb_line (x y q e : Int) (q1 : 0 ≤ q) (q2 : q ≤ 3) (e1 : 0 ≤ e) (e2 : e ≤ 2) : lnK (nbQ q e) e = lnK q e ∧ lnC (nbQ q e) e (nbX q e x) (nbY q e y) = lnC q e x y := by
  obtain rfl | rfl | rfl | rfl : q = 0 ∨ q = 1 ∨ q = 2 ∨ q = 3 := by omega
  · obtain rfl | rfl | rfl : e = 0 ∨ e = 1 ∨ e = 2 := by omega
    · refine ⟨?_, ?_⟩ <;> simp only [nbX00, nbY00, nbQ00, lnK20, lnK00, lnC20, lnC00] <;> omega
    · refine ⟨?_, ?_⟩ <;> simp only [nbX01, nbY01, nbQ01, lnK11, lnK01, lnC11, lnC01] <;> omega
    · refine ⟨?_, ?_⟩ <;> simp only [nbX02, nbY02, nbQ02, lnK32, lnK02, lnC32, lnC02] <;> omega
  · obtain rfl | rfl | rfl : e = 0 ∨ e = 1 ∨ e = 2 := by omega
    · refine ⟨?_, ?_⟩ <;> simp only [nbX10, nbY10, nbQ10, lnK30, lnK10, lnC30, lnC10] <;> omega
    · refine ⟨?_, ?_⟩ <;> simp only [nbX11, nbY11, nbQ11, lnK01, lnK11, lnC01, lnC11] <;> omega
    · refine ⟨?_, ?_⟩ <;> simp only [nbX12, nbY12, nbQ12, lnK22, lnK12, lnC22, lnC12] <;> omega
  · obtain rfl | rfl | rfl : e = 0 ∨ e = 1 ∨ e = 2 := by omega
    · refine ⟨?_, ?_⟩ <;> simp only [nbX20, nbY20, nbQ20, lnK00, lnK20, lnC00, lnC20] <;> omega
    · refine ⟨?_, ?_⟩ <;> simp only [nbX21, nbY21, nbQ21, lnK31, lnK21, lnC31, lnC21] <;> omega
    · refine ⟨?_, ?_⟩ <;> simp only [nbX22, nbY22, nbQ22, lnK12, lnK22, lnC12, lnC22] <;> omega
  · obtain rfl | rfl | rfl : e = 0 ∨ e = 1 ∨ e = 2 := by omega
    · refine ⟨?_, ?_⟩ <;> simp only [nbX30, nbY30, nbQ30, lnK10, lnK30, lnC10, lnC30] <;> omega
    · refine ⟨?_, ?_⟩ <;> simp only [nbX31, nbY31, nbQ31, lnK21, lnK31, lnC21, lnC31] <;> omega
    · refine ⟨?_, ?_⟩ <;> simp only [nbX32, nbY32, nbQ32, lnK02, lnK32, lnC02, lnC32] <;> omega

theorem cown_00 (x y : Int) (w : World) (hL : Lay w) (c1 : -4096 ≤ x) (c2 : x ≤ 4096) (c3 : -4096 ≤ y) (c4 : y ≤ 4096) (m1 : -4096 ≤ y) (m2 : y ≤ 4096) : Calls Tryd.prog 22 #[ln 2 (y), cl x y 0] w fun r w' => r = .returned (.tuple #[.int .i64 1, .int .i64 0]) ∧ Below w.heap.size w w' :=
  cside_0 2 (y) x y 0 (1 + 2 * x) (1 + 2 * y) (2 * x) (2 * y) (2 + 2 * x) (2 * y) 1 0 0 w hL (by omega) (by omega) m1 m2 c1 c2 c3 c4 (by omega) (by omega) (fun W h => corner_0 x y W h (by omega) (by omega) (by omega) (by omega)) (fun W => side_high2 (y) (1 + 2 * x) (1 + 2 * y) W (by omega) (by omega) (by omega) (by omega) (by omega) (by omega) (by omega)) (fun W => side_on2 (y) (2 * x) (2 * y) W (by omega) (by omega) (by omega) (by omega) (by omega) (by omega) (by omega)) (fun W => side_on2 (y) (2 + 2 * x) (2 * y) W (by omega) (by omega) (by omega) (by omega) (by omega) (by omega) (by omega)) (by decide)

theorem cown_01 (x y : Int) (w : World) (hL : Lay w) (c1 : -4096 ≤ x) (c2 : x ≤ 4096) (c3 : -4096 ≤ y) (c4 : y ≤ 4096) (m1 : -4096 ≤ x + y + 1) (m2 : x + y + 1 ≤ 4096) : Calls Tryd.prog 22 #[ln 3 (x + y + 1), cl x y 0] w fun r w' => r = .returned (.tuple #[.int .i64 0, .int .i64 0]) ∧ Below w.heap.size w w' :=
  cside_3 3 (x + y + 1) x y 0 (1 + 2 * x) (1 + 2 * y) (2 * x) (2 * y) (2 + 2 * x) (2 * y) 0 (-1) 0 w hL (by omega) (by omega) m1 m2 c1 c2 c3 c4 (by omega) (by omega) (fun W h => corner_0 x y W h (by omega) (by omega) (by omega) (by omega)) (fun W => side_on3 (x + y + 1) (1 + 2 * x) (1 + 2 * y) W (by omega) (by omega) (by omega) (by omega) (by omega) (by omega) (by omega)) (fun W => side_low3 (x + y + 1) (2 * x) (2 * y) W (by omega) (by omega) (by omega) (by omega) (by omega) (by omega) (by omega)) (fun W => side_on3 (x + y + 1) (2 + 2 * x) (2 * y) W (by omega) (by omega) (by omega) (by omega) (by omega) (by omega) (by omega)) (by decide) (by decide) (by decide)

theorem cown_02 (x y : Int) (w : World) (hL : Lay w) (c1 : -4096 ≤ x) (c2 : x ≤ 4096) (c3 : -4096 ≤ y) (c4 : y ≤ 4096) (m1 : -4096 ≤ y - x) (m2 : y - x ≤ 4096) : Calls Tryd.prog 22 #[ln 4 (y - x), cl x y 0] w fun r w' => r = .returned (.tuple #[.int .i64 0, .int .i64 0]) ∧ Below w.heap.size w w' :=
  cside_3 4 (y - x) x y 0 (1 + 2 * x) (1 + 2 * y) (2 * x) (2 * y) (2 + 2 * x) (2 * y) 0 0 (-1) w hL (by omega) (by omega) m1 m2 c1 c2 c3 c4 (by omega) (by omega) (fun W h => corner_0 x y W h (by omega) (by omega) (by omega) (by omega)) (fun W => side_on4 (y - x) (1 + 2 * x) (1 + 2 * y) W (by omega) (by omega) (by omega) (by omega) (by omega) (by omega) (by omega)) (fun W => side_on4 (y - x) (2 * x) (2 * y) W (by omega) (by omega) (by omega) (by omega) (by omega) (by omega) (by omega)) (fun W => side_low4 (y - x) (2 + 2 * x) (2 * y) W (by omega) (by omega) (by omega) (by omega) (by omega) (by omega) (by omega)) (by decide) (by decide) (by decide)

theorem cown_10 (x y : Int) (w : World) (hL : Lay w) (c1 : -4096 ≤ x) (c2 : x ≤ 4096) (c3 : -4096 ≤ y) (c4 : y ≤ 4096) (m1 : -4096 ≤ x + 1) (m2 : x + 1 ≤ 4096) : Calls Tryd.prog 22 #[ln 1 (x + 1), cl x y 1] w fun r w' => r = .returned (.tuple #[.int .i64 0, .int .i64 0]) ∧ Below w.heap.size w w' :=
  cside_3 1 (x + 1) x y 1 (1 + 2 * x) (1 + 2 * y) (2 + 2 * x) (2 + 2 * y) (2 + 2 * x) (2 * y) (-1) 0 0 w hL (by omega) (by omega) m1 m2 c1 c2 c3 c4 (by omega) (by omega) (fun W h => corner_1 x y W h (by omega) (by omega) (by omega) (by omega)) (fun W => side_low1 (x + 1) (1 + 2 * x) (1 + 2 * y) W (by omega) (by omega) (by omega) (by omega) (by omega) (by omega) (by omega)) (fun W => side_on1 (x + 1) (2 + 2 * x) (2 + 2 * y) W (by omega) (by omega) (by omega) (by omega) (by omega) (by omega) (by omega)) (fun W => side_on1 (x + 1) (2 + 2 * x) (2 * y) W (by omega) (by omega) (by omega) (by omega) (by omega) (by omega) (by omega)) (by decide) (by decide) (by decide)

theorem cown_11 (x y : Int) (w : World) (hL : Lay w) (c1 : -4096 ≤ x) (c2 : x ≤ 4096) (c3 : -4096 ≤ y) (c4 : y ≤ 4096) (m1 : -4096 ≤ x + y + 1) (m2 : x + y + 1 ≤ 4096) : Calls Tryd.prog 22 #[ln 3 (x + y + 1), cl x y 1] w fun r w' => r = .returned (.tuple #[.int .i64 1, .int .i64 0]) ∧ Below w.heap.size w w' :=
  cside_1 3 (x + y + 1) x y 1 (1 + 2 * x) (1 + 2 * y) (2 + 2 * x) (2 + 2 * y) (2 + 2 * x) (2 * y) 0 1 0 w hL (by omega) (by omega) m1 m2 c1 c2 c3 c4 (by omega) (by omega) (fun W h => corner_1 x y W h (by omega) (by omega) (by omega) (by omega)) (fun W => side_on3 (x + y + 1) (1 + 2 * x) (1 + 2 * y) W (by omega) (by omega) (by omega) (by omega) (by omega) (by omega) (by omega)) (fun W => side_high3 (x + y + 1) (2 + 2 * x) (2 + 2 * y) W (by omega) (by omega) (by omega) (by omega) (by omega) (by omega) (by omega)) (fun W => side_on3 (x + y + 1) (2 + 2 * x) (2 * y) W (by omega) (by omega) (by omega) (by omega) (by omega) (by omega) (by omega)) (by decide) (by decide)

theorem cown_12 (x y : Int) (w : World) (hL : Lay w) (c1 : -4096 ≤ x) (c2 : x ≤ 4096) (c3 : -4096 ≤ y) (c4 : y ≤ 4096) (m1 : -4096 ≤ y - x) (m2 : y - x ≤ 4096) : Calls Tryd.prog 22 #[ln 4 (y - x), cl x y 1] w fun r w' => r = .returned (.tuple #[.int .i64 0, .int .i64 0]) ∧ Below w.heap.size w w' :=
  cside_3 4 (y - x) x y 1 (1 + 2 * x) (1 + 2 * y) (2 + 2 * x) (2 + 2 * y) (2 + 2 * x) (2 * y) 0 0 (-1) w hL (by omega) (by omega) m1 m2 c1 c2 c3 c4 (by omega) (by omega) (fun W h => corner_1 x y W h (by omega) (by omega) (by omega) (by omega)) (fun W => side_on4 (y - x) (1 + 2 * x) (1 + 2 * y) W (by omega) (by omega) (by omega) (by omega) (by omega) (by omega) (by omega)) (fun W => side_on4 (y - x) (2 + 2 * x) (2 + 2 * y) W (by omega) (by omega) (by omega) (by omega) (by omega) (by omega) (by omega)) (fun W => side_low4 (y - x) (2 + 2 * x) (2 * y) W (by omega) (by omega) (by omega) (by omega) (by omega) (by omega) (by omega)) (by decide) (by decide) (by decide)

theorem cown_20 (x y : Int) (w : World) (hL : Lay w) (c1 : -4096 ≤ x) (c2 : x ≤ 4096) (c3 : -4096 ≤ y) (c4 : y ≤ 4096) (m1 : -4096 ≤ y + 1) (m2 : y + 1 ≤ 4096) : Calls Tryd.prog 22 #[ln 2 (y + 1), cl x y 2] w fun r w' => r = .returned (.tuple #[.int .i64 0, .int .i64 0]) ∧ Below w.heap.size w w' :=
  cside_3 2 (y + 1) x y 2 (1 + 2 * x) (1 + 2 * y) (2 + 2 * x) (2 + 2 * y) (2 * x) (2 + 2 * y) (-1) 0 0 w hL (by omega) (by omega) m1 m2 c1 c2 c3 c4 (by omega) (by omega) (fun W h => corner_2 x y W h (by omega) (by omega) (by omega) (by omega)) (fun W => side_low2 (y + 1) (1 + 2 * x) (1 + 2 * y) W (by omega) (by omega) (by omega) (by omega) (by omega) (by omega) (by omega)) (fun W => side_on2 (y + 1) (2 + 2 * x) (2 + 2 * y) W (by omega) (by omega) (by omega) (by omega) (by omega) (by omega) (by omega)) (fun W => side_on2 (y + 1) (2 * x) (2 + 2 * y) W (by omega) (by omega) (by omega) (by omega) (by omega) (by omega) (by omega)) (by decide) (by decide) (by decide)

theorem cown_21 (x y : Int) (w : World) (hL : Lay w) (c1 : -4096 ≤ x) (c2 : x ≤ 4096) (c3 : -4096 ≤ y) (c4 : y ≤ 4096) (m1 : -4096 ≤ x + y + 1) (m2 : x + y + 1 ≤ 4096) : Calls Tryd.prog 22 #[ln 3 (x + y + 1), cl x y 2] w fun r w' => r = .returned (.tuple #[.int .i64 1, .int .i64 0]) ∧ Below w.heap.size w w' :=
  cside_1 3 (x + y + 1) x y 2 (1 + 2 * x) (1 + 2 * y) (2 + 2 * x) (2 + 2 * y) (2 * x) (2 + 2 * y) 0 1 0 w hL (by omega) (by omega) m1 m2 c1 c2 c3 c4 (by omega) (by omega) (fun W h => corner_2 x y W h (by omega) (by omega) (by omega) (by omega)) (fun W => side_on3 (x + y + 1) (1 + 2 * x) (1 + 2 * y) W (by omega) (by omega) (by omega) (by omega) (by omega) (by omega) (by omega)) (fun W => side_high3 (x + y + 1) (2 + 2 * x) (2 + 2 * y) W (by omega) (by omega) (by omega) (by omega) (by omega) (by omega) (by omega)) (fun W => side_on3 (x + y + 1) (2 * x) (2 + 2 * y) W (by omega) (by omega) (by omega) (by omega) (by omega) (by omega) (by omega)) (by decide) (by decide)

theorem cown_22 (x y : Int) (w : World) (hL : Lay w) (c1 : -4096 ≤ x) (c2 : x ≤ 4096) (c3 : -4096 ≤ y) (c4 : y ≤ 4096) (m1 : -4096 ≤ y - x) (m2 : y - x ≤ 4096) : Calls Tryd.prog 22 #[ln 4 (y - x), cl x y 2] w fun r w' => r = .returned (.tuple #[.int .i64 1, .int .i64 0]) ∧ Below w.heap.size w w' :=
  cside_2 4 (y - x) x y 2 (1 + 2 * x) (1 + 2 * y) (2 + 2 * x) (2 + 2 * y) (2 * x) (2 + 2 * y) 0 0 1 w hL (by omega) (by omega) m1 m2 c1 c2 c3 c4 (by omega) (by omega) (fun W h => corner_2 x y W h (by omega) (by omega) (by omega) (by omega)) (fun W => side_on4 (y - x) (1 + 2 * x) (1 + 2 * y) W (by omega) (by omega) (by omega) (by omega) (by omega) (by omega) (by omega)) (fun W => side_on4 (y - x) (2 + 2 * x) (2 + 2 * y) W (by omega) (by omega) (by omega) (by omega) (by omega) (by omega) (by omega)) (fun W => side_high4 (y - x) (2 * x) (2 + 2 * y) W (by omega) (by omega) (by omega) (by omega) (by omega) (by omega) (by omega)) (by decide) (by decide) (by decide)

theorem cown_30 (x y : Int) (w : World) (hL : Lay w) (c1 : -4096 ≤ x) (c2 : x ≤ 4096) (c3 : -4096 ≤ y) (c4 : y ≤ 4096) (m1 : -4096 ≤ x) (m2 : x ≤ 4096) : Calls Tryd.prog 22 #[ln 1 (x), cl x y 3] w fun r w' => r = .returned (.tuple #[.int .i64 1, .int .i64 0]) ∧ Below w.heap.size w w' :=
  cside_0 1 (x) x y 3 (1 + 2 * x) (1 + 2 * y) (2 * x) (2 * y) (2 * x) (2 + 2 * y) 1 0 0 w hL (by omega) (by omega) m1 m2 c1 c2 c3 c4 (by omega) (by omega) (fun W h => corner_3 x y W h (by omega) (by omega) (by omega) (by omega)) (fun W => side_high1 (x) (1 + 2 * x) (1 + 2 * y) W (by omega) (by omega) (by omega) (by omega) (by omega) (by omega) (by omega)) (fun W => side_on1 (x) (2 * x) (2 * y) W (by omega) (by omega) (by omega) (by omega) (by omega) (by omega) (by omega)) (fun W => side_on1 (x) (2 * x) (2 + 2 * y) W (by omega) (by omega) (by omega) (by omega) (by omega) (by omega) (by omega)) (by decide)

theorem cown_31 (x y : Int) (w : World) (hL : Lay w) (c1 : -4096 ≤ x) (c2 : x ≤ 4096) (c3 : -4096 ≤ y) (c4 : y ≤ 4096) (m1 : -4096 ≤ x + y + 1) (m2 : x + y + 1 ≤ 4096) : Calls Tryd.prog 22 #[ln 3 (x + y + 1), cl x y 3] w fun r w' => r = .returned (.tuple #[.int .i64 0, .int .i64 0]) ∧ Below w.heap.size w w' :=
  cside_3 3 (x + y + 1) x y 3 (1 + 2 * x) (1 + 2 * y) (2 * x) (2 * y) (2 * x) (2 + 2 * y) 0 (-1) 0 w hL (by omega) (by omega) m1 m2 c1 c2 c3 c4 (by omega) (by omega) (fun W h => corner_3 x y W h (by omega) (by omega) (by omega) (by omega)) (fun W => side_on3 (x + y + 1) (1 + 2 * x) (1 + 2 * y) W (by omega) (by omega) (by omega) (by omega) (by omega) (by omega) (by omega)) (fun W => side_low3 (x + y + 1) (2 * x) (2 * y) W (by omega) (by omega) (by omega) (by omega) (by omega) (by omega) (by omega)) (fun W => side_on3 (x + y + 1) (2 * x) (2 + 2 * y) W (by omega) (by omega) (by omega) (by omega) (by omega) (by omega) (by omega)) (by decide) (by decide) (by decide)

theorem cown_32 (x y : Int) (w : World) (hL : Lay w) (c1 : -4096 ≤ x) (c2 : x ≤ 4096) (c3 : -4096 ≤ y) (c4 : y ≤ 4096) (m1 : -4096 ≤ y - x) (m2 : y - x ≤ 4096) : Calls Tryd.prog 22 #[ln 4 (y - x), cl x y 3] w fun r w' => r = .returned (.tuple #[.int .i64 1, .int .i64 0]) ∧ Below w.heap.size w w' :=
  cside_2 4 (y - x) x y 3 (1 + 2 * x) (1 + 2 * y) (2 * x) (2 * y) (2 * x) (2 + 2 * y) 0 0 1 w hL (by omega) (by omega) m1 m2 c1 c2 c3 c4 (by omega) (by omega) (fun W h => corner_3 x y W h (by omega) (by omega) (by omega) (by omega)) (fun W => side_on4 (y - x) (1 + 2 * x) (1 + 2 * y) W (by omega) (by omega) (by omega) (by omega) (by omega) (by omega) (by omega)) (fun W => side_on4 (y - x) (2 * x) (2 * y) W (by omega) (by omega) (by omega) (by omega) (by omega) (by omega) (by omega)) (fun W => side_high4 (y - x) (2 * x) (2 + 2 * y) W (by omega) (by omega) (by omega) (by omega) (by omega) (by omega) (by omega)) (by decide) (by decide) (by decide)

theorem cown_any (x y q e : Int) (w : World) (hL : Lay w) (c1 : -4096 ≤ x) (c2 : x ≤ 4096) (c3 : -4096 ≤ y) (c4 : y ≤ 4096) (c5 : 0 ≤ q) (c6 : q ≤ 3) (e1 : 0 ≤ e) (e2 : e ≤ 2) (m1 : -4096 ≤ lnC q e x y) (m2 : lnC q e x y ≤ 4096) : Calls Tryd.prog 22 #[ln (lnK q e) (lnC q e x y), cl x y q] w fun r w' => r = .returned (.tuple #[.int .i64 (ownS q e), .int .i64 0]) ∧ Below w.heap.size w w' := by
  obtain rfl | rfl | rfl | rfl : q = 0 ∨ q = 1 ∨ q = 2 ∨ q = 3 := by omega
  · obtain rfl | rfl | rfl : e = 0 ∨ e = 1 ∨ e = 2 := by omega
    · exact cown_00 x y w hL c1 c2 c3 c4 m1 m2
    · exact cown_01 x y w hL c1 c2 c3 c4 m1 m2
    · exact cown_02 x y w hL c1 c2 c3 c4 m1 m2
  · obtain rfl | rfl | rfl : e = 0 ∨ e = 1 ∨ e = 2 := by omega
    · exact cown_10 x y w hL c1 c2 c3 c4 m1 m2
    · exact cown_11 x y w hL c1 c2 c3 c4 m1 m2
    · exact cown_12 x y w hL c1 c2 c3 c4 m1 m2
  · obtain rfl | rfl | rfl : e = 0 ∨ e = 1 ∨ e = 2 := by omega
    · exact cown_20 x y w hL c1 c2 c3 c4 m1 m2
    · exact cown_21 x y w hL c1 c2 c3 c4 m1 m2
    · exact cown_22 x y w hL c1 c2 c3 c4 m1 m2
  · obtain rfl | rfl | rfl : e = 0 ∨ e = 1 ∨ e = 2 := by omega
    · exact cown_30 x y w hL c1 c2 c3 c4 m1 m2
    · exact cown_31 x y w hL c1 c2 c3 c4 m1 m2
    · exact cown_32 x y w hL c1 c2 c3 c4 m1 m2

set_option maxRecDepth 100000 in
set_option maxHeartbeats 8000000 in
theorem cneiL_bad1 (x y q e l m n g v : Int) (w : World) (hL : Lay w) (h : 3 < q ∨ x < -4096 ∨ 4096 < x ∨ y < -4096 ∨ 4096 < y) : Calls Tryd.prog 4 #[cl x y q, .int .u8 e, cl l m n] w fun r w' => r = .returned (.bool true) ∧ Below w.heap.size w w' := by
  have H : Hid (3 < q ∨ x < -4096 ∨ 4096 < x ∨ y < -4096 ∨ 4096 < y) := h
  clear h
  have hL' : ∀ W, Below w.heap.size w W → Lay W := fun W h => lay_below hL h
  go_enter Tryd.func4, Tryd.ntmps4
  go_wp2_with fail
  have hB0 : Below w.heap.size w ((w.alloc (.cells #[.int .i64 (x), .int .i64 (y), .int .u8 (q)] 23)).alloc (.cells #[.int .i64 (l), .int .i64 (m), .int .u8 (n)] 23)) := (by repeat first | (with_reducible exact Below.refl _ _) | (with_reducible refine below_on ?_ _) | (with_reducible refine below_alloc ?_ _) | (with_reducible refine below_set ?_ (by simp; try omega) _))
  have b00 : ((w.alloc (.cells #[.int .i64 (x), .int .i64 (y), .int .u8 (q)] 23)).alloc (.cells #[.int .i64 (l), .int .i64 (m), .int .u8 (n)] 23)).cell? ⟨w.heap.size, 0, none⟩ = some (.int .i64 (x)) := by simp [go_sem]
  have b01 : ((w.alloc (.cells #[.int .i64 (x), .int .i64 (y), .int .u8 (q)] 23)).alloc (.cells #[.int .i64 (l), .int .i64 (m), .int .u8 (n)] 23)).cell? ⟨w.heap.size, 1, none⟩ = some (.int .i64 (y)) := by simp [go_sem]
  have b02 : ((w.alloc (.cells #[.int .i64 (x), .int .i64 (y), .int .u8 (q)] 23)).alloc (.cells #[.int .i64 (l), .int .i64 (m), .int .u8 (n)] 23)).cell? ⟨w.heap.size, 2, none⟩ = some (.int .u8 (q)) := by simp [go_sem]
  have b10 : ((w.alloc (.cells #[.int .i64 (x), .int .i64 (y), .int .u8 (q)] 23)).alloc (.cells #[.int .i64 (l), .int .i64 (m), .int .u8 (n)] 23)).cell? ⟨w.heap.size + 1, 0, none⟩ = some (.int .i64 (l)) := by simp [go_sem]
  have b11 : ((w.alloc (.cells #[.int .i64 (x), .int .i64 (y), .int .u8 (q)] 23)).alloc (.cells #[.int .i64 (l), .int .i64 (m), .int .u8 (n)] 23)).cell? ⟨w.heap.size + 1, 1, none⟩ = some (.int .i64 (m)) := by simp [go_sem]
  have b12 : ((w.alloc (.cells #[.int .i64 (x), .int .i64 (y), .int .u8 (q)] 23)).alloc (.cells #[.int .i64 (l), .int .i64 (m), .int .u8 (n)] 23)).cell? ⟨w.heap.size + 1, 2, none⟩ = some (.int .u8 (n)) := by simp [go_sem]
  generalize ((w.alloc (.cells #[.int .i64 (x), .int .i64 (y), .int .u8 (q)] 23)).alloc (.cells #[.int .i64 (l), .int .i64 (m), .int .u8 (n)] 23)) = W0 at *
  go_wp2_with (first | (go_at_call 19; with_reducible refine (cnei_bad1 x y q e _ H.out).mono ?_; rintro e wx ⟨rfl, hx⟩; obtain ⟨ux, rfl⟩ := after hx; clear hx) | fail)
  have hR : Below W0.heap.size W0 ((on ux).alloc (.cells #[.int .i64 0, .int .i64 0, .int .u8 0] 23)) := belr
  replace b00 := cRy hR b00
  replace b01 := cRy hR b01
  replace b02 := cRy hR b02
  replace b10 := cRy hR b10
  replace b11 := cRy hR b11
  replace b12 := cRy hR b12
  have hB1 := hB0.trans (hR.mono hB0.size)
  have hN : ((on ux).alloc (.cells #[.int .i64 0, .int .i64 0, .int .u8 0] 23)).heap[(on ux).heap.size]? = some (.cells #[.int .i64 0, .int .i64 0, .int .u8 0] 23) := heap_alloc_new _ _
  clear hR hB0
  generalize ((on ux).alloc (.cells #[.int .i64 0, .int .i64 0, .int .u8 0] 23)) = W1 at *
  generalize (on ux).heap.size = B1 at *
  clear ux
  have B100 : W1.cell? ⟨B1, 0, none⟩ = some (.int .i64 0) := held_cell hN 0
  have B101 : W1.cell? ⟨B1, 1, none⟩ = some (.int .i64 0) := held_cell hN 1
  have B102 : W1.cell? ⟨B1, 2, none⟩ = some (.int .u8 0) := held_cell hN 2
  clear hN
  go_wp2_with (first | (go_at_call 20; with_reducible refine (ctouch_bad1 x y q l m n _ H.out).mono ?_; rintro e wx ⟨rfl, hx⟩; obtain ⟨ux, rfl⟩ := after hx; clear hx) | fail)
  have hR : Below W1.heap.size W1 (on ux) := belr
  replace b00 := cRy hR b00
  replace b01 := cRy hR b01
  replace b02 := cRy hR b02
  replace b10 := cRy hR b10
  replace b11 := cRy hR b11
  replace b12 := cRy hR b12
  replace B100 := cRy hR B100
  replace B101 := cRy hR B101
  replace B102 := cRy hR B102
  have hB2 := hB1.trans (hR.mono hB1.size)
  clear hR hB1
  generalize (on ux) = W2 at *
  clear ux
  go_wp2_with (first | (go_at_call 13; with_reducible refine (rvalid_no x y q _ H.out).mono ?_; rintro e wx ⟨rfl, hx⟩; obtain ⟨ux, rfl⟩ := after hx; clear hx) | (go_at_call 15; with_reducible refine (clives_ok _ (lyb hL)).mono ?_; rintro e wx ⟨rfl, hx⟩; obtain ⟨ux, rfl⟩ := after hx; clear hx) | fail)
  go_ret
  exact ⟨by first | rfl | (simp; done) | (simp; omega), belw⟩

set_option maxRecDepth 100000 in
set_option maxHeartbeats 8000000 in
theorem cneiL_bad2 (x y q e l m n g v : Int) (w : World) (hL : Lay w) (c1 : -4096 ≤ x) (c2 : x ≤ 4096) (c3 : -4096 ≤ y) (c4 : y ≤ 4096) (c5 : 0 ≤ q) (c6 : q ≤ 3) (e3 : 2 < e) (TO : ∀ W, Lay W → Calls Tryd.prog 20 #[cl x y q, cl l m n] W fun r w' => r = .returned (.tuple #[.int .u8 g, .int .i64 v]) ∧ Below W.heap.size W w') : Calls Tryd.prog 4 #[cl x y q, .int .u8 e, cl l m n] w fun r w' => r = .returned (.bool true) ∧ Below w.heap.size w w' := by
  have hL' : ∀ W, Below w.heap.size w W → Lay W := fun W h => lay_below hL h
  go_enter Tryd.func4, Tryd.ntmps4
  go_wp2_with fail
  have hB0 : Below w.heap.size w ((w.alloc (.cells #[.int .i64 (x), .int .i64 (y), .int .u8 (q)] 23)).alloc (.cells #[.int .i64 (l), .int .i64 (m), .int .u8 (n)] 23)) := (by repeat first | (with_reducible exact Below.refl _ _) | (with_reducible refine below_on ?_ _) | (with_reducible refine below_alloc ?_ _) | (with_reducible refine below_set ?_ (by simp; try omega) _))
  have b00 : ((w.alloc (.cells #[.int .i64 (x), .int .i64 (y), .int .u8 (q)] 23)).alloc (.cells #[.int .i64 (l), .int .i64 (m), .int .u8 (n)] 23)).cell? ⟨w.heap.size, 0, none⟩ = some (.int .i64 (x)) := by simp [go_sem]
  have b01 : ((w.alloc (.cells #[.int .i64 (x), .int .i64 (y), .int .u8 (q)] 23)).alloc (.cells #[.int .i64 (l), .int .i64 (m), .int .u8 (n)] 23)).cell? ⟨w.heap.size, 1, none⟩ = some (.int .i64 (y)) := by simp [go_sem]
  have b02 : ((w.alloc (.cells #[.int .i64 (x), .int .i64 (y), .int .u8 (q)] 23)).alloc (.cells #[.int .i64 (l), .int .i64 (m), .int .u8 (n)] 23)).cell? ⟨w.heap.size, 2, none⟩ = some (.int .u8 (q)) := by simp [go_sem]
  have b10 : ((w.alloc (.cells #[.int .i64 (x), .int .i64 (y), .int .u8 (q)] 23)).alloc (.cells #[.int .i64 (l), .int .i64 (m), .int .u8 (n)] 23)).cell? ⟨w.heap.size + 1, 0, none⟩ = some (.int .i64 (l)) := by simp [go_sem]
  have b11 : ((w.alloc (.cells #[.int .i64 (x), .int .i64 (y), .int .u8 (q)] 23)).alloc (.cells #[.int .i64 (l), .int .i64 (m), .int .u8 (n)] 23)).cell? ⟨w.heap.size + 1, 1, none⟩ = some (.int .i64 (m)) := by simp [go_sem]
  have b12 : ((w.alloc (.cells #[.int .i64 (x), .int .i64 (y), .int .u8 (q)] 23)).alloc (.cells #[.int .i64 (l), .int .i64 (m), .int .u8 (n)] 23)).cell? ⟨w.heap.size + 1, 2, none⟩ = some (.int .u8 (n)) := by simp [go_sem]
  generalize ((w.alloc (.cells #[.int .i64 (x), .int .i64 (y), .int .u8 (q)] 23)).alloc (.cells #[.int .i64 (l), .int .i64 (m), .int .u8 (n)] 23)) = W0 at *
  go_wp2_with (first | (go_at_call 19; with_reducible refine (cnei_bad2 x y q e _ c1 c2 c3 c4 c5 c6 (by omega)).mono ?_; rintro e wx ⟨rfl, hx⟩; obtain ⟨ux, rfl⟩ := after hx; clear hx) | fail)
  have hR : Below W0.heap.size W0 ((on ux).alloc (.cells #[.int .i64 0, .int .i64 0, .int .u8 0] 23)) := belr
  replace b00 := cRy hR b00
  replace b01 := cRy hR b01
  replace b02 := cRy hR b02
  replace b10 := cRy hR b10
  replace b11 := cRy hR b11
  replace b12 := cRy hR b12
  have hB1 := hB0.trans (hR.mono hB0.size)
  have hN : ((on ux).alloc (.cells #[.int .i64 0, .int .i64 0, .int .u8 0] 23)).heap[(on ux).heap.size]? = some (.cells #[.int .i64 0, .int .i64 0, .int .u8 0] 23) := heap_alloc_new _ _
  clear hR hB0
  generalize ((on ux).alloc (.cells #[.int .i64 0, .int .i64 0, .int .u8 0] 23)) = W1 at *
  generalize (on ux).heap.size = B1 at *
  clear ux
  have B100 : W1.cell? ⟨B1, 0, none⟩ = some (.int .i64 0) := held_cell hN 0
  have B101 : W1.cell? ⟨B1, 1, none⟩ = some (.int .i64 0) := held_cell hN 1
  have B102 : W1.cell? ⟨B1, 2, none⟩ = some (.int .u8 0) := held_cell hN 2
  clear hN
  go_wp2_with (first | (go_at_call 20; with_reducible refine (TO _ (lyb hL)).mono ?_; rintro e wx ⟨rfl, hx⟩; obtain ⟨ux, rfl⟩ := after hx; clear hx) | fail)
  have hR : Below W1.heap.size W1 (on ux) := belr
  replace b00 := cRy hR b00
  replace b01 := cRy hR b01
  replace b02 := cRy hR b02
  replace b10 := cRy hR b10
  replace b11 := cRy hR b11
  replace b12 := cRy hR b12
  replace B100 := cRy hR B100
  replace B101 := cRy hR B101
  replace B102 := cRy hR B102
  have hB2 := hB1.trans (hR.mono hB1.size)
  clear hR hB1
  generalize (on ux) = W2 at *
  clear ux
  go_wp2_with (first | (go_at_call 13; with_reducible refine (rvalid_yes x y q _ c1 c2 c3 c4 c5 c6).mono ?_; rintro e wx ⟨rfl, hx⟩; obtain ⟨ux, rfl⟩ := after hx; clear hx) | (go_at_call 15; with_reducible refine (clives_ok _ (lyb hL)).mono ?_; rintro e wx ⟨rfl, hx⟩; obtain ⟨ux, rfl⟩ := after hx; clear hx) | fail)
  go_ret
  exact ⟨by first | rfl | (simp; done) | (simp; omega), belw⟩

end Go.Proofs.YtgkiliijefkcaaaDoor
