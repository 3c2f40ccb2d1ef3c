/-
  Says: what the calls of the chapters examples on cells give.
-/
import Derived.Test.YtgkiliijefkcaaaDoorCf3
import Derived.Test.YtgkiliijefkcaaaDoorCf4
import Derived.Test.YtgkiliijefkcaaaDoorCf5
import Derived.Test.YtgkiliijefkcaaaDoorCf9
import Derived.Test.YtgkiliijefkcaaaDoorFnS
set_option linter.unusedVariables false
set_option linter.unusedSimpArgs false
namespace Go.Proofs.YtgkiliijefkcaaaDoor
open Go Go.RowKit

attribute [local go_sem] World.cell?_alloc_some frozen?_alloc_cells fz0 fz1 fz2 fz3 fz4 fz5

theorem eql_pt (x y : Int) (w : World) : (Op.equalIn 9999 31 (.agg #[.int .i64 x, .int .i64 y]) (.agg #[.int .i64 x, .int .i64 y])).run Tryd.prog w = .ok true w := by
  unfold Op.equalIn
  simp [go_sem]
set_option maxHeartbeats 800000 in
theorem eql_pt3 (a b c d e f : Int) (w : World) : (Op.equalIn 10000 32 (.agg #[.int .i64 a, .int .i64 b, .int .i64 c, .int .i64 d, .int .i64 e, .int .i64 f]) (.agg #[.int .i64 a, .int .i64 b, .int .i64 c, .int .i64 d, .int .i64 e, .int .i64 f])).run Tryd.prog w = .ok true w := by
  unfold Op.equalIn
  simp [go_sem, show List.range' 0 3 = [0, 1, 2] from rfl, eql_pt]

set_option maxRecDepth 100000 in
set_option maxHeartbeats 2000000 in
theorem cell_any (x y q : Int) (w : World) : Calls Tryd.prog 39 #[.int .i64 x, .int .i64 y, .int .u8 q] w fun e w' => e = .returned (cl x y q) ∧ Below w.heap.size w w' := by
  go_enter Tryd.func39, Tryd.ntmps39
  go_wp2
  exact bodyPost_ret (v := cl x y q) (by simp [results, Tryd.results39, go_sem]) rfl ⟨rfl, (by repeat first | (with_reducible exact Below.refl _ _) | (with_reducible refine below_on ?_ _) | (with_reducible refine below_alloc ?_ _) | (with_reducible refine below_set ?_ (by simp; try omega) _))⟩

set_option maxRecDepth 100000 in
set_option maxHeartbeats 2000000 in
theorem line_any (k c : Int) (w : World) : Calls Tryd.prog 45 #[.int .u8 k, .int .i64 c] w fun e w' => e = .returned (ln k c) ∧ Below w.heap.size w w' := by
  go_enter Tryd.func45, Tryd.ntmps45
  go_wp2
  exact bodyPost_ret (v := ln k c) (by simp [results, Tryd.results45, go_sem]) rfl ⟨rfl, (by repeat first | (with_reducible exact Below.refl _ _) | (with_reducible refine below_on ?_ _) | (with_reducible refine below_alloc ?_ _) | (with_reducible refine below_set ?_ (by simp; try omega) _))⟩

theorem lv_l0 (w : World) (hL : Lay w) : Calls Tryd.prog 11 #[cl 2 5 0, .int .u8 0] w fun e w' => e = .returned (.tuple #[ln 2 5, .int .i64 0]) ∧ Below w.heap.size w w' := cline_ok 2 5 0 0 w (by omega) (by omega) (by omega) (by omega) (by omega) (by omega) (by omega) (by omega) (by decide) (by decide)

theorem lv_n0 (w : World) (hL : Lay w) : Calls Tryd.prog 19 #[cl 0 0 0, .int .u8 0] w fun e w' => e = .returned (.tuple #[cl 0 (-1) 2, .int .i64 0]) ∧ Below w.heap.size w w' := cnei_ok 0 0 0 0 w hL (by omega) (by omega) (by omega) (by omega) (by omega) (by omega) (by omega) (by omega) (by decide) (by decide) (by decide) (by decide)

theorem lv_l1 (w : World) (hL : Lay w) : Calls Tryd.prog 11 #[cl 2 5 0, .int .u8 1] w fun e w' => e = .returned (.tuple #[ln 3 8, .int .i64 0]) ∧ Below w.heap.size w w' := cline_ok 2 5 0 1 w (by omega) (by omega) (by omega) (by omega) (by omega) (by omega) (by omega) (by omega) (by decide) (by decide)

theorem lv_n1 (w : World) (hL : Lay w) : Calls Tryd.prog 19 #[cl 0 0 0, .int .u8 1] w fun e w' => e = .returned (.tuple #[cl 0 0 1, .int .i64 0]) ∧ Below w.heap.size w w' := cnei_ok 0 0 0 1 w hL (by omega) (by omega) (by omega) (by omega) (by omega) (by omega) (by omega) (by omega) (by decide) (by decide) (by decide) (by decide)

theorem lv_l2 (w : World) (hL : Lay w) : Calls Tryd.prog 11 #[cl 2 5 0, .int .u8 2] w fun e w' => e = .returned (.tuple #[ln 4 3, .int .i64 0]) ∧ Below w.heap.size w w' := cline_ok 2 5 0 2 w (by omega) (by omega) (by omega) (by omega) (by omega) (by omega) (by omega) (by omega) (by decide) (by decide)

theorem lv_n2 (w : World) (hL : Lay w) : Calls Tryd.prog 19 #[cl 0 0 0, .int .u8 2] w fun e w' => e = .returned (.tuple #[cl 0 0 3, .int .i64 0]) ∧ Below w.heap.size w w' := cnei_ok 0 0 0 2 w hL (by omega) (by omega) (by omega) (by omega) (by omega) (by omega) (by omega) (by omega) (by decide) (by decide) (by decide) (by decide)

theorem lv_k1 (w : World) (hL : Lay w) : Calls Tryd.prog 11 #[cl 2 5 1, .int .u8 0] w fun e w' => e = .returned (.tuple #[ln 1 3, .int .i64 0]) ∧ Below w.heap.size w w' := cline_ok 2 5 1 0 w (by omega) (by omega) (by omega) (by omega) (by omega) (by omega) (by omega) (by omega) (by decide) (by decide)

theorem lv_k2 (w : World) (hL : Lay w) : Calls Tryd.prog 11 #[cl 2 5 2, .int .u8 0] w fun e w' => e = .returned (.tuple #[ln 2 6, .int .i64 0]) ∧ Below w.heap.size w w' := cline_ok 2 5 2 0 w (by omega) (by omega) (by omega) (by omega) (by omega) (by omega) (by omega) (by omega) (by decide) (by decide)

theorem lv_k3 (w : World) (hL : Lay w) : Calls Tryd.prog 11 #[cl 2 5 3, .int .u8 0] w fun e w' => e = .returned (.tuple #[ln 1 2, .int .i64 0]) ∧ Below w.heap.size w w' := cline_ok 2 5 3 0 w (by omega) (by omega) (by omega) (by omega) (by omega) (by omega) (by omega) (by omega) (by decide) (by decide)

theorem lv_t1 (w : World) (hL : Lay w) : Calls Tryd.prog 20 #[cl 0 0 0, cl 0 0 1] w fun e w' => e = .returned (.tuple #[.int .u8 1, .int .i64 0]) ∧ Below w.heap.size w w' := ctouch_t1 0 0 0 0 0 1 w hL (by omega) (by omega) (by omega) (by omega) (by omega) (by omega) (by omega) (by omega) (by omega) (by omega) (by omega) (by omega) (neR (by decide)) (eqR (by decide))

theorem lv_t2 (w : World) (hL : Lay w) : Calls Tryd.prog 20 #[cl 0 0 0, cl 0 0 2] w fun e w' => e = .returned (.tuple #[.int .u8 0, .int .i64 7]) ∧ Below w.heap.size w w' := ctouch_tn 0 0 0 0 0 2 w hL (by omega) (by omega) (by omega) (by omega) (by omega) (by omega) (by omega) (by omega) (by omega) (by omega) (by omega) (by omega) (neR (by decide)) (neR (by decide)) (neR (by decide))

theorem lv_c0 (w : World) (hL : Lay w) : Calls Tryd.prog 12 #[cl 0 0 0] w fun e w' => e = .returned (.tuple #[.agg #[.int .i64 1, .int .i64 1, .int .i64 0, .int .i64 0, .int .i64 2, .int .i64 0], .int .i64 0]) ∧ Below w.heap.size w w' := ccor_0 0 0 w hL (by omega) (by omega) (by omega) (by omega)

theorem lv_c2 (w : World) (hL : Lay w) : Calls Tryd.prog 12 #[cl 0 0 2] w fun e w' => e = .returned (.tuple #[.agg #[.int .i64 1, .int .i64 1, .int .i64 2, .int .i64 2, .int .i64 0, .int .i64 2], .int .i64 0]) ∧ Below w.heap.size w w' := ccor_2 0 0 w hL (by omega) (by omega) (by omega) (by omega)

theorem lv_s0 (w : World) (hL : Lay w) : Calls Tryd.prog 22 #[ln 3 1, cl 0 0 0] w fun e w' => e = .returned (.tuple #[.int .i64 0, .int .i64 0]) ∧ Below w.heap.size w w' := cside_3 3 1 0 0 0 1 1 0 0 2 0 0 (-1) 0 w hL (by omega) (by omega) (by omega) (by omega) (by omega) (by omega) (by omega) (by omega) (by omega) (by omega) (fun W h => corner_0 0 0 W h (by omega) (by omega) (by omega) (by omega)) (fun W => side_on3 1 1 1 W (by omega) (by omega) (by omega) (by omega) (by omega) (by omega) (by omega)) (fun W => side_low3 1 0 0 W (by omega) (by omega) (by omega) (by omega) (by omega) (by omega) (by omega)) (fun W => side_on3 1 2 0 W (by omega) (by omega) (by omega) (by omega) (by omega) (by omega) (by omega)) (by decide) (by decide) (by decide)

theorem lv_s1 (w : World) (hL : Lay w) : Calls Tryd.prog 22 #[ln 3 1, cl 0 0 1] w fun e w' => e = .returned (.tuple #[.int .i64 1, .int .i64 0]) ∧ Below w.heap.size w w' := cside_1 3 1 0 0 1 1 1 2 2 2 0 0 1 0 w hL (by omega) (by omega) (by omega) (by omega) (by omega) (by omega) (by omega) (by omega) (by omega) (by omega) (fun W h => corner_1 0 0 W h (by omega) (by omega) (by omega) (by omega)) (fun W => side_on3 1 1 1 W (by omega) (by omega) (by omega) (by omega) (by omega) (by omega) (by omega)) (fun W => side_high3 1 2 2 W (by omega) (by omega) (by omega) (by omega) (by omega) (by omega) (by omega)) (fun W => side_on3 1 2 0 W (by omega) (by omega) (by omega) (by omega) (by omega) (by omega) (by omega)) (by decide) (by decide)

theorem lv_s2 (w : World) (hL : Lay w) : Calls Tryd.prog 22 #[ln 3 1, cl 0 0 2] w fun e w' => e = .returned (.tuple #[.int .i64 1, .int .i64 0]) ∧ Below w.heap.size w w' := cside_1 3 1 0 0 2 1 1 2 2 0 2 0 1 0 w hL (by omega) (by omega) (by omega) (by omega) (by omega) (by omega) (by omega) (by omega) (by omega) (by omega) (fun W h => corner_2 0 0 W h (by omega) (by omega) (by omega) (by omega)) (fun W => side_on3 1 1 1 W (by omega) (by omega) (by omega) (by omega) (by omega) (by omega) (by omega)) (fun W => side_high3 1 2 2 W (by omega) (by omega) (by omega) (by omega) (by omega) (by omega) (by omega)) (fun W => side_on3 1 0 2 W (by omega) (by omega) (by omega) (by omega) (by omega) (by omega) (by omega)) (by decide) (by decide)

theorem lv_s3 (w : World) (hL : Lay w) : Calls Tryd.prog 22 #[ln 3 1, cl 0 0 3] w fun e w' => e = .returned (.tuple #[.int .i64 0, .int .i64 0]) ∧ Below w.heap.size w w' := cside_3 3 1 0 0 3 1 1 0 0 0 2 0 (-1) 0 w hL (by omega) (by omega) (by omega) (by omega) (by omega) (by omega) (by omega) (by omega) (by omega) (by omega) (fun W h => corner_3 0 0 W h (by omega) (by omega) (by omega) (by omega)) (fun W => side_on3 1 1 1 W (by omega) (by omega) (by omega) (by omega) (by omega) (by omega) (by omega)) (fun W => side_low3 1 0 0 W (by omega) (by omega) (by omega) (by omega) (by omega) (by omega) (by omega)) (fun W => side_on3 1 0 2 W (by omega) (by omega) (by omega) (by omega) (by omega) (by omega) (by omega)) (by decide) (by decide) (by decide)

theorem lv_sa (w : World) (hL : Lay w) : Calls Tryd.prog 22 #[ln 1 1, cl 0 0 1] w fun e w' => e = .returned (.tuple #[.int .i64 0, .int .i64 0]) ∧ Below w.heap.size w w' := cside_3 1 1 0 0 1 1 1 2 2 2 0 (-1) 0 0 w hL (by omega) (by omega) (by omega) (by omega) (by omega) (by omega) (by omega) (by omega) (by omega) (by omega) (fun W h => corner_1 0 0 W h (by omega) (by omega) (by omega) (by omega)) (fun W => side_low1 1 1 1 W (by omega) (by omega) (by omega) (by omega) (by omega) (by omega) (by omega)) (fun W => side_on1 1 2 2 W (by omega) (by omega) (by omega) (by omega) (by omega) (by omega) (by omega)) (fun W => side_on1 1 2 0 W (by omega) (by omega) (by omega) (by omega) (by omega) (by omega) (by omega)) (by decide) (by decide) (by decide)

theorem lv_sb (w : World) (hL : Lay w) : Calls Tryd.prog 22 #[ln 1 1, cl 1 0 3] w fun e w' => e = .returned (.tuple #[.int .i64 1, .int .i64 0]) ∧ Below w.heap.size w w' := cside_0 1 1 1 0 3 3 1 2 0 2 2 1 0 0 w hL (by omega) (by omega) (by omega) (by omega) (by omega) (by omega) (by omega) (by omega) (by omega) (by omega) (fun W h => corner_3 1 0 W h (by omega) (by omega) (by omega) (by omega)) (fun W => side_high1 1 3 1 W (by omega) (by omega) (by omega) (by omega) (by omega) (by omega) (by omega)) (fun W => side_on1 1 2 0 W (by omega) (by omega) (by omega) (by omega) (by omega) (by omega) (by omega)) (fun W => side_on1 1 2 2 W (by omega) (by omega) (by omega) (by omega) (by omega) (by omega) (by omega)) (by decide)

theorem lv_m (w : World) (hL : Lay w) : Calls Tryd.prog 25 #[mv 1 2 4, cl 0 0 0] w fun e w' => e = .returned (.tuple #[cl 1 4 1, .int .i64 0]) ∧ Below w.heap.size w w' := cmv_ok 1 2 4 0 0 0 w hL (by omega) (by omega) (by omega) (by omega) (by omega) (by omega) (by decide) (by omega) (by omega) (by omega) (by omega) (by omega) (by omega) (by decide) (by decide) (by decide) (by decide)

theorem lv_b0 (w : World) (hL : Lay w) : Calls Tryd.prog 28 #[cl 0 0 0, cl 0 0 3] w fun e w' => e = .returned (.tuple #[mv 7 0 0, .int .i64 0]) ∧ Below w.heap.size w w' := cbt_ok 0 0 0 0 0 3 w hL (by omega) (by omega) (by omega) (by omega) (by omega) (by omega) (by omega) (by omega) (by omega) (by omega) (by omega) (by omega)

theorem lv_b1 (w : World) (hL : Lay w) : Calls Tryd.prog 28 #[cl 0 0 0, cl 0 0 1] w fun e w' => e = .returned (.tuple #[mv 5 1 1, .int .i64 0]) ∧ Below w.heap.size w w' := cbt_ok 0 0 0 0 0 1 w hL (by omega) (by omega) (by omega) (by omega) (by omega) (by omega) (by omega) (by omega) (by omega) (by omega) (by omega) (by omega)

theorem lv_b2 (w : World) (hL : Lay w) : Calls Tryd.prog 28 #[cl 0 0 0, cl 0 0 2] w fun e w' => e = .returned (.tuple #[mv 2 1 1, .int .i64 0]) ∧ Below w.heap.size w w' := cbt_ok 0 0 0 0 0 2 w hL (by omega) (by omega) (by omega) (by omega) (by omega) (by omega) (by omega) (by omega) (by omega) (by omega) (by omega) (by omega)

theorem lv_b3 (w : World) (hL : Lay w) : Calls Tryd.prog 28 #[cl 0 0 0, cl 0 (-1) 2] w fun e w' => e = .returned (.tuple #[mv 6 0 0, .int .i64 0]) ∧ Below w.heap.size w w' := cbt_ok 0 0 0 0 (-1) 2 w hL (by omega) (by omega) (by omega) (by omega) (by omega) (by omega) (by omega) (by omega) (by omega) (by omega) (by omega) (by omega)

theorem lv_b4 (w : World) (hL : Lay w) : Calls Tryd.prog 28 #[cl 0 0 0, cl 1 0 0] w fun e w' => e = .returned (.tuple #[mv 4 2 0, .int .i64 0]) ∧ Below w.heap.size w w' := cbt_ok 0 0 0 1 0 0 w hL (by omega) (by omega) (by omega) (by omega) (by omega) (by omega) (by omega) (by omega) (by omega) (by omega) (by omega) (by omega)

theorem lv_g (w : World) (hL : Lay w) : Calls Tryd.prog 11 #[cl 4096 0 0, .int .u8 1] w fun e w' => e = .returned (.tuple #[ln 0 0, .int .i64 3]) ∧ Below w.heap.size w w' := cline_far 4096 0 0 1 w (by omega) (by omega) (by omega) (by omega) (by omega) (by omega) (by omega) (by omega) (by decide)

end Go.Proofs.YtgkiliijefkcaaaDoor
