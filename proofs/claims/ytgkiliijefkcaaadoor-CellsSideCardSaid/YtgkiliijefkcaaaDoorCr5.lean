/-
  Says: what Line, Neighbour and Move of the reference give at every cell.
-/
import Derived.Test.YtgkiliijefkcaaaDoorCr2a
import Derived.Test.YtgkiliijefkcaaaDoorCr2b
import Derived.Test.YtgkiliijefkcaaaDoorCr3
import Derived.Test.YtgkiliijefkcaaaDoorCr4
import Derived.Test.YtgkiliijefkcaaaDoorCm1
import Derived.Test.YtgkiliijefkcaaaDoorMr1
set_option linter.unusedVariables false
set_option linter.unusedSimpArgs false
namespace Go.Proofs.YtgkiliijefkcaaaDoor
open Go Go.RowKit

attribute [local go_sem] World.cell?_alloc_some frozen?_alloc_cells fz0 fz1 fz2 fz3 fz4 fz5

set_option maxHeartbeats 400000 in
theorem farw_1 (c x y : Int) (w : World) (h1 : -200000 ≤ x) (h2 : x ≤ 200000) (h3 : -200000 ≤ y) (h4 : y ≤ 200000) (h5 : -100000 ≤ c) (h6 : c ≤ 100000) : Calls Tryd.prog 23 #[ln 1 c, pt x y] w fun e w' => e = .returned (.int .i64 (x - 2 * c)) ∧ Below w.heap.size w w' := by
  go_enter Tryd.func23, Tryd.ntmps23
  go_wp2_with (go_at_call 46; refine (across_1 _).mono ?_; rintro e w1 ⟨rfl, rfl⟩)
  go_ret
  exact ⟨ret_int (by omega), (by repeat first | (with_reducible exact Below.refl _ _) | (with_reducible refine below_on ?_ _) | (with_reducible refine below_alloc ?_ _) | (with_reducible refine below_set ?_ (by simp; try omega) _))⟩
set_option maxHeartbeats 400000 in
theorem rreflw_1 (c x y : Int) (w : World) (h1 : -200000 ≤ x) (h2 : x ≤ 200000) (h3 : -200000 ≤ y) (h4 : y ≤ 200000) (h5 : -100000 ≤ c) (h6 : c ≤ 100000) : Calls Tryd.prog 49 #[ln 1 c, pt x y] w fun e w' => e = .returned (pt (2 * (2 * c) - x) (y)) ∧ Below w.heap.size w w' := by
  go_enter Tryd.func49, Tryd.ntmps49
  go_wp2_with (first | (go_at_call 46; refine (across_1 _).mono ?_; rintro e w1 ⟨rfl, rfl⟩) | (go_at_call 23; refine (farw_1 _ _ _ _ (by omega) (by omega) (by omega) (by omega) (by omega) (by omega)).mono ?_; rintro e w2 ⟨rfl, hb2⟩; obtain ⟨u2, rfl⟩ := after hb2; clear hb2))
  exact bodyPost_ret (v := pt (2 * (2 * c) - x) (y)) (by simp [results, Tryd.results49, go_sem] <;> omega) rfl ⟨rfl, (by repeat first | (with_reducible exact Below.refl _ _) | (with_reducible refine below_on ?_ _) | (with_reducible refine below_alloc ?_ _) | (with_reducible refine below_set ?_ (by simp; try omega) _))⟩

set_option maxHeartbeats 400000 in
theorem farw_2 (c x y : Int) (w : World) (h1 : -200000 ≤ x) (h2 : x ≤ 200000) (h3 : -200000 ≤ y) (h4 : y ≤ 200000) (h5 : -100000 ≤ c) (h6 : c ≤ 100000) : Calls Tryd.prog 23 #[ln 2 c, pt x y] w fun e w' => e = .returned (.int .i64 (y - 2 * c)) ∧ Below w.heap.size w w' := by
  go_enter Tryd.func23, Tryd.ntmps23
  go_wp2_with (go_at_call 46; refine (across_2 _).mono ?_; rintro e w1 ⟨rfl, rfl⟩)
  go_ret
  exact ⟨ret_int (by omega), (by repeat first | (with_reducible exact Below.refl _ _) | (with_reducible refine below_on ?_ _) | (with_reducible refine below_alloc ?_ _) | (with_reducible refine below_set ?_ (by simp; try omega) _))⟩
set_option maxHeartbeats 400000 in
theorem rreflw_2 (c x y : Int) (w : World) (h1 : -200000 ≤ x) (h2 : x ≤ 200000) (h3 : -200000 ≤ y) (h4 : y ≤ 200000) (h5 : -100000 ≤ c) (h6 : c ≤ 100000) : Calls Tryd.prog 49 #[ln 2 c, pt x y] w fun e w' => e = .returned (pt (x) (2 * (2 * c) - y)) ∧ Below w.heap.size w w' := by
  go_enter Tryd.func49, Tryd.ntmps49
  go_wp2_with (first | (go_at_call 46; refine (across_2 _).mono ?_; rintro e w1 ⟨rfl, rfl⟩) | (go_at_call 23; refine (farw_2 _ _ _ _ (by omega) (by omega) (by omega) (by omega) (by omega) (by omega)).mono ?_; rintro e w2 ⟨rfl, hb2⟩; obtain ⟨u2, rfl⟩ := after hb2; clear hb2))
  exact bodyPost_ret (v := pt (x) (2 * (2 * c) - y)) (by simp [results, Tryd.results49, go_sem] <;> omega) rfl ⟨rfl, (by repeat first | (with_reducible exact Below.refl _ _) | (with_reducible refine below_on ?_ _) | (with_reducible refine below_alloc ?_ _) | (with_reducible refine below_set ?_ (by simp; try omega) _))⟩

set_option maxHeartbeats 400000 in
theorem farw_3 (c x y : Int) (w : World) (h1 : -200000 ≤ x) (h2 : x ≤ 200000) (h3 : -200000 ≤ y) (h4 : y ≤ 200000) (h5 : -100000 ≤ c) (h6 : c ≤ 100000) : Calls Tryd.prog 23 #[ln 3 c, pt x y] w fun e w' => e = .returned (.int .i64 (x + y - 2 * c)) ∧ Below w.heap.size w w' := by
  go_enter Tryd.func23, Tryd.ntmps23
  go_wp2_with (go_at_call 46; refine (across_3 _).mono ?_; rintro e w1 ⟨rfl, rfl⟩)
  go_ret
  exact ⟨ret_int (by omega), (by repeat first | (with_reducible exact Below.refl _ _) | (with_reducible refine below_on ?_ _) | (with_reducible refine below_alloc ?_ _) | (with_reducible refine below_set ?_ (by simp; try omega) _))⟩
set_option maxHeartbeats 400000 in
theorem rreflw_3 (c x y : Int) (w : World) (h1 : -200000 ≤ x) (h2 : x ≤ 200000) (h3 : -200000 ≤ y) (h4 : y ≤ 200000) (h5 : -100000 ≤ c) (h6 : c ≤ 100000) : Calls Tryd.prog 49 #[ln 3 c, pt x y] w fun e w' => e = .returned (pt ((2 * c) - y) ((2 * c) - x)) ∧ Below w.heap.size w w' := by
  go_enter Tryd.func49, Tryd.ntmps49
  go_wp2_with (first | (go_at_call 46; refine (across_3 _).mono ?_; rintro e w1 ⟨rfl, rfl⟩) | (go_at_call 23; refine (farw_3 _ _ _ _ (by omega) (by omega) (by omega) (by omega) (by omega) (by omega)).mono ?_; rintro e w2 ⟨rfl, hb2⟩; obtain ⟨u2, rfl⟩ := after hb2; clear hb2))
  exact bodyPost_ret (v := pt ((2 * c) - y) ((2 * c) - x)) (by simp [results, Tryd.results49, go_sem] <;> omega) rfl ⟨rfl, (by repeat first | (with_reducible exact Below.refl _ _) | (with_reducible refine below_on ?_ _) | (with_reducible refine below_alloc ?_ _) | (with_reducible refine below_set ?_ (by simp; try omega) _))⟩

set_option maxHeartbeats 400000 in
theorem farw_4 (c x y : Int) (w : World) (h1 : -200000 ≤ x) (h2 : x ≤ 200000) (h3 : -200000 ≤ y) (h4 : y ≤ 200000) (h5 : -100000 ≤ c) (h6 : c ≤ 100000) : Calls Tryd.prog 23 #[ln 4 c, pt x y] w fun e w' => e = .returned (.int .i64 (y - x - 2 * c)) ∧ Below w.heap.size w w' := by
  go_enter Tryd.func23, Tryd.ntmps23
  go_wp2_with (go_at_call 46; refine (across_4 _).mono ?_; rintro e w1 ⟨rfl, rfl⟩)
  go_ret
  exact ⟨ret_int (by omega), (by repeat first | (with_reducible exact Below.refl _ _) | (with_reducible refine below_on ?_ _) | (with_reducible refine below_alloc ?_ _) | (with_reducible refine below_set ?_ (by simp; try omega) _))⟩
set_option maxHeartbeats 400000 in
theorem rreflw_4 (c x y : Int) (w : World) (h1 : -200000 ≤ x) (h2 : x ≤ 200000) (h3 : -200000 ≤ y) (h4 : y ≤ 200000) (h5 : -100000 ≤ c) (h6 : c ≤ 100000) : Calls Tryd.prog 49 #[ln 4 c, pt x y] w fun e w' => e = .returned (pt (y - (2 * c)) (x + (2 * c))) ∧ Below w.heap.size w w' := by
  go_enter Tryd.func49, Tryd.ntmps49
  go_wp2_with (first | (go_at_call 46; refine (across_4 _).mono ?_; rintro e w1 ⟨rfl, rfl⟩) | (go_at_call 23; refine (farw_4 _ _ _ _ (by omega) (by omega) (by omega) (by omega) (by omega) (by omega)).mono ?_; rintro e w2 ⟨rfl, hb2⟩; obtain ⟨u2, rfl⟩ := after hb2; clear hb2))
  exact bodyPost_ret (v := pt (y - (2 * c)) (x + (2 * c))) (by simp [results, Tryd.results49, go_sem] <;> omega) rfl ⟨rfl, (by repeat first | (with_reducible exact Below.refl _ _) | (with_reducible refine below_on ?_ _) | (with_reducible refine below_alloc ?_ _) | (with_reducible refine below_set ?_ (by simp; try omega) _))⟩

theorem rlin_00 (x y : Int) (w : World) (x1 : -100000 ≤ x) (x2 : x ≤ 100000) (y1 : -100000 ≤ y) (y2 : y ≤ 100000) : Calls Tryd.prog 17 #[cl x y 0, .int .i64 0] w fun r w' => r = .returned (ln (lnK 0 0) (lnC 0 0 x y)) ∧ Below w.heap.size w w' := by
  rw [lnK00, lnC00]
  exact rline_02 x y 0 (1 + 2 * x) (1 + 2 * y) (2 * x) (2 * y) (2 + 2 * x) (2 * y) (y) w (fun W => rcor_0 x y W x1 x2 y1 y2) (by omega) (by omega) (by omega) (by omega) (by omega) (by omega) (by omega) (by omega) (eqf (by omega)) (eqt (by omega)) (eqf (by omega)) (eqf (by omega)) (td2 (by omega)) (by omega) (by omega)

theorem rlin_01 (x y : Int) (w : World) (x1 : -100000 ≤ x) (x2 : x ≤ 100000) (y1 : -100000 ≤ y) (y2 : y ≤ 100000) : Calls Tryd.prog 17 #[cl x y 0, .int .i64 1] w fun r w' => r = .returned (ln (lnK 0 1) (lnC 0 1 x y)) ∧ Below w.heap.size w w' := by
  rw [lnK01, lnC01]
  exact rline_13 x y 0 (1 + 2 * x) (1 + 2 * y) (2 * x) (2 * y) (2 + 2 * x) (2 * y) (x + y + 1) w (fun W => rcor_0 x y W x1 x2 y1 y2) (by omega) (by omega) (by omega) (by omega) (by omega) (by omega) (by omega) (by omega) (eqf (by omega)) (eqf (by omega)) (eqt (by omega)) (eqf (by omega)) (td2 (by omega)) (by omega) (by omega)

theorem rlin_02 (x y : Int) (w : World) (x1 : -100000 ≤ x) (x2 : x ≤ 100000) (y1 : -100000 ≤ y) (y2 : y ≤ 100000) : Calls Tryd.prog 17 #[cl x y 0, .int .i64 2] w fun r w' => r = .returned (ln (lnK 0 2) (lnC 0 2 x y)) ∧ Below w.heap.size w w' := by
  rw [lnK02, lnC02]
  exact rline_24 x y 0 (1 + 2 * x) (1 + 2 * y) (2 * x) (2 * y) (2 + 2 * x) (2 * y) (y - x) w (fun W => rcor_0 x y W x1 x2 y1 y2) (by omega) (by omega) (by omega) (by omega) (by omega) (by omega) (by omega) (by omega) (eqf (by omega)) (eqf (by omega)) (eqf (by omega)) (eqt (by omega)) (td2 (by omega)) (by omega) (by omega)

theorem rlin_10 (x y : Int) (w : World) (x1 : -100000 ≤ x) (x2 : x ≤ 100000) (y1 : -100000 ≤ y) (y2 : y ≤ 100000) : Calls Tryd.prog 17 #[cl x y 1, .int .i64 0] w fun r w' => r = .returned (ln (lnK 1 0) (lnC 1 0 x y)) ∧ Below w.heap.size w w' := by
  rw [lnK10, lnC10]
  exact rline_01 x y 1 (1 + 2 * x) (1 + 2 * y) (2 + 2 * x) (2 + 2 * y) (2 + 2 * x) (2 * y) (x + 1) w (fun W => rcor_1 x y W x1 x2 y1 y2) (by omega) (by omega) (by omega) (by omega) (by omega) (by omega) (by omega) (by omega) (eqt (by omega)) (eqf (by omega)) (eqf (by omega)) (eqf (by omega)) (td2 (by omega)) (by omega) (by omega)

theorem rlin_11 (x y : Int) (w : World) (x1 : -100000 ≤ x) (x2 : x ≤ 100000) (y1 : -100000 ≤ y) (y2 : y ≤ 100000) : Calls Tryd.prog 17 #[cl x y 1, .int .i64 1] w fun r w' => r = .returned (ln (lnK 1 1) (lnC 1 1 x y)) ∧ Below w.heap.size w w' := by
  rw [lnK11, lnC11]
  exact rline_13 x y 1 (1 + 2 * x) (1 + 2 * y) (2 + 2 * x) (2 + 2 * y) (2 + 2 * x) (2 * y) (x + y + 1) w (fun W => rcor_1 x y W x1 x2 y1 y2) (by omega) (by omega) (by omega) (by omega) (by omega) (by omega) (by omega) (by omega) (eqf (by omega)) (eqf (by omega)) (eqt (by omega)) (eqf (by omega)) (td2 (by omega)) (by omega) (by omega)

theorem rlin_12 (x y : Int) (w : World) (x1 : -100000 ≤ x) (x2 : x ≤ 100000) (y1 : -100000 ≤ y) (y2 : y ≤ 100000) : Calls Tryd.prog 17 #[cl x y 1, .int .i64 2] w fun r w' => r = .returned (ln (lnK 1 2) (lnC 1 2 x y)) ∧ Below w.heap.size w w' := by
  rw [lnK12, lnC12]
  exact rline_24 x y 1 (1 + 2 * x) (1 + 2 * y) (2 + 2 * x) (2 + 2 * y) (2 + 2 * x) (2 * y) (y - x) w (fun W => rcor_1 x y W x1 x2 y1 y2) (by omega) (by omega) (by omega) (by omega) (by omega) (by omega) (by omega) (by omega) (eqf (by omega)) (eqf (by omega)) (eqf (by omega)) (eqt (by omega)) (td2 (by omega)) (by omega) (by omega)

theorem rlin_20 (x y : Int) (w : World) (x1 : -100000 ≤ x) (x2 : x ≤ 100000) (y1 : -100000 ≤ y) (y2 : y ≤ 100000) : Calls Tryd.prog 17 #[cl x y 2, .int .i64 0] w fun r w' => r = .returned (ln (lnK 2 0) (lnC 2 0 x y)) ∧ Below w.heap.size w w' := by
  rw [lnK20, lnC20]
  exact rline_02 x y 2 (1 + 2 * x) (1 + 2 * y) (2 + 2 * x) (2 + 2 * y) (2 * x) (2 + 2 * y) (y + 1) w (fun W => rcor_2 x y W x1 x2 y1 y2) (by omega) (by omega) (by omega) (by omega) (by omega) (by omega) (by omega) (by omega) (eqf (by omega)) (eqt (by omega)) (eqf (by omega)) (eqf (by omega)) (td2 (by omega)) (by omega) (by omega)

theorem rlin_21 (x y : Int) (w : World) (x1 : -100000 ≤ x) (x2 : x ≤ 100000) (y1 : -100000 ≤ y) (y2 : y ≤ 100000) : Calls Tryd.prog 17 #[cl x y 2, .int .i64 1] w fun r w' => r = .returned (ln (lnK 2 1) (lnC 2 1 x y)) ∧ Below w.heap.size w w' := by
  rw [lnK21, lnC21]
  exact rline_13 x y 2 (1 + 2 * x) (1 + 2 * y) (2 + 2 * x) (2 + 2 * y) (2 * x) (2 + 2 * y) (x + y + 1) w (fun W => rcor_2 x y W x1 x2 y1 y2) (by omega) (by omega) (by omega) (by omega) (by omega) (by omega) (by omega) (by omega) (eqf (by omega)) (eqf (by omega)) (eqt (by omega)) (eqf (by omega)) (td2 (by omega)) (by omega) (by omega)

theorem rlin_22 (x y : Int) (w : World) (x1 : -100000 ≤ x) (x2 : x ≤ 100000) (y1 : -100000 ≤ y) (y2 : y ≤ 100000) : Calls Tryd.prog 17 #[cl x y 2, .int .i64 2] w fun r w' => r = .returned (ln (lnK 2 2) (lnC 2 2 x y)) ∧ Below w.heap.size w w' := by
  rw [lnK22, lnC22]
  exact rline_24 x y 2 (1 + 2 * x) (1 + 2 * y) (2 + 2 * x) (2 + 2 * y) (2 * x) (2 + 2 * y) (y - x) w (fun W => rcor_2 x y W x1 x2 y1 y2) (by omega) (by omega) (by omega) (by omega) (by omega) (by omega) (by omega) (by omega) (eqf (by omega)) (eqf (by omega)) (eqf (by omega)) (eqt (by omega)) (td2 (by omega)) (by omega) (by omega)

theorem rlin_30 (x y : Int) (w : World) (x1 : -100000 ≤ x) (x2 : x ≤ 100000) (y1 : -100000 ≤ y) (y2 : y ≤ 100000) : Calls Tryd.prog 17 #[cl x y 3, .int .i64 0] w fun r w' => r = .returned (ln (lnK 3 0) (lnC 3 0 x y)) ∧ Below w.heap.size w w' := by
  rw [lnK30, lnC30]
  exact rline_01 x y 3 (1 + 2 * x) (1 + 2 * y) (2 * x) (2 * y) (2 * x) (2 + 2 * y) (x) w (fun W => rcor_3 x y W x1 x2 y1 y2) (by omega) (by omega) (by omega) (by omega) (by omega) (by omega) (by omega) (by omega) (eqt (by omega)) (eqf (by omega)) (eqf (by omega)) (eqf (by omega)) (td2 (by omega)) (by omega) (by omega)

theorem rlin_31 (x y : Int) (w : World) (x1 : -100000 ≤ x) (x2 : x ≤ 100000) (y1 : -100000 ≤ y) (y2 : y ≤ 100000) : Calls Tryd.prog 17 #[cl x y 3, .int .i64 1] w fun r w' => r = .returned (ln (lnK 3 1) (lnC 3 1 x y)) ∧ Below w.heap.size w w' := by
  rw [lnK31, lnC31]
  exact rline_13 x y 3 (1 + 2 * x) (1 + 2 * y) (2 * x) (2 * y) (2 * x) (2 + 2 * y) (x + y + 1) w (fun W => rcor_3 x y W x1 x2 y1 y2) (by omega) (by omega) (by omega) (by omega) (by omega) (by omega) (by omega) (by omega) (eqf (by omega)) (eqf (by omega)) (eqt (by omega)) (eqf (by omega)) (td2 (by omega)) (by omega) (by omega)

theorem rlin_32 (x y : Int) (w : World) (x1 : -100000 ≤ x) (x2 : x ≤ 100000) (y1 : -100000 ≤ y) (y2 : y ≤ 100000) : Calls Tryd.prog 17 #[cl x y 3, .int .i64 2] w fun r w' => r = .returned (ln (lnK 3 2) (lnC 3 2 x y)) ∧ Below w.heap.size w w' := by
  rw [lnK32, lnC32]
  exact rline_24 x y 3 (1 + 2 * x) (1 + 2 * y) (2 * x) (2 * y) (2 * x) (2 + 2 * y) (y - x) w (fun W => rcor_3 x y W x1 x2 y1 y2) (by omega) (by omega) (by omega) (by omega) (by omega) (by omega) (by omega) (by omega) (eqf (by omega)) (eqf (by omega)) (eqf (by omega)) (eqt (by omega)) (td2 (by omega)) (by omega) (by omega)

theorem rlin_any (x y q e : Int) (w : World) (x1 : -100000 ≤ x) (x2 : x ≤ 100000) (y1 : -100000 ≤ y) (y2 : y ≤ 100000) (q1 : 0 ≤ q) (q2 : q ≤ 3) (e1 : 0 ≤ e) (e2 : e ≤ 2) : Calls Tryd.prog 17 #[cl x y q, .int .i64 e] w fun r w' => r = .returned (ln (lnK q e) (lnC q e x y)) ∧ Below w.heap.size w w' := by
  obtain rfl | rfl | rfl | rfl : q = 0 ∨ q = 1 ∨ q = 2 ∨ q = 3 := by omega
  · obtain rfl | rfl | rfl : e = 0 ∨ e = 1 ∨ e = 2 := by omega
    · exact rlin_00 x y w x1 x2 y1 y2
    · exact rlin_01 x y w x1 x2 y1 y2
    · exact rlin_02 x y w x1 x2 y1 y2
  · obtain rfl | rfl | rfl : e = 0 ∨ e = 1 ∨ e = 2 := by omega
    · exact rlin_10 x y w x1 x2 y1 y2
    · exact rlin_11 x y w x1 x2 y1 y2
    · exact rlin_12 x y w x1 x2 y1 y2
  · obtain rfl | rfl | rfl : e = 0 ∨ e = 1 ∨ e = 2 := by omega
    · exact rlin_20 x y w x1 x2 y1 y2
    · exact rlin_21 x y w x1 x2 y1 y2
    · exact rlin_22 x y w x1 x2 y1 y2
  · obtain rfl | rfl | rfl : e = 0 ∨ e = 1 ∨ e = 2 := by omega
    · exact rlin_30 x y w x1 x2 y1 y2
    · exact rlin_31 x y w x1 x2 y1 y2
    · exact rlin_32 x y w x1 x2 y1 y2

theorem rnei_00 (x y : Int) (w : World) (x1 : -10000 ≤ x) (x2 : x ≤ 10000) (y1 : -10000 ≤ y) (y2 : y ≤ 10000) : Calls Tryd.prog 21 #[cl x y 0, .int .i64 0] w fun r w' => r = .returned (cl (nbX 0 0 x) (nbY 0 0 y) (nbQ 0 0)) ∧ Below w.heap.size w w' := by
  have LI : ∀ W, Calls Tryd.prog 17 #[cl x y 0, .int .i64 0] W fun e w' => e = .returned (ln 2 (y)) ∧ Below W.heap.size W w' := fun W => rlin_00 x y W (by omega) (by omega) (by omega) (by omega)
  rw [nbX00, nbY00, nbQ00]
  exact rnei_of x y 0 0 2 (y) (1 + 2 * x) (1 + 2 * y) (2 * x) (2 * y) (2 + 2 * x) (2 * y) ((1 + 2 * x)) (2 * (2 * (y)) - (1 + 2 * y)) ((2 * x)) (2 * (2 * (y)) - (2 * y)) ((2 + 2 * x)) (2 * (2 * (y)) - (2 * y)) _ _ _ w LI (fun W => rcor_0 x y W (by omega) (by omega) (by omega) (by omega)) (fun W => rreflw_2 (y) (1 + 2 * x) (1 + 2 * y) W (by omega) (by omega) (by omega) (by omega) (by omega) (by omega)) (fun W => rreflw_2 (y) (2 * x) (2 * y) W (by omega) (by omega) (by omega) (by omega) (by omega) (by omega)) (fun W => rreflw_2 (y) (2 + 2 * x) (2 * y) W (by omega) (by omega) (by omega) (by omega) (by omega) (by omega)) (fun W => rwthb (x) (y - 1) 2 _ _ _ _ _ _ _ (by omega) (by omega) (by omega) (by omega) (.inl ⟨rfl, by omega, by omega, by omega, by omega, by omega, by omega⟩))

theorem rnei_01 (x y : Int) (w : World) (x1 : -10000 ≤ x) (x2 : x ≤ 10000) (y1 : -10000 ≤ y) (y2 : y ≤ 10000) : Calls Tryd.prog 21 #[cl x y 0, .int .i64 1] w fun r w' => r = .returned (cl (nbX 0 1 x) (nbY 0 1 y) (nbQ 0 1)) ∧ Below w.heap.size w w' := by
  have LI : ∀ W, Calls Tryd.prog 17 #[cl x y 0, .int .i64 1] W fun e w' => e = .returned (ln 3 (x + y + 1)) ∧ Below W.heap.size W w' := fun W => rlin_01 x y W (by omega) (by omega) (by omega) (by omega)
  rw [nbX01, nbY01, nbQ01]
  exact rnei_of x y 0 1 3 (x + y + 1) (1 + 2 * x) (1 + 2 * y) (2 * x) (2 * y) (2 + 2 * x) (2 * y) ((2 * (x + y + 1)) - (1 + 2 * y)) ((2 * (x + y + 1)) - (1 + 2 * x)) ((2 * (x + y + 1)) - (2 * y)) ((2 * (x + y + 1)) - (2 * x)) ((2 * (x + y + 1)) - (2 * y)) ((2 * (x + y + 1)) - (2 + 2 * x)) _ _ _ w LI (fun W => rcor_0 x y W (by omega) (by omega) (by omega) (by omega)) (fun W => rreflw_3 (x + y + 1) (1 + 2 * x) (1 + 2 * y) W (by omega) (by omega) (by omega) (by omega) (by omega) (by omega)) (fun W => rreflw_3 (x + y + 1) (2 * x) (2 * y) W (by omega) (by omega) (by omega) (by omega) (by omega) (by omega)) (fun W => rreflw_3 (x + y + 1) (2 + 2 * x) (2 * y) W (by omega) (by omega) (by omega) (by omega) (by omega) (by omega)) (fun W => rwtha (x) (y) 1 _ _ _ _ _ _ _ (by omega) (by omega) (by omega) (by omega) (.inr (.inr (.inl ⟨rfl, by omega, by omega, by omega, by omega, by omega, by omega⟩))))

theorem rnei_02 (x y : Int) (w : World) (x1 : -10000 ≤ x) (x2 : x ≤ 10000) (y1 : -10000 ≤ y) (y2 : y ≤ 10000) : Calls Tryd.prog 21 #[cl x y 0, .int .i64 2] w fun r w' => r = .returned (cl (nbX 0 2 x) (nbY 0 2 y) (nbQ 0 2)) ∧ Below w.heap.size w w' := by
  have LI : ∀ W, Calls Tryd.prog 17 #[cl x y 0, .int .i64 2] W fun e w' => e = .returned (ln 4 (y - x)) ∧ Below W.heap.size W w' := fun W => rlin_02 x y W (by omega) (by omega) (by omega) (by omega)
  rw [nbX02, nbY02, nbQ02]
  exact rnei_of x y 0 2 4 (y - x) (1 + 2 * x) (1 + 2 * y) (2 * x) (2 * y) (2 + 2 * x) (2 * y) ((1 + 2 * y) - (2 * (y - x))) ((1 + 2 * x) + (2 * (y - x))) ((2 * y) - (2 * (y - x))) ((2 * x) + (2 * (y - x))) ((2 * y) - (2 * (y - x))) ((2 + 2 * x) + (2 * (y - x))) _ _ _ w LI (fun W => rcor_0 x y W (by omega) (by omega) (by omega) (by omega)) (fun W => rreflw_4 (y - x) (1 + 2 * x) (1 + 2 * y) W (by omega) (by omega) (by omega) (by omega) (by omega) (by omega)) (fun W => rreflw_4 (y - x) (2 * x) (2 * y) W (by omega) (by omega) (by omega) (by omega) (by omega) (by omega)) (fun W => rreflw_4 (y - x) (2 + 2 * x) (2 * y) W (by omega) (by omega) (by omega) (by omega) (by omega) (by omega)) (fun W => rwthb (x) (y) 3 _ _ _ _ _ _ _ (by omega) (by omega) (by omega) (by omega) (.inr (.inl ⟨rfl, by omega, by omega, by omega, by omega, by omega, by omega⟩)))

theorem rnei_10 (x y : Int) (w : World) (x1 : -10000 ≤ x) (x2 : x ≤ 10000) (y1 : -10000 ≤ y) (y2 : y ≤ 10000) : Calls Tryd.prog 21 #[cl x y 1, .int .i64 0] w fun r w' => r = .returned (cl (nbX 1 0 x) (nbY 1 0 y) (nbQ 1 0)) ∧ Below w.heap.size w w' := by
  have LI : ∀ W, Calls Tryd.prog 17 #[cl x y 1, .int .i64 0] W fun e w' => e = .returned (ln 1 (x + 1)) ∧ Below W.heap.size W w' := fun W => rlin_10 x y W (by omega) (by omega) (by omega) (by omega)
  rw [nbX10, nbY10, nbQ10]
  exact rnei_of x y 1 0 1 (x + 1) (1 + 2 * x) (1 + 2 * y) (2 + 2 * x) (2 + 2 * y) (2 + 2 * x) (2 * y) (2 * (2 * (x + 1)) - (1 + 2 * x)) ((1 + 2 * y)) (2 * (2 * (x + 1)) - (2 + 2 * x)) ((2 + 2 * y)) (2 * (2 * (x + 1)) - (2 + 2 * x)) ((2 * y)) _ _ _ w LI (fun W => rcor_1 x y W (by omega) (by omega) (by omega) (by omega)) (fun W => rreflw_1 (x + 1) (1 + 2 * x) (1 + 2 * y) W (by omega) (by omega) (by omega) (by omega) (by omega) (by omega)) (fun W => rreflw_1 (x + 1) (2 + 2 * x) (2 + 2 * y) W (by omega) (by omega) (by omega) (by omega) (by omega) (by omega)) (fun W => rreflw_1 (x + 1) (2 + 2 * x) (2 * y) W (by omega) (by omega) (by omega) (by omega) (by omega) (by omega)) (fun W => rwthb (x + 1) (y) 3 _ _ _ _ _ _ _ (by omega) (by omega) (by omega) (by omega) (.inr (.inr (⟨rfl, by omega, by omega, by omega, by omega, by omega, by omega⟩))))

theorem rnei_11 (x y : Int) (w : World) (x1 : -10000 ≤ x) (x2 : x ≤ 10000) (y1 : -10000 ≤ y) (y2 : y ≤ 10000) : Calls Tryd.prog 21 #[cl x y 1, .int .i64 1] w fun r w' => r = .returned (cl (nbX 1 1 x) (nbY 1 1 y) (nbQ 1 1)) ∧ Below w.heap.size w w' := by
  have LI : ∀ W, Calls Tryd.prog 17 #[cl x y 1, .int .i64 1] W fun e w' => e = .returned (ln 3 (x + y + 1)) ∧ Below W.heap.size W w' := fun W => rlin_11 x y W (by omega) (by omega) (by omega) (by omega)
  rw [nbX11, nbY11, nbQ11]
  exact rnei_of x y 1 1 3 (x + y + 1) (1 + 2 * x) (1 + 2 * y) (2 + 2 * x) (2 + 2 * y) (2 + 2 * x) (2 * y) ((2 * (x + y + 1)) - (1 + 2 * y)) ((2 * (x + y + 1)) - (1 + 2 * x)) ((2 * (x + y + 1)) - (2 + 2 * y)) ((2 * (x + y + 1)) - (2 + 2 * x)) ((2 * (x + y + 1)) - (2 * y)) ((2 * (x + y + 1)) - (2 + 2 * x)) _ _ _ w LI (fun W => rcor_1 x y W (by omega) (by omega) (by omega) (by omega)) (fun W => rreflw_3 (x + y + 1) (1 + 2 * x) (1 + 2 * y) W (by omega) (by omega) (by omega) (by omega) (by omega) (by omega)) (fun W => rreflw_3 (x + y + 1) (2 + 2 * x) (2 + 2 * y) W (by omega) (by omega) (by omega) (by omega) (by omega) (by omega)) (fun W => rreflw_3 (x + y + 1) (2 + 2 * x) (2 * y) W (by omega) (by omega) (by omega) (by omega) (by omega) (by omega)) (fun W => rwtha (x) (y) 0 _ _ _ _ _ _ _ (by omega) (by omega) (by omega) (by omega) (.inl ⟨rfl, by omega, by omega, by omega, by omega, by omega, by omega⟩))

theorem rnei_12 (x y : Int) (w : World) (x1 : -10000 ≤ x) (x2 : x ≤ 10000) (y1 : -10000 ≤ y) (y2 : y ≤ 10000) : Calls Tryd.prog 21 #[cl x y 1, .int .i64 2] w fun r w' => r = .returned (cl (nbX 1 2 x) (nbY 1 2 y) (nbQ 1 2)) ∧ Below w.heap.size w w' := by
  have LI : ∀ W, Calls Tryd.prog 17 #[cl x y 1, .int .i64 2] W fun e w' => e = .returned (ln 4 (y - x)) ∧ Below W.heap.size W w' := fun W => rlin_12 x y W (by omega) (by omega) (by omega) (by omega)
  rw [nbX12, nbY12, nbQ12]
  exact rnei_of x y 1 2 4 (y - x) (1 + 2 * x) (1 + 2 * y) (2 + 2 * x) (2 + 2 * y) (2 + 2 * x) (2 * y) ((1 + 2 * y) - (2 * (y - x))) ((1 + 2 * x) + (2 * (y - x))) ((2 + 2 * y) - (2 * (y - x))) ((2 + 2 * x) + (2 * (y - x))) ((2 * y) - (2 * (y - x))) ((2 + 2 * x) + (2 * (y - x))) _ _ _ w LI (fun W => rcor_1 x y W (by omega) (by omega) (by omega) (by omega)) (fun W => rreflw_4 (y - x) (1 + 2 * x) (1 + 2 * y) W (by omega) (by omega) (by omega) (by omega) (by omega) (by omega)) (fun W => rreflw_4 (y - x) (2 + 2 * x) (2 + 2 * y) W (by omega) (by omega) (by omega) (by omega) (by omega) (by omega)) (fun W => rreflw_4 (y - x) (2 + 2 * x) (2 * y) W (by omega) (by omega) (by omega) (by omega) (by omega) (by omega)) (fun W => rwtha (x) (y) 2 _ _ _ _ _ _ _ (by omega) (by omega) (by omega) (by omega) (.inr (.inr (.inr (.inr (⟨rfl, by omega, by omega, by omega, by omega, by omega, by omega⟩))))))

theorem rnei_20 (x y : Int) (w : World) (x1 : -10000 ≤ x) (x2 : x ≤ 10000) (y1 : -10000 ≤ y) (y2 : y ≤ 10000) : Calls Tryd.prog 21 #[cl x y 2, .int .i64 0] w fun r w' => r = .returned (cl (nbX 2 0 x) (nbY 2 0 y) (nbQ 2 0)) ∧ Below w.heap.size w w' := by
  have LI : ∀ W, Calls Tryd.prog 17 #[cl x y 2, .int .i64 0] W fun e w' => e = .returned (ln 2 (y + 1)) ∧ Below W.heap.size W w' := fun W => rlin_20 x y W (by omega) (by omega) (by omega) (by omega)
  rw [nbX20, nbY20, nbQ20]
  exact rnei_of x y 2 0 2 (y + 1) (1 + 2 * x) (1 + 2 * y) (2 + 2 * x) (2 + 2 * y) (2 * x) (2 + 2 * y) ((1 + 2 * x)) (2 * (2 * (y + 1)) - (1 + 2 * y)) ((2 + 2 * x)) (2 * (2 * (y + 1)) - (2 + 2 * y)) ((2 * x)) (2 * (2 * (y + 1)) - (2 + 2 * y)) _ _ _ w LI (fun W => rcor_2 x y W (by omega) (by omega) (by omega) (by omega)) (fun W => rreflw_2 (y + 1) (1 + 2 * x) (1 + 2 * y) W (by omega) (by omega) (by omega) (by omega) (by omega) (by omega)) (fun W => rreflw_2 (y + 1) (2 + 2 * x) (2 + 2 * y) W (by omega) (by omega) (by omega) (by omega) (by omega) (by omega)) (fun W => rreflw_2 (y + 1) (2 * x) (2 + 2 * y) W (by omega) (by omega) (by omega) (by omega) (by omega) (by omega)) (fun W => rwtha (x) (y + 1) 0 _ _ _ _ _ _ _ (by omega) (by omega) (by omega) (by omega) (.inr (.inl ⟨rfl, by omega, by omega, by omega, by omega, by omega, by omega⟩)))

theorem rnei_21 (x y : Int) (w : World) (x1 : -10000 ≤ x) (x2 : x ≤ 10000) (y1 : -10000 ≤ y) (y2 : y ≤ 10000) : Calls Tryd.prog 21 #[cl x y 2, .int .i64 1] w fun r w' => r = .returned (cl (nbX 2 1 x) (nbY 2 1 y) (nbQ 2 1)) ∧ Below w.heap.size w w' := by
  have LI : ∀ W, Calls Tryd.prog 17 #[cl x y 2, .int .i64 1] W fun e w' => e = .returned (ln 3 (x + y + 1)) ∧ Below W.heap.size W w' := fun W => rlin_21 x y W (by omega) (by omega) (by omega) (by omega)
  rw [nbX21, nbY21, nbQ21]
  exact rnei_of x y 2 1 3 (x + y + 1) (1 + 2 * x) (1 + 2 * y) (2 + 2 * x) (2 + 2 * y) (2 * x) (2 + 2 * y) ((2 * (x + y + 1)) - (1 + 2 * y)) ((2 * (x + y + 1)) - (1 + 2 * x)) ((2 * (x + y + 1)) - (2 + 2 * y)) ((2 * (x + y + 1)) - (2 + 2 * x)) ((2 * (x + y + 1)) - (2 + 2 * y)) ((2 * (x + y + 1)) - (2 * x)) _ _ _ w LI (fun W => rcor_2 x y W (by omega) (by omega) (by omega) (by omega)) (fun W => rreflw_3 (x + y + 1) (1 + 2 * x) (1 + 2 * y) W (by omega) (by omega) (by omega) (by omega) (by omega) (by omega)) (fun W => rreflw_3 (x + y + 1) (2 + 2 * x) (2 + 2 * y) W (by omega) (by omega) (by omega) (by omega) (by omega) (by omega)) (fun W => rreflw_3 (x + y + 1) (2 * x) (2 + 2 * y) W (by omega) (by omega) (by omega) (by omega) (by omega) (by omega)) (fun W => rwthb (x) (y) 3 _ _ _ _ _ _ _ (by omega) (by omega) (by omega) (by omega) (.inr (.inl ⟨rfl, by omega, by omega, by omega, by omega, by omega, by omega⟩)))

theorem rnei_22 (x y : Int) (w : World) (x1 : -10000 ≤ x) (x2 : x ≤ 10000) (y1 : -10000 ≤ y) (y2 : y ≤ 10000) : Calls Tryd.prog 21 #[cl x y 2, .int .i64 2] w fun r w' => r = .returned (cl (nbX 2 2 x) (nbY 2 2 y) (nbQ 2 2)) ∧ Below w.heap.size w w' := by
  have LI : ∀ W, Calls Tryd.prog 17 #[cl x y 2, .int .i64 2] W fun e w' => e = .returned (ln 4 (y - x)) ∧ Below W.heap.size W w' := fun W => rlin_22 x y W (by omega) (by omega) (by omega) (by omega)
  rw [nbX22, nbY22, nbQ22]
  exact rnei_of x y 2 2 4 (y - x) (1 + 2 * x) (1 + 2 * y) (2 + 2 * x) (2 + 2 * y) (2 * x) (2 + 2 * y) ((1 + 2 * y) - (2 * (y - x))) ((1 + 2 * x) + (2 * (y - x))) ((2 + 2 * y) - (2 * (y - x))) ((2 + 2 * x) + (2 * (y - x))) ((2 + 2 * y) - (2 * (y - x))) ((2 * x) + (2 * (y - x))) _ _ _ w LI (fun W => rcor_2 x y W (by omega) (by omega) (by omega) (by omega)) (fun W => rreflw_4 (y - x) (1 + 2 * x) (1 + 2 * y) W (by omega) (by omega) (by omega) (by omega) (by omega) (by omega)) (fun W => rreflw_4 (y - x) (2 + 2 * x) (2 + 2 * y) W (by omega) (by omega) (by omega) (by omega) (by omega) (by omega)) (fun W => rreflw_4 (y - x) (2 * x) (2 + 2 * y) W (by omega) (by omega) (by omega) (by omega) (by omega) (by omega)) (fun W => rwtha (x) (y) 1 _ _ _ _ _ _ _ (by omega) (by omega) (by omega) (by omega) (.inr (.inr (.inl ⟨rfl, by omega, by omega, by omega, by omega, by omega, by omega⟩))))

theorem rnei_30 (x y : Int) (w : World) (x1 : -10000 ≤ x) (x2 : x ≤ 10000) (y1 : -10000 ≤ y) (y2 : y ≤ 10000) : Calls Tryd.prog 21 #[cl x y 3, .int .i64 0] w fun r w' => r = .returned (cl (nbX 3 0 x) (nbY 3 0 y) (nbQ 3 0)) ∧ Below w.heap.size w w' := by
  have LI : ∀ W, Calls Tryd.prog 17 #[cl x y 3, .int .i64 0] W fun e w' => e = .returned (ln 1 (x)) ∧ Below W.heap.size W w' := fun W => rlin_30 x y W (by omega) (by omega) (by omega) (by omega)
  rw [nbX30, nbY30, nbQ30]
  exact rnei_of x y 3 0 1 (x) (1 + 2 * x) (1 + 2 * y) (2 * x) (2 * y) (2 * x) (2 + 2 * y) (2 * (2 * (x)) - (1 + 2 * x)) ((1 + 2 * y)) (2 * (2 * (x)) - (2 * x)) ((2 * y)) (2 * (2 * (x)) - (2 * x)) ((2 + 2 * y)) _ _ _ w LI (fun W => rcor_3 x y W (by omega) (by omega) (by omega) (by omega)) (fun W => rreflw_1 (x) (1 + 2 * x) (1 + 2 * y) W (by omega) (by omega) (by omega) (by omega) (by omega) (by omega)) (fun W => rreflw_1 (x) (2 * x) (2 * y) W (by omega) (by omega) (by omega) (by omega) (by omega) (by omega)) (fun W => rreflw_1 (x) (2 * x) (2 + 2 * y) W (by omega) (by omega) (by omega) (by omega) (by omega) (by omega)) (fun W => rwtha (x - 1) (y) 1 _ _ _ _ _ _ _ (by omega) (by omega) (by omega) (by omega) (.inr (.inr (.inr (.inl ⟨rfl, by omega, by omega, by omega, by omega, by omega, by omega⟩)))))

theorem rnei_31 (x y : Int) (w : World) (x1 : -10000 ≤ x) (x2 : x ≤ 10000) (y1 : -10000 ≤ y) (y2 : y ≤ 10000) : Calls Tryd.prog 21 #[cl x y 3, .int .i64 1] w fun r w' => r = .returned (cl (nbX 3 1 x) (nbY 3 1 y) (nbQ 3 1)) ∧ Below w.heap.size w w' := by
  have LI : ∀ W, Calls Tryd.prog 17 #[cl x y 3, .int .i64 1] W fun e w' => e = .returned (ln 3 (x + y + 1)) ∧ Below W.heap.size W w' := fun W => rlin_31 x y W (by omega) (by omega) (by omega) (by omega)
  rw [nbX31, nbY31, nbQ31]
  exact rnei_of x y 3 1 3 (x + y + 1) (1 + 2 * x) (1 + 2 * y) (2 * x) (2 * y) (2 * x) (2 + 2 * y) ((2 * (x + y + 1)) - (1 + 2 * y)) ((2 * (x + y + 1)) - (1 + 2 * x)) ((2 * (x + y + 1)) - (2 * y)) ((2 * (x + y + 1)) - (2 * x)) ((2 * (x + y + 1)) - (2 + 2 * y)) ((2 * (x + y + 1)) - (2 * x)) _ _ _ w LI (fun W => rcor_3 x y W (by omega) (by omega) (by omega) (by omega)) (fun W => rreflw_3 (x + y + 1) (1 + 2 * x) (1 + 2 * y) W (by omega) (by omega) (by omega) (by omega) (by omega) (by omega)) (fun W => rreflw_3 (x + y + 1) (2 * x) (2 * y) W (by omega) (by omega) (by omega) (by omega) (by omega) (by omega)) (fun W => rreflw_3 (x + y + 1) (2 * x) (2 + 2 * y) W (by omega) (by omega) (by omega) (by omega) (by omega) (by omega)) (fun W => rwtha (x) (y) 2 _ _ _ _ _ _ _ (by omega) (by omega) (by omega) (by omega) (.inr (.inr (.inr (.inr (⟨rfl, by omega, by omega, by omega, by omega, by omega, by omega⟩))))))

theorem rnei_32 (x y : Int) (w : World) (x1 : -10000 ≤ x) (x2 : x ≤ 10000) (y1 : -10000 ≤ y) (y2 : y ≤ 10000) : Calls Tryd.prog 21 #[cl x y 3, .int .i64 2] w fun r w' => r = .returned (cl (nbX 3 2 x) (nbY 3 2 y) (nbQ 3 2)) ∧ Below w.heap.size w w' := by
  have LI : ∀ W, Calls Tryd.prog 17 #[cl x y 3, .int .i64 2] W fun e w' => e = .returned (ln 4 (y - x)) ∧ Below W.heap.size W w' := fun W => rlin_32 x y W (by omega) (by omega) (by omega) (by omega)
  rw [nbX32, nbY32, nbQ32]
  exact rnei_of x y 3 2 4 (y - x) (1 + 2 * x) (1 + 2 * y) (2 * x) (2 * y) (2 * x) (2 + 2 * y) ((1 + 2 * y) - (2 * (y - x))) ((1 + 2 * x) + (2 * (y - x))) ((2 * y) - (2 * (y - x))) ((2 * x) + (2 * (y - x))) ((2 + 2 * y) - (2 * (y - x))) ((2 * x) + (2 * (y - x))) _ _ _ w LI (fun W => rcor_3 x y W (by omega) (by omega) (by omega) (by omega)) (fun W => rreflw_4 (y - x) (1 + 2 * x) (1 + 2 * y) W (by omega) (by omega) (by omega) (by omega) (by omega) (by omega)) (fun W => rreflw_4 (y - x) (2 * x) (2 * y) W (by omega) (by omega) (by omega) (by omega) (by omega) (by omega)) (fun W => rreflw_4 (y - x) (2 * x) (2 + 2 * y) W (by omega) (by omega) (by omega) (by omega) (by omega) (by omega)) (fun W => rwtha (x) (y) 0 _ _ _ _ _ _ _ (by omega) (by omega) (by omega) (by omega) (.inl ⟨rfl, by omega, by omega, by omega, by omega, by omega, by omega⟩))

theorem rnei_any (x y q e : Int) (w : World) (x1 : -10000 ≤ x) (x2 : x ≤ 10000) (y1 : -10000 ≤ y) (y2 : y ≤ 10000) (q1 : 0 ≤ q) (q2 : q ≤ 3) (e1 : 0 ≤ e) (e2 : e ≤ 2) : Calls Tryd.prog 21 #[cl x y q, .int .i64 e] w fun r w' => r = .returned (cl (nbX q e x) (nbY q e y) (nbQ q e)) ∧ Below w.heap.size w w' := by
  obtain rfl | rfl | rfl | rfl : q = 0 ∨ q = 1 ∨ q = 2 ∨ q = 3 := by omega
  · obtain rfl | rfl | rfl : e = 0 ∨ e = 1 ∨ e = 2 := by omega
    · exact rnei_00 x y w x1 x2 y1 y2
    · exact rnei_01 x y w x1 x2 y1 y2
    · exact rnei_02 x y w x1 x2 y1 y2
  · obtain rfl | rfl | rfl : e = 0 ∨ e = 1 ∨ e = 2 := by omega
    · exact rnei_10 x y w x1 x2 y1 y2
    · exact rnei_11 x y w x1 x2 y1 y2
    · exact rnei_12 x y w x1 x2 y1 y2
  · obtain rfl | rfl | rfl : e = 0 ∨ e = 1 ∨ e = 2 := by omega
    · exact rnei_20 x y w x1 x2 y1 y2
    · exact rnei_21 x y w x1 x2 y1 y2
    · exact rnei_22 x y w x1 x2 y1 y2
  · obtain rfl | rfl | rfl : e = 0 ∨ e = 1 ∨ e = 2 := by omega
    · exact rnei_30 x y w x1 x2 y1 y2
    · exact rnei_31 x y w x1 x2 y1 y2
    · exact rnei_32 x y w x1 x2 y1 y2

theorem rmove_any (t X Y x y q : Int) (w : World) (a1 : 0 ≤ t) (a2 : t ≤ 7) (a3 : -16384 ≤ X) (a4 : X ≤ 16384) (a5 : -16384 ≤ Y) (a6 : Y ≤ 16384) (a7 : (X + Y) % 2 = 0) (x1 : -5000 ≤ x) (x2 : x ≤ 5000) (y1 : -5000 ≤ y) (y2 : y ≤ 5000) (q1 : 0 ≤ q) (q2 : q ≤ 3) : Calls Tryd.prog 27 #[mv t X Y, cl x y q] w fun e w' => e = .returned (cl (imX t X x y) (imY t Y x y) (imQ t q)) ∧ Below w.heap.size w w' := by
  have r1 := imX_range t X x y 5000 a1 a2 a3 a4 x1 x2 y1 y2
  have r2 := imY_range t Y x y 5000 a1 a2 a5 a6 x1 x2 y1 y2
  have rp : ∀ u v : Int, -20000 ≤ u → u ≤ 20000 → -20000 ≤ v → v ≤ 20000 → -65536 ≤ mvx t u v + 2 * X ∧ mvx t u v + 2 * X ≤ 65536 ∧ -65536 ≤ mvy t u v + 2 * Y ∧ mvy t u v + 2 * Y ≤ 65536 := fun u v g1 g2 g3 g4 => by
    have := mvx_range 20000 t u v a1 a2 g1 g2 g3 g4
    have := mvy_range 20000 t u v a1 a2 g1 g2 g3 g4
    omega
  have PO : ∀ u v : Int, -20000 ≤ u → u ≤ 20000 → -20000 ≤ v → v ≤ 20000 → ∀ W, Calls Tryd.prog 54 #[mv t X Y, pt u v] W fun e w' => e = .returned (pt (mvx t u v + 2 * X) (mvy t u v + 2 * Y)) ∧ Below W.heap.size W w' := fun u v g1 g2 g3 g4 W =>
    rpoint_any t X Y u v W a1 a2 (by omega) (by omega) (by omega) (by omega) (by omega) (by omega) (by omega) (by omega)
  obtain rfl | rfl | rfl | rfl : q = 0 ∨ q = 1 ∨ q = 2 ∨ q = 3 := by omega
  · obtain rfl | rfl | rfl | rfl | rfl | rfl | rfl | rfl : t = 0 ∨ t = 1 ∨ t = 2 ∨ t = 3 ∨ t = 4 ∨ t = 5 ∨ t = 6 ∨ t = 7 := by omega
    · obtain ⟨e0, e1, e2, e3, e4, e5⟩ := imc_00 X Y x y
      refine rmove_of 0 X Y x y 0 (1 + 2 * x) (1 + 2 * y) (2 * x) (2 * y) (2 + 2 * x) (2 * y) _ _ _ _ _ _ _ _ _ w (fun W => rcor_0 x y W (by omega) (by omega) (by omega) (by omega)) (PO (1 + 2 * x) (1 + 2 * y) (by omega) (by omega) (by omega) (by omega)) (PO (2 * x) (2 * y) (by omega) (by omega) (by omega) (by omega)) (PO (2 + 2 * x) (2 * y) (by omega) (by omega) (by omega) (by omega)) (fun W => ?_)
      rw [e0, e1, e2, e3, e4, e5]
      exact rwth_00 (imX 0 X x y) (imY 0 Y x y) W (by omega) (by omega) (by omega) (by omega)
    · obtain ⟨e0, e1, e2, e3, e4, e5⟩ := imc_10 X Y x y
      refine rmove_of 1 X Y x y 0 (1 + 2 * x) (1 + 2 * y) (2 * x) (2 * y) (2 + 2 * x) (2 * y) _ _ _ _ _ _ _ _ _ w (fun W => rcor_0 x y W (by omega) (by omega) (by omega) (by omega)) (PO (1 + 2 * x) (1 + 2 * y) (by omega) (by omega) (by omega) (by omega)) (PO (2 * x) (2 * y) (by omega) (by omega) (by omega) (by omega)) (PO (2 + 2 * x) (2 * y) (by omega) (by omega) (by omega) (by omega)) (fun W => ?_)
      rw [e0, e1, e2, e3, e4, e5]
      exact rwth_11 (imX 1 X x y) (imY 1 Y x y) W (by omega) (by omega) (by omega) (by omega)
    · obtain ⟨e0, e1, e2, e3, e4, e5⟩ := imc_20 X Y x y
      refine rmove_of 2 X Y x y 0 (1 + 2 * x) (1 + 2 * y) (2 * x) (2 * y) (2 + 2 * x) (2 * y) _ _ _ _ _ _ _ _ _ w (fun W => rcor_0 x y W (by omega) (by omega) (by omega) (by omega)) (PO (1 + 2 * x) (1 + 2 * y) (by omega) (by omega) (by omega) (by omega)) (PO (2 * x) (2 * y) (by omega) (by omega) (by omega) (by omega)) (PO (2 + 2 * x) (2 * y) (by omega) (by omega) (by omega) (by omega)) (fun W => ?_)
      rw [e0, e1, e2, e3, e4, e5]
      exact rwth_20 (imX 2 X x y) (imY 2 Y x y) W (by omega) (by omega) (by omega) (by omega)
    · obtain ⟨e0, e1, e2, e3, e4, e5⟩ := imc_30 X Y x y
      refine rmove_of 3 X Y x y 0 (1 + 2 * x) (1 + 2 * y) (2 * x) (2 * y) (2 + 2 * x) (2 * y) _ _ _ _ _ _ _ _ _ w (fun W => rcor_0 x y W (by omega) (by omega) (by omega) (by omega)) (PO (1 + 2 * x) (1 + 2 * y) (by omega) (by omega) (by omega) (by omega)) (PO (2 * x) (2 * y) (by omega) (by omega) (by omega) (by omega)) (PO (2 + 2 * x) (2 * y) (by omega) (by omega) (by omega) (by omega)) (fun W => ?_)
      rw [e0, e1, e2, e3, e4, e5]
      exact rwth_31 (imX 3 X x y) (imY 3 Y x y) W (by omega) (by omega) (by omega) (by omega)
    · obtain ⟨e0, e1, e2, e3, e4, e5⟩ := imc_40 X Y x y
      refine rmove_of 4 X Y x y 0 (1 + 2 * x) (1 + 2 * y) (2 * x) (2 * y) (2 + 2 * x) (2 * y) _ _ _ _ _ _ _ _ _ w (fun W => rcor_0 x y W (by omega) (by omega) (by omega) (by omega)) (PO (1 + 2 * x) (1 + 2 * y) (by omega) (by omega) (by omega) (by omega)) (PO (2 * x) (2 * y) (by omega) (by omega) (by omega) (by omega)) (PO (2 + 2 * x) (2 * y) (by omega) (by omega) (by omega) (by omega)) (fun W => ?_)
      rw [e0, e1, e2, e3, e4, e5]
      exact rwth_01 (imX 4 X x y) (imY 4 Y x y) W (by omega) (by omega) (by omega) (by omega)
    · obtain ⟨e0, e1, e2, e3, e4, e5⟩ := imc_50 X Y x y
      refine rmove_of 5 X Y x y 0 (1 + 2 * x) (1 + 2 * y) (2 * x) (2 * y) (2 + 2 * x) (2 * y) _ _ _ _ _ _ _ _ _ w (fun W => rcor_0 x y W (by omega) (by omega) (by omega) (by omega)) (PO (1 + 2 * x) (1 + 2 * y) (by omega) (by omega) (by omega) (by omega)) (PO (2 * x) (2 * y) (by omega) (by omega) (by omega) (by omega)) (PO (2 + 2 * x) (2 * y) (by omega) (by omega) (by omega) (by omega)) (fun W => ?_)
      rw [e0, e1, e2, e3, e4, e5]
      exact rwth_10 (imX 5 X x y) (imY 5 Y x y) W (by omega) (by omega) (by omega) (by omega)
    · obtain ⟨e0, e1, e2, e3, e4, e5⟩ := imc_60 X Y x y
      refine rmove_of 6 X Y x y 0 (1 + 2 * x) (1 + 2 * y) (2 * x) (2 * y) (2 + 2 * x) (2 * y) _ _ _ _ _ _ _ _ _ w (fun W => rcor_0 x y W (by omega) (by omega) (by omega) (by omega)) (PO (1 + 2 * x) (1 + 2 * y) (by omega) (by omega) (by omega) (by omega)) (PO (2 * x) (2 * y) (by omega) (by omega) (by omega) (by omega)) (PO (2 + 2 * x) (2 * y) (by omega) (by omega) (by omega) (by omega)) (fun W => ?_)
      rw [e0, e1, e2, e3, e4, e5]
      exact rwth_21 (imX 6 X x y) (imY 6 Y x y) W (by omega) (by omega) (by omega) (by omega)
    · obtain ⟨e0, e1, e2, e3, e4, e5⟩ := imc_70 X Y x y
      refine rmove_of 7 X Y x y 0 (1 + 2 * x) (1 + 2 * y) (2 * x) (2 * y) (2 + 2 * x) (2 * y) _ _ _ _ _ _ _ _ _ w (fun W => rcor_0 x y W (by omega) (by omega) (by omega) (by omega)) (PO (1 + 2 * x) (1 + 2 * y) (by omega) (by omega) (by omega) (by omega)) (PO (2 * x) (2 * y) (by omega) (by omega) (by omega) (by omega)) (PO (2 + 2 * x) (2 * y) (by omega) (by omega) (by omega) (by omega)) (fun W => ?_)
      rw [e0, e1, e2, e3, e4, e5]
      exact rwth_30 (imX 7 X x y) (imY 7 Y x y) W (by omega) (by omega) (by omega) (by omega)
  · obtain rfl | rfl | rfl | rfl | rfl | rfl | rfl | rfl : t = 0 ∨ t = 1 ∨ t = 2 ∨ t = 3 ∨ t = 4 ∨ t = 5 ∨ t = 6 ∨ t = 7 := by omega
    · obtain ⟨e0, e1, e2, e3, e4, e5⟩ := imc_01 X Y x y
      refine rmove_of 0 X Y x y 1 (1 + 2 * x) (1 + 2 * y) (2 + 2 * x) (2 + 2 * y) (2 + 2 * x) (2 * y) _ _ _ _ _ _ _ _ _ w (fun W => rcor_1 x y W (by omega) (by omega) (by omega) (by omega)) (PO (1 + 2 * x) (1 + 2 * y) (by omega) (by omega) (by omega) (by omega)) (PO (2 + 2 * x) (2 + 2 * y) (by omega) (by omega) (by omega) (by omega)) (PO (2 + 2 * x) (2 * y) (by omega) (by omega) (by omega) (by omega)) (fun W => ?_)
      rw [e0, e1, e2, e3, e4, e5]
      exact rwth_10 (imX 0 X x y) (imY 0 Y x y) W (by omega) (by omega) (by omega) (by omega)
    · obtain ⟨e0, e1, e2, e3, e4, e5⟩ := imc_11 X Y x y
      refine rmove_of 1 X Y x y 1 (1 + 2 * x) (1 + 2 * y) (2 + 2 * x) (2 + 2 * y) (2 + 2 * x) (2 * y) _ _ _ _ _ _ _ _ _ w (fun W => rcor_1 x y W (by omega) (by omega) (by omega) (by omega)) (PO (1 + 2 * x) (1 + 2 * y) (by omega) (by omega) (by omega) (by omega)) (PO (2 + 2 * x) (2 + 2 * y) (by omega) (by omega) (by omega) (by omega)) (PO (2 + 2 * x) (2 * y) (by omega) (by omega) (by omega) (by omega)) (fun W => ?_)
      rw [e0, e1, e2, e3, e4, e5]
      exact rwth_21 (imX 1 X x y) (imY 1 Y x y) W (by omega) (by omega) (by omega) (by omega)
    · obtain ⟨e0, e1, e2, e3, e4, e5⟩ := imc_21 X Y x y
      refine rmove_of 2 X Y x y 1 (1 + 2 * x) (1 + 2 * y) (2 + 2 * x) (2 + 2 * y) (2 + 2 * x) (2 * y) _ _ _ _ _ _ _ _ _ w (fun W => rcor_1 x y W (by omega) (by omega) (by omega) (by omega)) (PO (1 + 2 * x) (1 + 2 * y) (by omega) (by omega) (by omega) (by omega)) (PO (2 + 2 * x) (2 + 2 * y) (by omega) (by omega) (by omega) (by omega)) (PO (2 + 2 * x) (2 * y) (by omega) (by omega) (by omega) (by omega)) (fun W => ?_)
      rw [e0, e1, e2, e3, e4, e5]
      exact rwth_30 (imX 2 X x y) (imY 2 Y x y) W (by omega) (by omega) (by omega) (by omega)
    · obtain ⟨e0, e1, e2, e3, e4, e5⟩ := imc_31 X Y x y
      refine rmove_of 3 X Y x y 1 (1 + 2 * x) (1 + 2 * y) (2 + 2 * x) (2 + 2 * y) (2 + 2 * x) (2 * y) _ _ _ _ _ _ _ _ _ w (fun W => rcor_1 x y W (by omega) (by omega) (by omega) (by omega)) (PO (1 + 2 * x) (1 + 2 * y) (by omega) (by omega) (by omega) (by omega)) (PO (2 + 2 * x) (2 + 2 * y) (by omega) (by omega) (by omega) (by omega)) (PO (2 + 2 * x) (2 * y) (by omega) (by omega) (by omega) (by omega)) (fun W => ?_)
      rw [e0, e1, e2, e3, e4, e5]
      exact rwth_01 (imX 3 X x y) (imY 3 Y x y) W (by omega) (by omega) (by omega) (by omega)
    · obtain ⟨e0, e1, e2, e3, e4, e5⟩ := imc_41 X Y x y
      refine rmove_of 4 X Y x y 1 (1 + 2 * x) (1 + 2 * y) (2 + 2 * x) (2 + 2 * y) (2 + 2 * x) (2 * y) _ _ _ _ _ _ _ _ _ w (fun W => rcor_1 x y W (by omega) (by omega) (by omega) (by omega)) (PO (1 + 2 * x) (1 + 2 * y) (by omega) (by omega) (by omega) (by omega)) (PO (2 + 2 * x) (2 + 2 * y) (by omega) (by omega) (by omega) (by omega)) (PO (2 + 2 * x) (2 * y) (by omega) (by omega) (by omega) (by omega)) (fun W => ?_)
      rw [e0, e1, e2, e3, e4, e5]
      exact rwth_31 (imX 4 X x y) (imY 4 Y x y) W (by omega) (by omega) (by omega) (by omega)
    · obtain ⟨e0, e1, e2, e3, e4, e5⟩ := imc_51 X Y x y
      refine rmove_of 5 X Y x y 1 (1 + 2 * x) (1 + 2 * y) (2 + 2 * x) (2 + 2 * y) (2 + 2 * x) (2 * y) _ _ _ _ _ _ _ _ _ w (fun W => rcor_1 x y W (by omega) (by omega) (by omega) (by omega)) (PO (1 + 2 * x) (1 + 2 * y) (by omega) (by omega) (by omega) (by omega)) (PO (2 + 2 * x) (2 + 2 * y) (by omega) (by omega) (by omega) (by omega)) (PO (2 + 2 * x) (2 * y) (by omega) (by omega) (by omega) (by omega)) (fun W => ?_)
      rw [e0, e1, e2, e3, e4, e5]
      exact rwth_00 (imX 5 X x y) (imY 5 Y x y) W (by omega) (by omega) (by omega) (by omega)
    · obtain ⟨e0, e1, e2, e3, e4, e5⟩ := imc_61 X Y x y
      refine rmove_of 6 X Y x y 1 (1 + 2 * x) (1 + 2 * y) (2 + 2 * x) (2 + 2 * y) (2 + 2 * x) (2 * y) _ _ _ _ _ _ _ _ _ w (fun W => rcor_1 x y W (by omega) (by omega) (by omega) (by omega)) (PO (1 + 2 * x) (1 + 2 * y) (by omega) (by omega) (by omega) (by omega)) (PO (2 + 2 * x) (2 + 2 * y) (by omega) (by omega) (by omega) (by omega)) (PO (2 + 2 * x) (2 * y) (by omega) (by omega) (by omega) (by omega)) (fun W => ?_)
      rw [e0, e1, e2, e3, e4, e5]
      exact rwth_11 (imX 6 X x y) (imY 6 Y x y) W (by omega) (by omega) (by omega) (by omega)
    · obtain ⟨e0, e1, e2, e3, e4, e5⟩ := imc_71 X Y x y
      refine rmove_of 7 X Y x y 1 (1 + 2 * x) (1 + 2 * y) (2 + 2 * x) (2 + 2 * y) (2 + 2 * x) (2 * y) _ _ _ _ _ _ _ _ _ w (fun W => rcor_1 x y W (by omega) (by omega) (by omega) (by omega)) (PO (1 + 2 * x) (1 + 2 * y) (by omega) (by omega) (by omega) (by omega)) (PO (2 + 2 * x) (2 + 2 * y) (by omega) (by omega) (by omega) (by omega)) (PO (2 + 2 * x) (2 * y) (by omega) (by omega) (by omega) (by omega)) (fun W => ?_)
      rw [e0, e1, e2, e3, e4, e5]
      exact rwth_20 (imX 7 X x y) (imY 7 Y x y) W (by omega) (by omega) (by omega) (by omega)
  · obtain rfl | rfl | rfl | rfl | rfl | rfl | rfl | rfl : t = 0 ∨ t = 1 ∨ t = 2 ∨ t = 3 ∨ t = 4 ∨ t = 5 ∨ t = 6 ∨ t = 7 := by omega
    · obtain ⟨e0, e1, e2, e3, e4, e5⟩ := imc_02 X Y x y
      refine rmove_of 0 X Y x y 2 (1 + 2 * x) (1 + 2 * y) (2 + 2 * x) (2 + 2 * y) (2 * x) (2 + 2 * y) _ _ _ _ _ _ _ _ _ w (fun W => rcor_2 x y W (by omega) (by omega) (by omega) (by omega)) (PO (1 + 2 * x) (1 + 2 * y) (by omega) (by omega) (by omega) (by omega)) (PO (2 + 2 * x) (2 + 2 * y) (by omega) (by omega) (by omega) (by omega)) (PO (2 * x) (2 + 2 * y) (by omega) (by omega) (by omega) (by omega)) (fun W => ?_)
      rw [e0, e1, e2, e3, e4, e5]
      exact rwth_20 (imX 0 X x y) (imY 0 Y x y) W (by omega) (by omega) (by omega) (by omega)
    · obtain ⟨e0, e1, e2, e3, e4, e5⟩ := imc_12 X Y x y
      refine rmove_of 1 X Y x y 2 (1 + 2 * x) (1 + 2 * y) (2 + 2 * x) (2 + 2 * y) (2 * x) (2 + 2 * y) _ _ _ _ _ _ _ _ _ w (fun W => rcor_2 x y W (by omega) (by omega) (by omega) (by omega)) (PO (1 + 2 * x) (1 + 2 * y) (by omega) (by omega) (by omega) (by omega)) (PO (2 + 2 * x) (2 + 2 * y) (by omega) (by omega) (by omega) (by omega)) (PO (2 * x) (2 + 2 * y) (by omega) (by omega) (by omega) (by omega)) (fun W => ?_)
      rw [e0, e1, e2, e3, e4, e5]
      exact rwth_31 (imX 1 X x y) (imY 1 Y x y) W (by omega) (by omega) (by omega) (by omega)
    · obtain ⟨e0, e1, e2, e3, e4, e5⟩ := imc_22 X Y x y
      refine rmove_of 2 X Y x y 2 (1 + 2 * x) (1 + 2 * y) (2 + 2 * x) (2 + 2 * y) (2 * x) (2 + 2 * y) _ _ _ _ _ _ _ _ _ w (fun W => rcor_2 x y W (by omega) (by omega) (by omega) (by omega)) (PO (1 + 2 * x) (1 + 2 * y) (by omega) (by omega) (by omega) (by omega)) (PO (2 + 2 * x) (2 + 2 * y) (by omega) (by omega) (by omega) (by omega)) (PO (2 * x) (2 + 2 * y) (by omega) (by omega) (by omega) (by omega)) (fun W => ?_)
      rw [e0, e1, e2, e3, e4, e5]
      exact rwth_00 (imX 2 X x y) (imY 2 Y x y) W (by omega) (by omega) (by omega) (by omega)
    · obtain ⟨e0, e1, e2, e3, e4, e5⟩ := imc_32 X Y x y
      refine rmove_of 3 X Y x y 2 (1 + 2 * x) (1 + 2 * y) (2 + 2 * x) (2 + 2 * y) (2 * x) (2 + 2 * y) _ _ _ _ _ _ _ _ _ w (fun W => rcor_2 x y W (by omega) (by omega) (by omega) (by omega)) (PO (1 + 2 * x) (1 + 2 * y) (by omega) (by omega) (by omega) (by omega)) (PO (2 + 2 * x) (2 + 2 * y) (by omega) (by omega) (by omega) (by omega)) (PO (2 * x) (2 + 2 * y) (by omega) (by omega) (by omega) (by omega)) (fun W => ?_)
      rw [e0, e1, e2, e3, e4, e5]
      exact rwth_11 (imX 3 X x y) (imY 3 Y x y) W (by omega) (by omega) (by omega) (by omega)
    · obtain ⟨e0, e1, e2, e3, e4, e5⟩ := imc_42 X Y x y
      refine rmove_of 4 X Y x y 2 (1 + 2 * x) (1 + 2 * y) (2 + 2 * x) (2 + 2 * y) (2 * x) (2 + 2 * y) _ _ _ _ _ _ _ _ _ w (fun W => rcor_2 x y W (by omega) (by omega) (by omega) (by omega)) (PO (1 + 2 * x) (1 + 2 * y) (by omega) (by omega) (by omega) (by omega)) (PO (2 + 2 * x) (2 + 2 * y) (by omega) (by omega) (by omega) (by omega)) (PO (2 * x) (2 + 2 * y) (by omega) (by omega) (by omega) (by omega)) (fun W => ?_)
      rw [e0, e1, e2, e3, e4, e5]
      exact rwth_21 (imX 4 X x y) (imY 4 Y x y) W (by omega) (by omega) (by omega) (by omega)
    · obtain ⟨e0, e1, e2, e3, e4, e5⟩ := imc_52 X Y x y
      refine rmove_of 5 X Y x y 2 (1 + 2 * x) (1 + 2 * y) (2 + 2 * x) (2 + 2 * y) (2 * x) (2 + 2 * y) _ _ _ _ _ _ _ _ _ w (fun W => rcor_2 x y W (by omega) (by omega) (by omega) (by omega)) (PO (1 + 2 * x) (1 + 2 * y) (by omega) (by omega) (by omega) (by omega)) (PO (2 + 2 * x) (2 + 2 * y) (by omega) (by omega) (by omega) (by omega)) (PO (2 * x) (2 + 2 * y) (by omega) (by omega) (by omega) (by omega)) (fun W => ?_)
      rw [e0, e1, e2, e3, e4, e5]
      exact rwth_30 (imX 5 X x y) (imY 5 Y x y) W (by omega) (by omega) (by omega) (by omega)
    · obtain ⟨e0, e1, e2, e3, e4, e5⟩ := imc_62 X Y x y
      refine rmove_of 6 X Y x y 2 (1 + 2 * x) (1 + 2 * y) (2 + 2 * x) (2 + 2 * y) (2 * x) (2 + 2 * y) _ _ _ _ _ _ _ _ _ w (fun W => rcor_2 x y W (by omega) (by omega) (by omega) (by omega)) (PO (1 + 2 * x) (1 + 2 * y) (by omega) (by omega) (by omega) (by omega)) (PO (2 + 2 * x) (2 + 2 * y) (by omega) (by omega) (by omega) (by omega)) (PO (2 * x) (2 + 2 * y) (by omega) (by omega) (by omega) (by omega)) (fun W => ?_)
      rw [e0, e1, e2, e3, e4, e5]
      exact rwth_01 (imX 6 X x y) (imY 6 Y x y) W (by omega) (by omega) (by omega) (by omega)
    · obtain ⟨e0, e1, e2, e3, e4, e5⟩ := imc_72 X Y x y
      refine rmove_of 7 X Y x y 2 (1 + 2 * x) (1 + 2 * y) (2 + 2 * x) (2 + 2 * y) (2 * x) (2 + 2 * y) _ _ _ _ _ _ _ _ _ w (fun W => rcor_2 x y W (by omega) (by omega) (by omega) (by omega)) (PO (1 + 2 * x) (1 + 2 * y) (by omega) (by omega) (by omega) (by omega)) (PO (2 + 2 * x) (2 + 2 * y) (by omega) (by omega) (by omega) (by omega)) (PO (2 * x) (2 + 2 * y) (by omega) (by omega) (by omega) (by omega)) (fun W => ?_)
      rw [e0, e1, e2, e3, e4, e5]
      exact rwth_10 (imX 7 X x y) (imY 7 Y x y) W (by omega) (by omega) (by omega) (by omega)
  · obtain rfl | rfl | rfl | rfl | rfl | rfl | rfl | rfl : t = 0 ∨ t = 1 ∨ t = 2 ∨ t = 3 ∨ t = 4 ∨ t = 5 ∨ t = 6 ∨ t = 7 := by omega
    · obtain ⟨e0, e1, e2, e3, e4, e5⟩ := imc_03 X Y x y
      refine rmove_of 0 X Y x y 3 (1 + 2 * x) (1 + 2 * y) (2 * x) (2 * y) (2 * x) (2 + 2 * y) _ _ _ _ _ _ _ _ _ w (fun W => rcor_3 x y W (by omega) (by omega) (by omega) (by omega)) (PO (1 + 2 * x) (1 + 2 * y) (by omega) (by omega) (by omega) (by omega)) (PO (2 * x) (2 * y) (by omega) (by omega) (by omega) (by omega)) (PO (2 * x) (2 + 2 * y) (by omega) (by omega) (by omega) (by omega)) (fun W => ?_)
      rw [e0, e1, e2, e3, e4, e5]
      exact rwth_30 (imX 0 X x y) (imY 0 Y x y) W (by omega) (by omega) (by omega) (by omega)
    · obtain ⟨e0, e1, e2, e3, e4, e5⟩ := imc_13 X Y x y
      refine rmove_of 1 X Y x y 3 (1 + 2 * x) (1 + 2 * y) (2 * x) (2 * y) (2 * x) (2 + 2 * y) _ _ _ _ _ _ _ _ _ w (fun W => rcor_3 x y W (by omega) (by omega) (by omega) (by omega)) (PO (1 + 2 * x) (1 + 2 * y) (by omega) (by omega) (by omega) (by omega)) (PO (2 * x) (2 * y) (by omega) (by omega) (by omega) (by omega)) (PO (2 * x) (2 + 2 * y) (by omega) (by omega) (by omega) (by omega)) (fun W => ?_)
      rw [e0, e1, e2, e3, e4, e5]
      exact rwth_01 (imX 1 X x y) (imY 1 Y x y) W (by omega) (by omega) (by omega) (by omega)
    · obtain ⟨e0, e1, e2, e3, e4, e5⟩ := imc_23 X Y x y
      refine rmove_of 2 X Y x y 3 (1 + 2 * x) (1 + 2 * y) (2 * x) (2 * y) (2 * x) (2 + 2 * y) _ _ _ _ _ _ _ _ _ w (fun W => rcor_3 x y W (by omega) (by omega) (by omega) (by omega)) (PO (1 + 2 * x) (1 + 2 * y) (by omega) (by omega) (by omega) (by omega)) (PO (2 * x) (2 * y) (by omega) (by omega) (by omega) (by omega)) (PO (2 * x) (2 + 2 * y) (by omega) (by omega) (by omega) (by omega)) (fun W => ?_)
      rw [e0, e1, e2, e3, e4, e5]
      exact rwth_10 (imX 2 X x y) (imY 2 Y x y) W (by omega) (by omega) (by omega) (by omega)
    · obtain ⟨e0, e1, e2, e3, e4, e5⟩ := imc_33 X Y x y
      refine rmove_of 3 X Y x y 3 (1 + 2 * x) (1 + 2 * y) (2 * x) (2 * y) (2 * x) (2 + 2 * y) _ _ _ _ _ _ _ _ _ w (fun W => rcor_3 x y W (by omega) (by omega) (by omega) (by omega)) (PO (1 + 2 * x) (1 + 2 * y) (by omega) (by omega) (by omega) (by omega)) (PO (2 * x) (2 * y) (by omega) (by omega) (by omega) (by omega)) (PO (2 * x) (2 + 2 * y) (by omega) (by omega) (by omega) (by omega)) (fun W => ?_)
      rw [e0, e1, e2, e3, e4, e5]
      exact rwth_21 (imX 3 X x y) (imY 3 Y x y) W (by omega) (by omega) (by omega) (by omega)
    · obtain ⟨e0, e1, e2, e3, e4, e5⟩ := imc_43 X Y x y
      refine rmove_of 4 X Y x y 3 (1 + 2 * x) (1 + 2 * y) (2 * x) (2 * y) (2 * x) (2 + 2 * y) _ _ _ _ _ _ _ _ _ w (fun W => rcor_3 x y W (by omega) (by omega) (by omega) (by omega)) (PO (1 + 2 * x) (1 + 2 * y) (by omega) (by omega) (by omega) (by omega)) (PO (2 * x) (2 * y) (by omega) (by omega) (by omega) (by omega)) (PO (2 * x) (2 + 2 * y) (by omega) (by omega) (by omega) (by omega)) (fun W => ?_)
      rw [e0, e1, e2, e3, e4, e5]
      exact rwth_11 (imX 4 X x y) (imY 4 Y x y) W (by omega) (by omega) (by omega) (by omega)
    · obtain ⟨e0, e1, e2, e3, e4, e5⟩ := imc_53 X Y x y
      refine rmove_of 5 X Y x y 3 (1 + 2 * x) (1 + 2 * y) (2 * x) (2 * y) (2 * x) (2 + 2 * y) _ _ _ _ _ _ _ _ _ w (fun W => rcor_3 x y W (by omega) (by omega) (by omega) (by omega)) (PO (1 + 2 * x) (1 + 2 * y) (by omega) (by omega) (by omega) (by omega)) (PO (2 * x) (2 * y) (by omega) (by omega) (by omega) (by omega)) (PO (2 * x) (2 + 2 * y) (by omega) (by omega) (by omega) (by omega)) (fun W => ?_)
      rw [e0, e1, e2, e3, e4, e5]
      exact rwth_20 (imX 5 X x y) (imY 5 Y x y) W (by omega) (by omega) (by omega) (by omega)
    · obtain ⟨e0, e1, e2, e3, e4, e5⟩ := imc_63 X Y x y
      refine rmove_of 6 X Y x y 3 (1 + 2 * x) (1 + 2 * y) (2 * x) (2 * y) (2 * x) (2 + 2 * y) _ _ _ _ _ _ _ _ _ w (fun W => rcor_3 x y W (by omega) (by omega) (by omega) (by omega)) (PO (1 + 2 * x) (1 + 2 * y) (by omega) (by omega) (by omega) (by omega)) (PO (2 * x) (2 * y) (by omega) (by omega) (by omega) (by omega)) (PO (2 * x) (2 + 2 * y) (by omega) (by omega) (by omega) (by omega)) (fun W => ?_)
      rw [e0, e1, e2, e3, e4, e5]
      exact rwth_31 (imX 6 X x y) (imY 6 Y x y) W (by omega) (by omega) (by omega) (by omega)
    · obtain ⟨e0, e1, e2, e3, e4, e5⟩ := imc_73 X Y x y
      refine rmove_of 7 X Y x y 3 (1 + 2 * x) (1 + 2 * y) (2 * x) (2 * y) (2 * x) (2 + 2 * y) _ _ _ _ _ _ _ _ _ w (fun W => rcor_3 x y W (by omega) (by omega) (by omega) (by omega)) (PO (1 + 2 * x) (1 + 2 * y) (by omega) (by omega) (by omega) (by omega)) (PO (2 * x) (2 * y) (by omega) (by omega) (by omega) (by omega)) (PO (2 * x) (2 + 2 * y) (by omega) (by omega) (by omega) (by omega)) (fun W => ?_)
      rw [e0, e1, e2, e3, e4, e5]
      exact rwth_00 (imX 7 X x y) (imY 7 Y x y) W (by omega) (by omega) (by omega) (by omega)

end Go.Proofs.YtgkiliijefkcaaaDoor
