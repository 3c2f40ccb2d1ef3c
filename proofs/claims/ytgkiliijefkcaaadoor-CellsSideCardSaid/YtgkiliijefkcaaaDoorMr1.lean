/-
  Says: what Valid and Point of the reference of moves give.
-/
import Derived.Test.YtgkiliijefkcaaaDoorMv2
import Derived.BigQuiet
set_option linter.unusedVariables false
set_option linter.unusedSimpArgs false
namespace Go.Proofs.YtgkiliijefkcaaaDoor
open Go Go.RowKit

theorem below_drewN {w W : World} (h : Below w.heap.size w W) (n : Nat) : Below w.heap.size w (W.drewN n) := by
  obtain ⟨h1, h2, h3, h4, h5⟩ := h
  exact ⟨h1, h2, h3, h4, h5⟩
set_option maxRecDepth 100000 in
set_option maxHeartbeats 2000000 in
theorem mvalid_yes (t X Y : Int) (w : World) (a1 : 0 ≤ t) (a2 : t ≤ 7) (a3 : -16384 ≤ X) (a4 : X ≤ 16384) (a5 : -16384 ≤ Y) (a6 : Y ≤ 16384) (a7 : (X + Y) % 2 = 0) : Calls Tryd.prog 26 #[mv t X Y] w fun e w' => e = .returned (.int .i64 1) ∧ Below w.heap.size w w' := by
  have p0 : (X - Y).tmod 2 = 0 := tm_even _ (by omega)
  clear a7
  go_enter Tryd.func26, Tryd.ntmps26
  go_wp2
  go_ret
  exact ⟨rfl, (by repeat first | (with_reducible exact Below.refl _ _) | (with_reducible refine below_on ?_ _) | (with_reducible refine below_alloc ?_ _) | (with_reducible refine below_set ?_ (by simp; try omega) _))⟩

set_option maxRecDepth 100000 in
set_option maxHeartbeats 2000000 in
theorem mvalid_no (t X Y : Int) (w : World) (h : 7 < t ∨ X < -16384 ∨ 16384 < X ∨ Y < -16384 ∨ 16384 < Y ∨ (X + Y) % 2 ≠ 0) : Calls Tryd.prog 26 #[mv t X Y] w fun e w' => e = .returned (.int .i64 0) ∧ Below w.heap.size w w' := by
  by_cases c1 : 7 < t
  · clear h
    go_enter Tryd.func26, Tryd.ntmps26
    go_wp2
    go_ret
    exact ⟨rfl, (by repeat first | (with_reducible exact Below.refl _ _) | (with_reducible refine below_on ?_ _) | (with_reducible refine below_alloc ?_ _) | (with_reducible refine below_set ?_ (by simp; try omega) _))⟩
  have d1 : t ≤ 7 := by omega
  by_cases c2 : X < -16384
  · clear h
    go_enter Tryd.func26, Tryd.ntmps26
    go_wp2
    go_ret
    exact ⟨rfl, (by repeat first | (with_reducible exact Below.refl _ _) | (with_reducible refine below_on ?_ _) | (with_reducible refine below_alloc ?_ _) | (with_reducible refine below_set ?_ (by simp; try omega) _))⟩
  have d2 : -16384 ≤ X := by omega
  by_cases c3 : 16384 < X
  · clear h
    go_enter Tryd.func26, Tryd.ntmps26
    go_wp2
    go_ret
    exact ⟨rfl, (by repeat first | (with_reducible exact Below.refl _ _) | (with_reducible refine below_on ?_ _) | (with_reducible refine below_alloc ?_ _) | (with_reducible refine below_set ?_ (by simp; try omega) _))⟩
  have d3 : X ≤ 16384 := by omega
  by_cases c4 : Y < -16384
  · clear h
    go_enter Tryd.func26, Tryd.ntmps26
    go_wp2
    go_ret
    exact ⟨rfl, (by repeat first | (with_reducible exact Below.refl _ _) | (with_reducible refine below_on ?_ _) | (with_reducible refine below_alloc ?_ _) | (with_reducible refine below_set ?_ (by simp; try omega) _))⟩
  have d4 : -16384 ≤ Y := by omega
  by_cases c5 : 16384 < Y
  · clear h
    go_enter Tryd.func26, Tryd.ntmps26
    go_wp2
    go_ret
    exact ⟨rfl, (by repeat first | (with_reducible exact Below.refl _ _) | (with_reducible refine below_on ?_ _) | (with_reducible refine below_alloc ?_ _) | (with_reducible refine below_set ?_ (by simp; try omega) _))⟩
  have d5 : Y ≤ 16384 := by omega
  have c6 : (X - Y) % 2 ≠ 0 := by omega
  have p1 := tm_odd1 _ c6
  have p2 := tm_odd2 _ c6
  clear h c1 c2 c3 c4 c5 c6
  go_enter Tryd.func26, Tryd.ntmps26
  go_wp2
  go_ret
  exact ⟨rfl, (by repeat first | (with_reducible exact Below.refl _ _) | (with_reducible refine below_on ?_ _) | (with_reducible refine below_alloc ?_ _) | (with_reducible refine below_set ?_ (by simp; try omega) _))⟩


set_option maxRecDepth 100000 in
set_option maxHeartbeats 2000000 in
theorem rpoint_0 (X Y x y : Int) (w : World) (x1 : -1000000 ≤ x) (x2 : x ≤ 1000000) (y1 : -1000000 ≤ y) (y2 : y ≤ 1000000) (b1 : -1000000 ≤ X) (b2 : X ≤ 1000000) (b3 : -1000000 ≤ Y) (b4 : Y ≤ 1000000) : Calls Tryd.prog 54 #[mv 0 X Y, pt x y] w fun e w' => e = .returned (pt (mvx 0 x y + 2 * X) (mvy 0 x y + 2 * Y)) ∧ Below w.heap.size w w' := by
  rw [mvx0, mvy0]
  go_enter Tryd.func54, Tryd.ntmps54
  go_wp2_with fail
  go_quiet (fail)
  all_goals go_wp2_with fail
  exact bodyPost_ret (v := pt (x + 2 * X) (y + 2 * Y)) (by simp [results, Tryd.results54, go_sem] <;> omega) rfl ⟨rfl, (by repeat first | (with_reducible exact Below.refl _ _) | (with_reducible refine below_drewN ?_ _) | (with_reducible refine below_on ?_ _) | (with_reducible refine below_alloc ?_ _) | (with_reducible refine below_set ?_ (by simp; try omega) _))⟩

set_option maxRecDepth 100000 in
set_option maxHeartbeats 2000000 in
theorem rpoint_1 (X Y x y : Int) (w : World) (x1 : -1000000 ≤ x) (x2 : x ≤ 1000000) (y1 : -1000000 ≤ y) (y2 : y ≤ 1000000) (b1 : -1000000 ≤ X) (b2 : X ≤ 1000000) (b3 : -1000000 ≤ Y) (b4 : Y ≤ 1000000) : Calls Tryd.prog 54 #[mv 1 X Y, pt x y] w fun e w' => e = .returned (pt (mvx 1 x y + 2 * X) (mvy 1 x y + 2 * Y)) ∧ Below w.heap.size w w' := by
  rw [mvx1, mvy1]
  go_enter Tryd.func54, Tryd.ntmps54
  go_wp2_with fail
  go_quiet (fail)
  all_goals go_wp2_with fail
  all_goals go_quiet (fail)
  all_goals go_wp2_with fail
  exact bodyPost_ret (v := pt (-y + 2 * X) (x + 2 * Y)) (by simp [results, Tryd.results54, go_sem] <;> omega) rfl ⟨rfl, (by repeat first | (with_reducible exact Below.refl _ _) | (with_reducible refine below_drewN ?_ _) | (with_reducible refine below_on ?_ _) | (with_reducible refine below_alloc ?_ _) | (with_reducible refine below_set ?_ (by simp; try omega) _))⟩

set_option maxRecDepth 100000 in
set_option maxHeartbeats 2000000 in
theorem rpoint_2 (X Y x y : Int) (w : World) (x1 : -1000000 ≤ x) (x2 : x ≤ 1000000) (y1 : -1000000 ≤ y) (y2 : y ≤ 1000000) (b1 : -1000000 ≤ X) (b2 : X ≤ 1000000) (b3 : -1000000 ≤ Y) (b4 : Y ≤ 1000000) : Calls Tryd.prog 54 #[mv 2 X Y, pt x y] w fun e w' => e = .returned (pt (mvx 2 x y + 2 * X) (mvy 2 x y + 2 * Y)) ∧ Below w.heap.size w w' := by
  rw [mvx2, mvy2]
  go_enter Tryd.func54, Tryd.ntmps54
  go_wp2_with fail
  go_quiet (fail)
  all_goals go_wp2_with fail
  all_goals go_quiet (fail)
  all_goals go_wp2_with fail
  exact bodyPost_ret (v := pt (-x + 2 * X) (-y + 2 * Y)) (by simp [results, Tryd.results54, go_sem] <;> omega) rfl ⟨rfl, (by repeat first | (with_reducible exact Below.refl _ _) | (with_reducible refine below_drewN ?_ _) | (with_reducible refine below_on ?_ _) | (with_reducible refine below_alloc ?_ _) | (with_reducible refine below_set ?_ (by simp; try omega) _))⟩

set_option maxRecDepth 100000 in
set_option maxHeartbeats 2000000 in
theorem rpoint_3 (X Y x y : Int) (w : World) (x1 : -1000000 ≤ x) (x2 : x ≤ 1000000) (y1 : -1000000 ≤ y) (y2 : y ≤ 1000000) (b1 : -1000000 ≤ X) (b2 : X ≤ 1000000) (b3 : -1000000 ≤ Y) (b4 : Y ≤ 1000000) : Calls Tryd.prog 54 #[mv 3 X Y, pt x y] w fun e w' => e = .returned (pt (mvx 3 x y + 2 * X) (mvy 3 x y + 2 * Y)) ∧ Below w.heap.size w w' := by
  rw [mvx3, mvy3]
  go_enter Tryd.func54, Tryd.ntmps54
  go_wp2_with fail
  go_quiet (fail)
  all_goals go_wp2_with fail
  all_goals go_quiet (fail)
  all_goals go_wp2_with fail
  exact bodyPost_ret (v := pt (y + 2 * X) (-x + 2 * Y)) (by simp [results, Tryd.results54, go_sem] <;> omega) rfl ⟨rfl, (by repeat first | (with_reducible exact Below.refl _ _) | (with_reducible refine below_drewN ?_ _) | (with_reducible refine below_on ?_ _) | (with_reducible refine below_alloc ?_ _) | (with_reducible refine below_set ?_ (by simp; try omega) _))⟩

set_option maxRecDepth 100000 in
set_option maxHeartbeats 2000000 in
theorem rpoint_4 (X Y x y : Int) (w : World) (x1 : -1000000 ≤ x) (x2 : x ≤ 1000000) (y1 : -1000000 ≤ y) (y2 : y ≤ 1000000) (b1 : -1000000 ≤ X) (b2 : X ≤ 1000000) (b3 : -1000000 ≤ Y) (b4 : Y ≤ 1000000) : Calls Tryd.prog 54 #[mv 4 X Y, pt x y] w fun e w' => e = .returned (pt (mvx 4 x y + 2 * X) (mvy 4 x y + 2 * Y)) ∧ Below w.heap.size w w' := by
  rw [mvx4, mvy4]
  go_enter Tryd.func54, Tryd.ntmps54
  go_wp2_with fail
  go_quiet (fail)
  all_goals go_wp2_with fail
  all_goals go_quiet (fail)
  all_goals go_wp2_with fail
  exact bodyPost_ret (v := pt (-x + 2 * X) (y + 2 * Y)) (by simp [results, Tryd.results54, go_sem] <;> omega) rfl ⟨rfl, (by repeat first | (with_reducible exact Below.refl _ _) | (with_reducible refine below_drewN ?_ _) | (with_reducible refine below_on ?_ _) | (with_reducible refine below_alloc ?_ _) | (with_reducible refine below_set ?_ (by simp; try omega) _))⟩

set_option maxRecDepth 100000 in
set_option maxHeartbeats 2000000 in
theorem rpoint_5 (X Y x y : Int) (w : World) (x1 : -1000000 ≤ x) (x2 : x ≤ 1000000) (y1 : -1000000 ≤ y) (y2 : y ≤ 1000000) (b1 : -1000000 ≤ X) (b2 : X ≤ 1000000) (b3 : -1000000 ≤ Y) (b4 : Y ≤ 1000000) : Calls Tryd.prog 54 #[mv 5 X Y, pt x y] w fun e w' => e = .returned (pt (mvx 5 x y + 2 * X) (mvy 5 x y + 2 * Y)) ∧ Below w.heap.size w w' := by
  rw [mvx5, mvy5]
  go_enter Tryd.func54, Tryd.ntmps54
  go_wp2_with fail
  go_quiet (fail)
  all_goals go_wp2_with fail
  all_goals go_quiet (fail)
  all_goals go_wp2_with fail
  exact bodyPost_ret (v := pt (-y + 2 * X) (-x + 2 * Y)) (by simp [results, Tryd.results54, go_sem] <;> omega) rfl ⟨rfl, (by repeat first | (with_reducible exact Below.refl _ _) | (with_reducible refine below_drewN ?_ _) | (with_reducible refine below_on ?_ _) | (with_reducible refine below_alloc ?_ _) | (with_reducible refine below_set ?_ (by simp; try omega) _))⟩

set_option maxRecDepth 100000 in
set_option maxHeartbeats 2000000 in
theorem rpoint_6 (X Y x y : Int) (w : World) (x1 : -1000000 ≤ x) (x2 : x ≤ 1000000) (y1 : -1000000 ≤ y) (y2 : y ≤ 1000000) (b1 : -1000000 ≤ X) (b2 : X ≤ 1000000) (b3 : -1000000 ≤ Y) (b4 : Y ≤ 1000000) : Calls Tryd.prog 54 #[mv 6 X Y, pt x y] w fun e w' => e = .returned (pt (mvx 6 x y + 2 * X) (mvy 6 x y + 2 * Y)) ∧ Below w.heap.size w w' := by
  rw [mvx6, mvy6]
  go_enter Tryd.func54, Tryd.ntmps54
  go_wp2_with fail
  go_quiet (fail)
  all_goals go_wp2_with fail
  all_goals go_quiet (fail)
  all_goals go_wp2_with fail
  exact bodyPost_ret (v := pt (x + 2 * X) (-y + 2 * Y)) (by simp [results, Tryd.results54, go_sem] <;> omega) rfl ⟨rfl, (by repeat first | (with_reducible exact Below.refl _ _) | (with_reducible refine below_drewN ?_ _) | (with_reducible refine below_on ?_ _) | (with_reducible refine below_alloc ?_ _) | (with_reducible refine below_set ?_ (by simp; try omega) _))⟩

set_option maxRecDepth 100000 in
set_option maxHeartbeats 2000000 in
theorem rpoint_7 (X Y x y : Int) (w : World) (x1 : -1000000 ≤ x) (x2 : x ≤ 1000000) (y1 : -1000000 ≤ y) (y2 : y ≤ 1000000) (b1 : -1000000 ≤ X) (b2 : X ≤ 1000000) (b3 : -1000000 ≤ Y) (b4 : Y ≤ 1000000) : Calls Tryd.prog 54 #[mv 7 X Y, pt x y] w fun e w' => e = .returned (pt (mvx 7 x y + 2 * X) (mvy 7 x y + 2 * Y)) ∧ Below w.heap.size w w' := by
  rw [mvx7, mvy7]
  go_enter Tryd.func54, Tryd.ntmps54
  go_wp2_with fail
  go_quiet (fail)
  all_goals go_wp2_with fail
  all_goals go_quiet (fail)
  all_goals go_wp2_with fail
  exact bodyPost_ret (v := pt (y + 2 * X) (x + 2 * Y)) (by simp [results, Tryd.results54, go_sem] <;> omega) rfl ⟨rfl, (by repeat first | (with_reducible exact Below.refl _ _) | (with_reducible refine below_drewN ?_ _) | (with_reducible refine below_on ?_ _) | (with_reducible refine below_alloc ?_ _) | (with_reducible refine below_set ?_ (by simp; try omega) _))⟩

theorem rpoint_any (t X Y x y : Int) (w : World) (a1 : 0 ≤ t) (a2 : t ≤ 7) (x1 : -1000000 ≤ x) (x2 : x ≤ 1000000) (y1 : -1000000 ≤ y) (y2 : y ≤ 1000000) (b1 : -1000000 ≤ X) (b2 : X ≤ 1000000) (b3 : -1000000 ≤ Y) (b4 : Y ≤ 1000000) : Calls Tryd.prog 54 #[mv t X Y, pt x y] w fun e w' => e = .returned (pt (mvx t x y + 2 * X) (mvy t x y + 2 * Y)) ∧ Below w.heap.size w w' := by
  obtain rfl | rfl | rfl | rfl | rfl | rfl | rfl | rfl : t = 0 ∨ t = 1 ∨ t = 2 ∨ t = 3 ∨ t = 4 ∨ t = 5 ∨ t = 6 ∨ t = 7 := by omega
  · exact rpoint_0 X Y x y w x1 x2 y1 y2 b1 b2 b3 b4
  · exact rpoint_1 X Y x y w x1 x2 y1 y2 b1 b2 b3 b4
  · exact rpoint_2 X Y x y w x1 x2 y1 y2 b1 b2 b3 b4
  · exact rpoint_3 X Y x y w x1 x2 y1 y2 b1 b2 b3 b4
  · exact rpoint_4 X Y x y w x1 x2 y1 y2 b1 b2 b3 b4
  · exact rpoint_5 X Y x y w x1 x2 y1 y2 b1 b2 b3 b4
  · exact rpoint_6 X Y x y w x1 x2 y1 y2 b1 b2 b3 b4
  · exact rpoint_7 X Y x y w x1 x2 y1 y2 b1 b2 b3 b4

end Go.Proofs.YtgkiliijefkcaaaDoor
