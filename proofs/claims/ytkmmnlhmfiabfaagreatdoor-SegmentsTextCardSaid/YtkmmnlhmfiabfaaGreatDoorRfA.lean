/-
  Says: what the small functions of the reference give.
-/
import Derived.Test.YtkmmnlhmfiabfaaGreatDoorFnL
set_option linter.unusedVariables false
set_option linter.unusedSimpArgs false
namespace Go.Proofs.YtkmmnlhmfiabfaaGreatDoor
open Go Go.RowKit

theorem ret_int {k : IntKind} {a b : Int} (h : a = b) : Ending.returned (.int k a) = .returned (.int k b) := by rw [h]
theorem valid_yes (k c : Int) (w : World) (h1 : 1 ≤ k) (h2 : k ≤ 4) (h3 : -4096 ≤ c) (h4 : c ≤ 4096) : Calls Tryz.prog 26 #[ln k c] w fun e w' => e = .returned (.int .i64 1) ∧ Below w.heap.size w w' := by
  go_enter Tryz.func26, Tryz.ntmps26
  go_wp2
  go_ret
  exact ⟨rfl, below_alloc (Below.refl _ _) _⟩

theorem valid_no (k c : Int) (w : World) (h : k < 1 ∨ 4 < k ∨ c < -4096 ∨ 4096 < c) : Calls Tryz.prog 26 #[ln k c] w fun e w' => e = .returned (.int .i64 0) ∧ Below w.heap.size w w' := by
  by_cases b0 : 1 ≤ k
  case neg =>
    clear h
    go_enter Tryz.func26, Tryz.ntmps26
    go_wp2
    go_ret
    exact ⟨rfl, below_alloc (Below.refl _ _) _⟩
  by_cases b1 : k ≤ 4
  case neg =>
    clear h
    go_enter Tryz.func26, Tryz.ntmps26
    go_wp2
    go_ret
    exact ⟨rfl, below_alloc (Below.refl _ _) _⟩
  by_cases b2 : -4096 ≤ c
  case neg =>
    clear h
    go_enter Tryz.func26, Tryz.ntmps26
    go_wp2
    go_ret
    exact ⟨rfl, below_alloc (Below.refl _ _) _⟩
  by_cases b3 : c ≤ 4096
  case neg =>
    clear h
    go_enter Tryz.func26, Tryz.ntmps26
    go_wp2
    go_ret
    exact ⟨rfl, below_alloc (Below.refl _ _) _⟩
  omega

theorem across_1 (w : World) : Calls Tryz.prog 88 #[.int .u8 1] w fun e w' => e = .returned (.tuple #[.int .i64 (1), .int .i64 (0)]) ∧ w = w' := by
  go_enter Tryz.func88, Tryz.ntmps88
  go_wp2
  go_ret2
  exact ⟨rfl, rfl⟩
set_option maxHeartbeats 400000 in
theorem far_1 (c x y : Int) (w : World) (h1 : -200000 ≤ x) (h2 : x ≤ 200000) (h3 : -200000 ≤ y) (h4 : y ≤ 200000) (h5 : -4096 ≤ c) (h6 : c ≤ 4096) : Calls Tryz.prog 173 #[ln 1 c, pt x y] w fun e w' => e = .returned (.int .i64 (x - 2 * c)) ∧ Below w.heap.size w w' := by
  go_enter Tryz.func173, Tryz.ntmps173
  go_wp2_with (go_at_call 88; refine (across_1 _).mono ?_; rintro e w1 ⟨rfl, rfl⟩)
  go_ret
  exact ⟨ret_int (by omega), by repeat first | (with_reducible exact Below.refl _ _) | (with_reducible refine below_on ?_ _) | (with_reducible refine below_alloc ?_ _) | (with_reducible refine below_set ?_ (by simp; try omega) _) | (with_reducible refine below_drew ?_)⟩
set_option maxHeartbeats 400000 in
theorem rreflect_1 (c x y : Int) (w : World) (h1 : -200000 ≤ x) (h2 : x ≤ 200000) (h3 : -200000 ≤ y) (h4 : y ≤ 200000) (h5 : -4096 ≤ c) (h6 : c ≤ 4096) : Calls Tryz.prog 137 #[ln 1 c, pt x y] w fun e w' => e = .returned (pt (2 * (2 * c) - x) (y)) ∧ Below w.heap.size w w' := by
  go_enter Tryz.func137, Tryz.ntmps137
  go_wp2_with (first | (go_at_call 88; refine (across_1 _).mono ?_; rintro e w1 ⟨rfl, rfl⟩) | (go_at_call 173; refine (far_1 _ _ _ _ (by omega) (by omega) (by omega) (by omega) (by omega) (by omega)).mono ?_; rintro e w2 ⟨rfl, hb2⟩; obtain ⟨u2, rfl⟩ := after hb2; clear hb2))
  exact bodyPost_ret (v := pt (2 * (2 * c) - x) (y)) (by simp [results, Tryz.results137, go_sem] <;> omega) rfl ⟨rfl, by repeat first | (with_reducible exact Below.refl _ _) | (with_reducible refine below_on ?_ _) | (with_reducible refine below_alloc ?_ _) | (with_reducible refine below_set ?_ (by simp; try omega) _) | (with_reducible refine below_drew ?_)⟩

theorem across_2 (w : World) : Calls Tryz.prog 88 #[.int .u8 2] w fun e w' => e = .returned (.tuple #[.int .i64 (0), .int .i64 (1)]) ∧ w = w' := by
  go_enter Tryz.func88, Tryz.ntmps88
  go_wp2
  go_ret2
  exact ⟨rfl, rfl⟩
set_option maxHeartbeats 400000 in
theorem far_2 (c x y : Int) (w : World) (h1 : -200000 ≤ x) (h2 : x ≤ 200000) (h3 : -200000 ≤ y) (h4 : y ≤ 200000) (h5 : -4096 ≤ c) (h6 : c ≤ 4096) : Calls Tryz.prog 173 #[ln 2 c, pt x y] w fun e w' => e = .returned (.int .i64 (y - 2 * c)) ∧ Below w.heap.size w w' := by
  go_enter Tryz.func173, Tryz.ntmps173
  go_wp2_with (go_at_call 88; refine (across_2 _).mono ?_; rintro e w1 ⟨rfl, rfl⟩)
  go_ret
  exact ⟨ret_int (by omega), by repeat first | (with_reducible exact Below.refl _ _) | (with_reducible refine below_on ?_ _) | (with_reducible refine below_alloc ?_ _) | (with_reducible refine below_set ?_ (by simp; try omega) _) | (with_reducible refine below_drew ?_)⟩
set_option maxHeartbeats 400000 in
theorem rreflect_2 (c x y : Int) (w : World) (h1 : -200000 ≤ x) (h2 : x ≤ 200000) (h3 : -200000 ≤ y) (h4 : y ≤ 200000) (h5 : -4096 ≤ c) (h6 : c ≤ 4096) : Calls Tryz.prog 137 #[ln 2 c, pt x y] w fun e w' => e = .returned (pt (x) (2 * (2 * c) - y)) ∧ Below w.heap.size w w' := by
  go_enter Tryz.func137, Tryz.ntmps137
  go_wp2_with (first | (go_at_call 88; refine (across_2 _).mono ?_; rintro e w1 ⟨rfl, rfl⟩) | (go_at_call 173; refine (far_2 _ _ _ _ (by omega) (by omega) (by omega) (by omega) (by omega) (by omega)).mono ?_; rintro e w2 ⟨rfl, hb2⟩; obtain ⟨u2, rfl⟩ := after hb2; clear hb2))
  exact bodyPost_ret (v := pt (x) (2 * (2 * c) - y)) (by simp [results, Tryz.results137, go_sem] <;> omega) rfl ⟨rfl, by repeat first | (with_reducible exact Below.refl _ _) | (with_reducible refine below_on ?_ _) | (with_reducible refine below_alloc ?_ _) | (with_reducible refine below_set ?_ (by simp; try omega) _) | (with_reducible refine below_drew ?_)⟩

theorem across_3 (w : World) : Calls Tryz.prog 88 #[.int .u8 3] w fun e w' => e = .returned (.tuple #[.int .i64 (1), .int .i64 (1)]) ∧ w = w' := by
  go_enter Tryz.func88, Tryz.ntmps88
  go_wp2
  go_ret2
  exact ⟨rfl, rfl⟩
set_option maxHeartbeats 400000 in
theorem far_3 (c x y : Int) (w : World) (h1 : -200000 ≤ x) (h2 : x ≤ 200000) (h3 : -200000 ≤ y) (h4 : y ≤ 200000) (h5 : -4096 ≤ c) (h6 : c ≤ 4096) : Calls Tryz.prog 173 #[ln 3 c, pt x y] w fun e w' => e = .returned (.int .i64 (x + y - 2 * c)) ∧ Below w.heap.size w w' := by
  go_enter Tryz.func173, Tryz.ntmps173
  go_wp2_with (go_at_call 88; refine (across_3 _).mono ?_; rintro e w1 ⟨rfl, rfl⟩)
  go_ret
  exact ⟨ret_int (by omega), by repeat first | (with_reducible exact Below.refl _ _) | (with_reducible refine below_on ?_ _) | (with_reducible refine below_alloc ?_ _) | (with_reducible refine below_set ?_ (by simp; try omega) _) | (with_reducible refine below_drew ?_)⟩
set_option maxHeartbeats 400000 in
theorem rreflect_3 (c x y : Int) (w : World) (h1 : -200000 ≤ x) (h2 : x ≤ 200000) (h3 : -200000 ≤ y) (h4 : y ≤ 200000) (h5 : -4096 ≤ c) (h6 : c ≤ 4096) : Calls Tryz.prog 137 #[ln 3 c, pt x y] w fun e w' => e = .returned (pt ((2 * c) - y) ((2 * c) - x)) ∧ Below w.heap.size w w' := by
  go_enter Tryz.func137, Tryz.ntmps137
  go_wp2_with (first | (go_at_call 88; refine (across_3 _).mono ?_; rintro e w1 ⟨rfl, rfl⟩) | (go_at_call 173; refine (far_3 _ _ _ _ (by omega) (by omega) (by omega) (by omega) (by omega) (by omega)).mono ?_; rintro e w2 ⟨rfl, hb2⟩; obtain ⟨u2, rfl⟩ := after hb2; clear hb2))
  exact bodyPost_ret (v := pt ((2 * c) - y) ((2 * c) - x)) (by simp [results, Tryz.results137, go_sem] <;> omega) rfl ⟨rfl, by repeat first | (with_reducible exact Below.refl _ _) | (with_reducible refine below_on ?_ _) | (with_reducible refine below_alloc ?_ _) | (with_reducible refine below_set ?_ (by simp; try omega) _) | (with_reducible refine below_drew ?_)⟩

theorem across_4 (w : World) : Calls Tryz.prog 88 #[.int .u8 4] w fun e w' => e = .returned (.tuple #[.int .i64 (-1), .int .i64 (1)]) ∧ w = w' := by
  go_enter Tryz.func88, Tryz.ntmps88
  go_wp2
  go_ret2
  exact ⟨rfl, rfl⟩
set_option maxHeartbeats 400000 in
theorem far_4 (c x y : Int) (w : World) (h1 : -200000 ≤ x) (h2 : x ≤ 200000) (h3 : -200000 ≤ y) (h4 : y ≤ 200000) (h5 : -4096 ≤ c) (h6 : c ≤ 4096) : Calls Tryz.prog 173 #[ln 4 c, pt x y] w fun e w' => e = .returned (.int .i64 (y - x - 2 * c)) ∧ Below w.heap.size w w' := by
  go_enter Tryz.func173, Tryz.ntmps173
  go_wp2_with (go_at_call 88; refine (across_4 _).mono ?_; rintro e w1 ⟨rfl, rfl⟩)
  go_ret
  exact ⟨ret_int (by omega), by repeat first | (with_reducible exact Below.refl _ _) | (with_reducible refine below_on ?_ _) | (with_reducible refine below_alloc ?_ _) | (with_reducible refine below_set ?_ (by simp; try omega) _) | (with_reducible refine below_drew ?_)⟩
set_option maxHeartbeats 400000 in
theorem rreflect_4 (c x y : Int) (w : World) (h1 : -200000 ≤ x) (h2 : x ≤ 200000) (h3 : -200000 ≤ y) (h4 : y ≤ 200000) (h5 : -4096 ≤ c) (h6 : c ≤ 4096) : Calls Tryz.prog 137 #[ln 4 c, pt x y] w fun e w' => e = .returned (pt (y - (2 * c)) (x + (2 * c))) ∧ Below w.heap.size w w' := by
  go_enter Tryz.func137, Tryz.ntmps137
  go_wp2_with (first | (go_at_call 88; refine (across_4 _).mono ?_; rintro e w1 ⟨rfl, rfl⟩) | (go_at_call 173; refine (far_4 _ _ _ _ (by omega) (by omega) (by omega) (by omega) (by omega) (by omega)).mono ?_; rintro e w2 ⟨rfl, hb2⟩; obtain ⟨u2, rfl⟩ := after hb2; clear hb2))
  exact bodyPost_ret (v := pt (y - (2 * c)) (x + (2 * c))) (by simp [results, Tryz.results137, go_sem] <;> omega) rfl ⟨rfl, by repeat first | (with_reducible exact Below.refl _ _) | (with_reducible refine below_on ?_ _) | (with_reducible refine below_alloc ?_ _) | (with_reducible refine below_set ?_ (by simp; try omega) _) | (with_reducible refine below_drew ?_)⟩

end Go.Proofs.YtkmmnlhmfiabfaaGreatDoor
