/-
  Says: what Side gives for every line and every point, valid or not; that it changes no memory that was there.
-/
import Derived.Test.YtgkiliijefkcaaaDoorFnB
set_option linter.unusedVariables false
set_option linter.unusedSimpArgs false
namespace Go.Proofs.YtgkiliijefkcaaaDoor
open Go Go.RowKit

set_option maxHeartbeats 400000 in
theorem side_low1 (c x y : Int) (w : World) (h3 : -4096 ≤ c) (h4 : c ≤ 4096) (h5 : -65536 ≤ x) (h6 : x ≤ 65536) (h7 : -65536 ≤ y) (h8 : y ≤ 65536) (hd : x - 2 * c < 0) :
    Calls Tryd.prog 51 #[ln 1 c, pt x y] w fun e w' => e = .returned (.int .i64 (-1)) ∧ Below w.heap.size w w' := by
  go_enter Tryd.func51, Tryd.ntmps51
  go_wp2_with (first | (go_at_call 42; refine (check_ok _ _ _ (by omega) (by omega) (by omega) (by omega)).mono ?_; rintro e w1 ⟨rfl, hb1⟩; obtain ⟨u1, rfl⟩ := after hb1; clear hb1) | (go_at_call 62; refine (pcheck_ok _ _ _ (by omega) (by omega) (by omega) (by omega)).mono ?_; rintro e w2 ⟨rfl, hb2⟩; obtain ⟨u2, rfl⟩ := after hb2; clear hb2) | fail)
  refine region_later (by kernel_rfl) (by kernel_rfl) ?_
  repeat (go_big_quiet_step ((first | (go_at_call 63; with_reducible exact Calls.later (way_1 _)) | (go_at_call 68; with_reducible exact Calls.later (value_1 _ _ _ (by omega) (by omega) (by omega) (by omega))))))
  refine wpQuiet_nil ?_
  rintro _ ⟨u3, rfl⟩
  go_wp2
  go_ret
  exact ⟨rfl, below_on (below_on (below_on (below_alloc (below_alloc (Below.refl _ _) _) _) u1) u2) u3⟩

set_option maxHeartbeats 400000 in
theorem side_on1 (c x y : Int) (w : World) (h3 : -4096 ≤ c) (h4 : c ≤ 4096) (h5 : -65536 ≤ x) (h6 : x ≤ 65536) (h7 : -65536 ≤ y) (h8 : y ≤ 65536) (hd : x - 2 * c = 0) :
    Calls Tryd.prog 51 #[ln 1 c, pt x y] w fun e w' => e = .returned (.int .i64 (0)) ∧ Below w.heap.size w w' := by
  have n1 : ¬ (x - 2 * c < 0) := by omega
  have n2 : ¬ (0 < x - 2 * c) := by omega
  clear hd
  go_enter Tryd.func51, Tryd.ntmps51
  go_wp2_with (first | (go_at_call 42; refine (check_ok _ _ _ (by omega) (by omega) (by omega) (by omega)).mono ?_; rintro e w1 ⟨rfl, hb1⟩; obtain ⟨u1, rfl⟩ := after hb1; clear hb1) | (go_at_call 62; refine (pcheck_ok _ _ _ (by omega) (by omega) (by omega) (by omega)).mono ?_; rintro e w2 ⟨rfl, hb2⟩; obtain ⟨u2, rfl⟩ := after hb2; clear hb2) | fail)
  refine region_later (by kernel_rfl) (by kernel_rfl) ?_
  repeat (go_big_quiet_step ((first | (go_at_call 63; with_reducible exact Calls.later (way_1 _)) | (go_at_call 68; with_reducible exact Calls.later (value_1 _ _ _ (by omega) (by omega) (by omega) (by omega))))))
  refine wpQuiet_nil ?_
  rintro _ ⟨u3, rfl⟩
  go_wp2
  go_ret
  exact ⟨rfl, below_on (below_on (below_on (below_alloc (below_alloc (Below.refl _ _) _) _) u1) u2) u3⟩

set_option maxHeartbeats 400000 in
theorem side_high1 (c x y : Int) (w : World) (h3 : -4096 ≤ c) (h4 : c ≤ 4096) (h5 : -65536 ≤ x) (h6 : x ≤ 65536) (h7 : -65536 ≤ y) (h8 : y ≤ 65536) (hd : 0 < x - 2 * c) :
    Calls Tryd.prog 51 #[ln 1 c, pt x y] w fun e w' => e = .returned (.int .i64 (1)) ∧ Below w.heap.size w w' := by
  go_enter Tryd.func51, Tryd.ntmps51
  go_wp2_with (first | (go_at_call 42; refine (check_ok _ _ _ (by omega) (by omega) (by omega) (by omega)).mono ?_; rintro e w1 ⟨rfl, hb1⟩; obtain ⟨u1, rfl⟩ := after hb1; clear hb1) | (go_at_call 62; refine (pcheck_ok _ _ _ (by omega) (by omega) (by omega) (by omega)).mono ?_; rintro e w2 ⟨rfl, hb2⟩; obtain ⟨u2, rfl⟩ := after hb2; clear hb2) | fail)
  refine region_later (by kernel_rfl) (by kernel_rfl) ?_
  repeat (go_big_quiet_step ((first | (go_at_call 63; with_reducible exact Calls.later (way_1 _)) | (go_at_call 68; with_reducible exact Calls.later (value_1 _ _ _ (by omega) (by omega) (by omega) (by omega))))))
  refine wpQuiet_nil ?_
  rintro _ ⟨u3, rfl⟩
  go_wp2
  go_ret
  exact ⟨rfl, below_on (below_on (below_on (below_alloc (below_alloc (Below.refl _ _) _) _) u1) u2) u3⟩

set_option maxHeartbeats 400000 in
theorem side_low2 (c x y : Int) (w : World) (h3 : -4096 ≤ c) (h4 : c ≤ 4096) (h5 : -65536 ≤ x) (h6 : x ≤ 65536) (h7 : -65536 ≤ y) (h8 : y ≤ 65536) (hd : y - 2 * c < 0) :
    Calls Tryd.prog 51 #[ln 2 c, pt x y] w fun e w' => e = .returned (.int .i64 (-1)) ∧ Below w.heap.size w w' := by
  go_enter Tryd.func51, Tryd.ntmps51
  go_wp2_with (first | (go_at_call 42; refine (check_ok _ _ _ (by omega) (by omega) (by omega) (by omega)).mono ?_; rintro e w1 ⟨rfl, hb1⟩; obtain ⟨u1, rfl⟩ := after hb1; clear hb1) | (go_at_call 62; refine (pcheck_ok _ _ _ (by omega) (by omega) (by omega) (by omega)).mono ?_; rintro e w2 ⟨rfl, hb2⟩; obtain ⟨u2, rfl⟩ := after hb2; clear hb2) | fail)
  refine region_later (by kernel_rfl) (by kernel_rfl) ?_
  repeat (go_big_quiet_step ((first | (go_at_call 63; with_reducible exact Calls.later (way_2 _)) | (go_at_call 71; with_reducible exact Calls.later (value_2 _ _ _ (by omega) (by omega) (by omega) (by omega))))))
  refine wpQuiet_nil ?_
  rintro _ ⟨u3, rfl⟩
  go_wp2
  go_ret
  exact ⟨rfl, below_on (below_on (below_on (below_alloc (below_alloc (Below.refl _ _) _) _) u1) u2) u3⟩

set_option maxHeartbeats 400000 in
theorem side_on2 (c x y : Int) (w : World) (h3 : -4096 ≤ c) (h4 : c ≤ 4096) (h5 : -65536 ≤ x) (h6 : x ≤ 65536) (h7 : -65536 ≤ y) (h8 : y ≤ 65536) (hd : y - 2 * c = 0) :
    Calls Tryd.prog 51 #[ln 2 c, pt x y] w fun e w' => e = .returned (.int .i64 (0)) ∧ Below w.heap.size w w' := by
  have n1 : ¬ (y - 2 * c < 0) := by omega
  have n2 : ¬ (0 < y - 2 * c) := by omega
  clear hd
  go_enter Tryd.func51, Tryd.ntmps51
  go_wp2_with (first | (go_at_call 42; refine (check_ok _ _ _ (by omega) (by omega) (by omega) (by omega)).mono ?_; rintro e w1 ⟨rfl, hb1⟩; obtain ⟨u1, rfl⟩ := after hb1; clear hb1) | (go_at_call 62; refine (pcheck_ok _ _ _ (by omega) (by omega) (by omega) (by omega)).mono ?_; rintro e w2 ⟨rfl, hb2⟩; obtain ⟨u2, rfl⟩ := after hb2; clear hb2) | fail)
  refine region_later (by kernel_rfl) (by kernel_rfl) ?_
  repeat (go_big_quiet_step ((first | (go_at_call 63; with_reducible exact Calls.later (way_2 _)) | (go_at_call 71; with_reducible exact Calls.later (value_2 _ _ _ (by omega) (by omega) (by omega) (by omega))))))
  refine wpQuiet_nil ?_
  rintro _ ⟨u3, rfl⟩
  go_wp2
  go_ret
  exact ⟨rfl, below_on (below_on (below_on (below_alloc (below_alloc (Below.refl _ _) _) _) u1) u2) u3⟩

set_option maxHeartbeats 400000 in
theorem side_high2 (c x y : Int) (w : World) (h3 : -4096 ≤ c) (h4 : c ≤ 4096) (h5 : -65536 ≤ x) (h6 : x ≤ 65536) (h7 : -65536 ≤ y) (h8 : y ≤ 65536) (hd : 0 < y - 2 * c) :
    Calls Tryd.prog 51 #[ln 2 c, pt x y] w fun e w' => e = .returned (.int .i64 (1)) ∧ Below w.heap.size w w' := by
  go_enter Tryd.func51, Tryd.ntmps51
  go_wp2_with (first | (go_at_call 42; refine (check_ok _ _ _ (by omega) (by omega) (by omega) (by omega)).mono ?_; rintro e w1 ⟨rfl, hb1⟩; obtain ⟨u1, rfl⟩ := after hb1; clear hb1) | (go_at_call 62; refine (pcheck_ok _ _ _ (by omega) (by omega) (by omega) (by omega)).mono ?_; rintro e w2 ⟨rfl, hb2⟩; obtain ⟨u2, rfl⟩ := after hb2; clear hb2) | fail)
  refine region_later (by kernel_rfl) (by kernel_rfl) ?_
  repeat (go_big_quiet_step ((first | (go_at_call 63; with_reducible exact Calls.later (way_2 _)) | (go_at_call 71; with_reducible exact Calls.later (value_2 _ _ _ (by omega) (by omega) (by omega) (by omega))))))
  refine wpQuiet_nil ?_
  rintro _ ⟨u3, rfl⟩
  go_wp2
  go_ret
  exact ⟨rfl, below_on (below_on (below_on (below_alloc (below_alloc (Below.refl _ _) _) _) u1) u2) u3⟩

set_option maxHeartbeats 400000 in
theorem side_low3 (c x y : Int) (w : World) (h3 : -4096 ≤ c) (h4 : c ≤ 4096) (h5 : -65536 ≤ x) (h6 : x ≤ 65536) (h7 : -65536 ≤ y) (h8 : y ≤ 65536) (hd : x + y - 2 * c < 0) :
    Calls Tryd.prog 51 #[ln 3 c, pt x y] w fun e w' => e = .returned (.int .i64 (-1)) ∧ Below w.heap.size w w' := by
  go_enter Tryd.func51, Tryd.ntmps51
  go_wp2_with (first | (go_at_call 42; refine (check_ok _ _ _ (by omega) (by omega) (by omega) (by omega)).mono ?_; rintro e w1 ⟨rfl, hb1⟩; obtain ⟨u1, rfl⟩ := after hb1; clear hb1) | (go_at_call 62; refine (pcheck_ok _ _ _ (by omega) (by omega) (by omega) (by omega)).mono ?_; rintro e w2 ⟨rfl, hb2⟩; obtain ⟨u2, rfl⟩ := after hb2; clear hb2) | fail)
  refine region_later (by kernel_rfl) (by kernel_rfl) ?_
  repeat (go_big_quiet_step ((first | (go_at_call 63; with_reducible exact Calls.later (way_3 _)) | (go_at_call 74; with_reducible exact Calls.later (value_3 _ _ _ (by omega) (by omega) (by omega) (by omega))))))
  refine wpQuiet_nil ?_
  rintro _ ⟨u3, rfl⟩
  go_wp2
  go_ret
  exact ⟨rfl, below_on (below_on (below_on (below_alloc (below_alloc (Below.refl _ _) _) _) u1) u2) u3⟩

set_option maxHeartbeats 400000 in
theorem side_on3 (c x y : Int) (w : World) (h3 : -4096 ≤ c) (h4 : c ≤ 4096) (h5 : -65536 ≤ x) (h6 : x ≤ 65536) (h7 : -65536 ≤ y) (h8 : y ≤ 65536) (hd : x + y - 2 * c = 0) :
    Calls Tryd.prog 51 #[ln 3 c, pt x y] w fun e w' => e = .returned (.int .i64 (0)) ∧ Below w.heap.size w w' := by
  have n1 : ¬ (x + y - 2 * c < 0) := by omega
  have n2 : ¬ (0 < x + y - 2 * c) := by omega
  clear hd
  go_enter Tryd.func51, Tryd.ntmps51
  go_wp2_with (first | (go_at_call 42; refine (check_ok _ _ _ (by omega) (by omega) (by omega) (by omega)).mono ?_; rintro e w1 ⟨rfl, hb1⟩; obtain ⟨u1, rfl⟩ := after hb1; clear hb1) | (go_at_call 62; refine (pcheck_ok _ _ _ (by omega) (by omega) (by omega) (by omega)).mono ?_; rintro e w2 ⟨rfl, hb2⟩; obtain ⟨u2, rfl⟩ := after hb2; clear hb2) | fail)
  refine region_later (by kernel_rfl) (by kernel_rfl) ?_
  repeat (go_big_quiet_step ((first | (go_at_call 63; with_reducible exact Calls.later (way_3 _)) | (go_at_call 74; with_reducible exact Calls.later (value_3 _ _ _ (by omega) (by omega) (by omega) (by omega))))))
  refine wpQuiet_nil ?_
  rintro _ ⟨u3, rfl⟩
  go_wp2
  go_ret
  exact ⟨rfl, below_on (below_on (below_on (below_alloc (below_alloc (Below.refl _ _) _) _) u1) u2) u3⟩

set_option maxHeartbeats 400000 in
theorem side_high3 (c x y : Int) (w : World) (h3 : -4096 ≤ c) (h4 : c ≤ 4096) (h5 : -65536 ≤ x) (h6 : x ≤ 65536) (h7 : -65536 ≤ y) (h8 : y ≤ 65536) (hd : 0 < x + y - 2 * c) :
    Calls Tryd.prog 51 #[ln 3 c, pt x y] w fun e w' => e = .returned (.int .i64 (1)) ∧ Below w.heap.size w w' := by
  go_enter Tryd.func51, Tryd.ntmps51
  go_wp2_with (first | (go_at_call 42; refine (check_ok _ _ _ (by omega) (by omega) (by omega) (by omega)).mono ?_; rintro e w1 ⟨rfl, hb1⟩; obtain ⟨u1, rfl⟩ := after hb1; clear hb1) | (go_at_call 62; refine (pcheck_ok _ _ _ (by omega) (by omega) (by omega) (by omega)).mono ?_; rintro e w2 ⟨rfl, hb2⟩; obtain ⟨u2, rfl⟩ := after hb2; clear hb2) | fail)
  refine region_later (by kernel_rfl) (by kernel_rfl) ?_
  repeat (go_big_quiet_step ((first | (go_at_call 63; with_reducible exact Calls.later (way_3 _)) | (go_at_call 74; with_reducible exact Calls.later (value_3 _ _ _ (by omega) (by omega) (by omega) (by omega))))))
  refine wpQuiet_nil ?_
  rintro _ ⟨u3, rfl⟩
  go_wp2
  go_ret
  exact ⟨rfl, below_on (below_on (below_on (below_alloc (below_alloc (Below.refl _ _) _) _) u1) u2) u3⟩

set_option maxHeartbeats 400000 in
theorem side_low4 (c x y : Int) (w : World) (h3 : -4096 ≤ c) (h4 : c ≤ 4096) (h5 : -65536 ≤ x) (h6 : x ≤ 65536) (h7 : -65536 ≤ y) (h8 : y ≤ 65536) (hd : y - x - 2 * c < 0) :
    Calls Tryd.prog 51 #[ln 4 c, pt x y] w fun e w' => e = .returned (.int .i64 (-1)) ∧ Below w.heap.size w w' := by
  go_enter Tryd.func51, Tryd.ntmps51
  go_wp2_with (first | (go_at_call 42; refine (check_ok _ _ _ (by omega) (by omega) (by omega) (by omega)).mono ?_; rintro e w1 ⟨rfl, hb1⟩; obtain ⟨u1, rfl⟩ := after hb1; clear hb1) | (go_at_call 62; refine (pcheck_ok _ _ _ (by omega) (by omega) (by omega) (by omega)).mono ?_; rintro e w2 ⟨rfl, hb2⟩; obtain ⟨u2, rfl⟩ := after hb2; clear hb2) | fail)
  refine region_later (by kernel_rfl) (by kernel_rfl) ?_
  repeat (go_big_quiet_step ((first | (go_at_call 63; with_reducible exact Calls.later (way_4 _)) | (go_at_call 77; with_reducible exact Calls.later (value_4 _ _ _ (by omega) (by omega) (by omega) (by omega))))))
  refine wpQuiet_nil ?_
  rintro _ ⟨u3, rfl⟩
  go_wp2
  go_ret
  exact ⟨rfl, below_on (below_on (below_on (below_alloc (below_alloc (Below.refl _ _) _) _) u1) u2) u3⟩

set_option maxHeartbeats 400000 in
theorem side_on4 (c x y : Int) (w : World) (h3 : -4096 ≤ c) (h4 : c ≤ 4096) (h5 : -65536 ≤ x) (h6 : x ≤ 65536) (h7 : -65536 ≤ y) (h8 : y ≤ 65536) (hd : y - x - 2 * c = 0) :
    Calls Tryd.prog 51 #[ln 4 c, pt x y] w fun e w' => e = .returned (.int .i64 (0)) ∧ Below w.heap.size w w' := by
  have n1 : ¬ (y - x - 2 * c < 0) := by omega
  have n2 : ¬ (0 < y - x - 2 * c) := by omega
  clear hd
  go_enter Tryd.func51, Tryd.ntmps51
  go_wp2_with (first | (go_at_call 42; refine (check_ok _ _ _ (by omega) (by omega) (by omega) (by omega)).mono ?_; rintro e w1 ⟨rfl, hb1⟩; obtain ⟨u1, rfl⟩ := after hb1; clear hb1) | (go_at_call 62; refine (pcheck_ok _ _ _ (by omega) (by omega) (by omega) (by omega)).mono ?_; rintro e w2 ⟨rfl, hb2⟩; obtain ⟨u2, rfl⟩ := after hb2; clear hb2) | fail)
  refine region_later (by kernel_rfl) (by kernel_rfl) ?_
  repeat (go_big_quiet_step ((first | (go_at_call 63; with_reducible exact Calls.later (way_4 _)) | (go_at_call 77; with_reducible exact Calls.later (value_4 _ _ _ (by omega) (by omega) (by omega) (by omega))))))
  refine wpQuiet_nil ?_
  rintro _ ⟨u3, rfl⟩
  go_wp2
  go_ret
  exact ⟨rfl, below_on (below_on (below_on (below_alloc (below_alloc (Below.refl _ _) _) _) u1) u2) u3⟩

set_option maxHeartbeats 400000 in
theorem side_high4 (c x y : Int) (w : World) (h3 : -4096 ≤ c) (h4 : c ≤ 4096) (h5 : -65536 ≤ x) (h6 : x ≤ 65536) (h7 : -65536 ≤ y) (h8 : y ≤ 65536) (hd : 0 < y - x - 2 * c) :
    Calls Tryd.prog 51 #[ln 4 c, pt x y] w fun e w' => e = .returned (.int .i64 (1)) ∧ Below w.heap.size w w' := by
  go_enter Tryd.func51, Tryd.ntmps51
  go_wp2_with (first | (go_at_call 42; refine (check_ok _ _ _ (by omega) (by omega) (by omega) (by omega)).mono ?_; rintro e w1 ⟨rfl, hb1⟩; obtain ⟨u1, rfl⟩ := after hb1; clear hb1) | (go_at_call 62; refine (pcheck_ok _ _ _ (by omega) (by omega) (by omega) (by omega)).mono ?_; rintro e w2 ⟨rfl, hb2⟩; obtain ⟨u2, rfl⟩ := after hb2; clear hb2) | fail)
  refine region_later (by kernel_rfl) (by kernel_rfl) ?_
  repeat (go_big_quiet_step ((first | (go_at_call 63; with_reducible exact Calls.later (way_4 _)) | (go_at_call 77; with_reducible exact Calls.later (value_4 _ _ _ (by omega) (by omega) (by omega) (by omega))))))
  refine wpQuiet_nil ?_
  rintro _ ⟨u3, rfl⟩
  go_wp2
  go_ret
  exact ⟨rfl, below_on (below_on (below_on (below_alloc (below_alloc (Below.refl _ _) _) _) u1) u2) u3⟩

theorem side_any (k c x y : Int) (w : World) (h1 : 1 ≤ k) (h2 : k ≤ 4) (h3 : -4096 ≤ c) (h4 : c ≤ 4096) (h5 : -65536 ≤ x) (h6 : x ≤ 65536) (h7 : -65536 ≤ y) (h8 : y ≤ 65536) :
    Calls Tryd.prog 51 #[ln k c, pt x y] w fun e w' => e = .returned (.int .i64 (sgn (val k x y - 2 * c))) ∧ Below w.heap.size w w' := by
  obtain rfl | rfl | rfl | rfl : k = 1 ∨ k = 2 ∨ k = 3 ∨ k = 4 := by omega
  · rw [val1]
    rcases Int.lt_trichotomy (x - 2 * c) 0 with h | h | h
    · rw [sgn_neg h]; exact side_low1 c x y w h3 h4 h5 h6 h7 h8 h
    · rw [h, sgn_zero]; exact side_on1 c x y w h3 h4 h5 h6 h7 h8 h
    · rw [sgn_pos h]; exact side_high1 c x y w h3 h4 h5 h6 h7 h8 h
  · rw [val2]
    rcases Int.lt_trichotomy (y - 2 * c) 0 with h | h | h
    · rw [sgn_neg h]; exact side_low2 c x y w h3 h4 h5 h6 h7 h8 h
    · rw [h, sgn_zero]; exact side_on2 c x y w h3 h4 h5 h6 h7 h8 h
    · rw [sgn_pos h]; exact side_high2 c x y w h3 h4 h5 h6 h7 h8 h
  · rw [val3]
    rcases Int.lt_trichotomy (x + y - 2 * c) 0 with h | h | h
    · rw [sgn_neg h]; exact side_low3 c x y w h3 h4 h5 h6 h7 h8 h
    · rw [h, sgn_zero]; exact side_on3 c x y w h3 h4 h5 h6 h7 h8 h
    · rw [sgn_pos h]; exact side_high3 c x y w h3 h4 h5 h6 h7 h8 h
  · rw [val4]
    rcases Int.lt_trichotomy (y - x - 2 * c) 0 with h | h | h
    · rw [sgn_neg h]; exact side_low4 c x y w h3 h4 h5 h6 h7 h8 h
    · rw [h, sgn_zero]; exact side_on4 c x y w h3 h4 h5 h6 h7 h8 h
    · rw [sgn_pos h]; exact side_high4 c x y w h3 h4 h5 h6 h7 h8 h

set_option maxHeartbeats 400000 in
theorem side_badl (k c x y : Int) (w : World) (h : k < 1 ∨ 4 < k ∨ c < -4096 ∨ 4096 < c) :
    Calls Tryd.prog 51 #[ln k c, pt x y] w fun e w' => e = .returned (.int .i64 0) ∧ Below w.heap.size w w' := by
  have H : Hid (k < 1 ∨ 4 < k ∨ c < -4096 ∨ 4096 < c) := h
  clear h
  go_enter Tryd.func51, Tryd.ntmps51
  go_wp2_with (first | (go_at_call 42; refine (check_bad _ _ _ H.out).mono ?_; rintro e w1 ⟨rfl, hb1⟩; obtain ⟨u1, rfl⟩ := after hb1; clear hb1) | fail)
  go_ret
  exact ⟨rfl, below_on (below_alloc (below_alloc (Below.refl _ _) _) _) u1⟩

set_option maxHeartbeats 400000 in
theorem side_badp (k c x y : Int) (w : World) (h1 : 1 ≤ k) (h2 : k ≤ 4) (h3 : -4096 ≤ c) (h4 : c ≤ 4096) (h : x < -65536 ∨ 65536 < x ∨ y < -65536 ∨ 65536 < y) :
    Calls Tryd.prog 51 #[ln k c, pt x y] w fun e w' => e = .returned (.int .i64 0) ∧ Below w.heap.size w w' := by
  have H : Hid (x < -65536 ∨ 65536 < x ∨ y < -65536 ∨ 65536 < y) := h
  clear h
  go_enter Tryd.func51, Tryd.ntmps51
  go_wp2_with (first | (go_at_call 42; refine (check_ok _ _ _ (by omega) (by omega) (by omega) (by omega)).mono ?_; rintro e w1 ⟨rfl, hb1⟩; obtain ⟨u1, rfl⟩ := after hb1; clear hb1) | (go_at_call 62; refine (pcheck_bad _ _ _ H.out).mono ?_; rintro e w2 ⟨rfl, hb2⟩; obtain ⟨u2, rfl⟩ := after hb2; clear hb2) | fail)
  go_ret
  exact ⟨rfl, below_on (below_on (below_alloc (below_alloc (Below.refl _ _) _) _) u1) u2⟩

end Go.Proofs.YtgkiliijefkcaaaDoor
