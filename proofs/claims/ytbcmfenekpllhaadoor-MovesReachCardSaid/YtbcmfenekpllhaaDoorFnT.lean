/-
  Says: what Through gives for every kind and every point; what isKind answers.
-/
import Derived.Test.YtbcmfenekpllhaaDoorFnB
import Derived.Test.YtbcmfenekpllhaaDoorFnL
set_option linter.unusedVariables false
set_option linter.unusedSimpArgs false
namespace Go.Proofs.YtbcmfenekpllhaaDoor
open Go Go.RowKit

theorem kind_yes (k : Int) (w : World) (h1 : 1 ≤ k) (h2 : k ≤ 4) : Calls Tryd.prog 67 #[.int .u8 k] w fun e w' => e = .returned (.bool true) ∧ w = w' := by
  go_enter Tryd.func67, Tryd.ntmps67
  go_wp2
  go_ret
  exact ⟨rfl, rfl⟩
theorem kind_no (k : Int) (w : World) (h : k < 1 ∨ 4 < k) : Calls Tryd.prog 67 #[.int .u8 k] w fun e w' => e = .returned (.bool false) ∧ w = w' := by
  by_cases h1 : 1 ≤ k
  · have h2 : ¬ k ≤ 4 := by omega
    clear h
    go_enter Tryd.func67, Tryd.ntmps67
    go_wp2
    go_ret
    exact ⟨rfl, rfl⟩
  · clear h
    go_enter Tryd.func67, Tryd.ntmps67
    go_wp2
    go_ret
    exact ⟨rfl, rfl⟩

set_option maxHeartbeats 400000 in
theorem through_odd1 (x y : Int) (w : World) (h5 : -65536 ≤ x) (h6 : x ≤ 65536) (h7 : -65536 ≤ y) (h8 : y ≤ 65536) (hm : (x).tmod 2 ≠ 0) : Calls Tryd.prog 51 #[.int .u8 1, pt x y] w fun e w' => e = .returned (.tuple #[ln 0 0, .int .i64 7]) ∧ Below w.heap.size w w' := by
  have ho : ((x).tmod 2 != 0) = true := by simpa using hm
  clear hm
  go_enter Tryd.func51, Tryd.ntmps51
  go_wp2_with (first | (go_at_call 67; refine (kind_yes _ _ (by omega) (by omega)).mono ?_; rintro e w0 ⟨rfl, rfl⟩) | (go_at_call 54; refine (pcheck_ok _ _ _ (by omega) (by omega) (by omega) (by omega)).mono ?_; rintro e w2 ⟨rfl, hb2⟩; obtain ⟨u2, rfl⟩ := after hb2; clear hb2) | fail)
  refine region_later (by kernel_rfl) (by kernel_rfl) ?_
  repeat (go_big_quiet_step ((first | (go_at_call 46; with_reducible exact Calls.later (way_1 _)) | (go_at_call 72; with_reducible exact Calls.later (value_1 _ _ _ (by omega) (by omega) (by omega) (by omega))))))
  refine wpQuiet_nil ?_
  rintro _ ⟨u3, rfl⟩
  go_wp2
  exact bodyPost_ret (v := .tuple #[ln 0 0, .int .i64 7]) (by simp [results, Tryd.results51, go_sem]) rfl ⟨rfl, by repeat first | (with_reducible exact Below.refl _ _) | (with_reducible refine below_on ?_ _) | (with_reducible refine below_alloc ?_ _) | (with_reducible refine below_set ?_ (by simp; try omega) _) | (with_reducible refine below_drew ?_)⟩

set_option maxHeartbeats 400000 in
theorem through_ok1 (x y : Int) (w : World) (h5 : -65536 ≤ x) (h6 : x ≤ 65536) (h7 : -65536 ≤ y) (h8 : y ≤ 65536) (m : Int) (hm : x = 2 * m) (hl : -4096 ≤ m) (hl2 : m ≤ 4096) : Calls Tryd.prog 51 #[.int .u8 1, pt x y] w fun e w' => e = .returned (.tuple #[ln 1 m, .int .i64 0]) ∧ Below w.heap.size w w' := by
  have hq : (x).tdiv 2 = m := by rw [hm]; exact Int.mul_tdiv_cancel_left _ (by decide)
  have hr : (x).tmod 2 = 0 := by rw [hm]; exact Int.mul_tmod_right _ _
  have hb1 : -65536 ≤ m := by omega
  have hb2 : m ≤ 65536 := by omega
  clear hm
  go_enter Tryd.func51, Tryd.ntmps51
  go_wp2_with (first | (go_at_call 67; refine (kind_yes _ _ (by omega) (by omega)).mono ?_; rintro e w0 ⟨rfl, rfl⟩) | (go_at_call 54; refine (pcheck_ok _ _ _ (by omega) (by omega) (by omega) (by omega)).mono ?_; rintro e w2 ⟨rfl, hb2⟩; obtain ⟨u2, rfl⟩ := after hb2; clear hb2) | fail)
  refine region_later (by kernel_rfl) (by kernel_rfl) ?_
  repeat (go_big_quiet_step ((first | (go_at_call 46; with_reducible exact Calls.later (way_1 _)) | (go_at_call 72; with_reducible exact Calls.later (value_1 _ _ _ (by omega) (by omega) (by omega) (by omega))))))
  refine wpQuiet_nil ?_
  rintro _ ⟨u3, rfl⟩
  go_wp2_with ((go_at_call 47; refine (limited_ok _ _ _ hl hl2).mono ?_; rintro e w5 ⟨rfl, hb5⟩; obtain ⟨u5, rfl⟩ := after hb5; clear hb5))
  exact bodyPost_ret (v := .tuple #[ln 1 m, .int .i64 0]) (by simp [results, Tryd.results51, go_sem]) rfl ⟨rfl, by repeat first | (with_reducible exact Below.refl _ _) | (with_reducible refine below_on ?_ _) | (with_reducible refine below_alloc ?_ _) | (with_reducible refine below_set ?_ (by simp; try omega) _) | (with_reducible refine below_drew ?_)⟩

set_option maxHeartbeats 400000 in
theorem through_far1 (x y : Int) (w : World) (h5 : -65536 ≤ x) (h6 : x ≤ 65536) (h7 : -65536 ≤ y) (h8 : y ≤ 65536) (m : Int) (hm : x = 2 * m) (hl : m < -4096 ∨ 4096 < m) : Calls Tryd.prog 51 #[.int .u8 1, pt x y] w fun e w' => e = .returned (.tuple #[ln 0 0, .int .i64 3]) ∧ Below w.heap.size w w' := by
  have hq : (x).tdiv 2 = m := by rw [hm]; exact Int.mul_tdiv_cancel_left _ (by decide)
  have hr : (x).tmod 2 = 0 := by rw [hm]; exact Int.mul_tmod_right _ _
  have hb1 : -65536 ≤ m := by omega
  have hb2 : m ≤ 65536 := by omega
  clear hm
  have H : Hid (m < -4096 ∨ 4096 < m) := hl
  clear hl
  go_enter Tryd.func51, Tryd.ntmps51
  go_wp2_with (first | (go_at_call 67; refine (kind_yes _ _ (by omega) (by omega)).mono ?_; rintro e w0 ⟨rfl, rfl⟩) | (go_at_call 54; refine (pcheck_ok _ _ _ (by omega) (by omega) (by omega) (by omega)).mono ?_; rintro e w2 ⟨rfl, hb2⟩; obtain ⟨u2, rfl⟩ := after hb2; clear hb2) | fail)
  refine region_later (by kernel_rfl) (by kernel_rfl) ?_
  repeat (go_big_quiet_step ((first | (go_at_call 46; with_reducible exact Calls.later (way_1 _)) | (go_at_call 72; with_reducible exact Calls.later (value_1 _ _ _ (by omega) (by omega) (by omega) (by omega))))))
  refine wpQuiet_nil ?_
  rintro _ ⟨u3, rfl⟩
  go_wp2_with ((go_at_call 47; refine (limited_bad _ _ _ H.out).mono ?_; rintro e w5 ⟨rfl, hb5⟩; obtain ⟨u5, rfl⟩ := after hb5; clear hb5))
  exact bodyPost_ret (v := .tuple #[ln 0 0, .int .i64 3]) (by simp [results, Tryd.results51, go_sem]) rfl ⟨rfl, by repeat first | (with_reducible exact Below.refl _ _) | (with_reducible refine below_on ?_ _) | (with_reducible refine below_alloc ?_ _) | (with_reducible refine below_set ?_ (by simp; try omega) _) | (with_reducible refine below_drew ?_)⟩

set_option maxHeartbeats 400000 in
theorem through_odd2 (x y : Int) (w : World) (h5 : -65536 ≤ x) (h6 : x ≤ 65536) (h7 : -65536 ≤ y) (h8 : y ≤ 65536) (hm : (y).tmod 2 ≠ 0) : Calls Tryd.prog 51 #[.int .u8 2, pt x y] w fun e w' => e = .returned (.tuple #[ln 0 0, .int .i64 7]) ∧ Below w.heap.size w w' := by
  have ho : ((y).tmod 2 != 0) = true := by simpa using hm
  clear hm
  go_enter Tryd.func51, Tryd.ntmps51
  go_wp2_with (first | (go_at_call 67; refine (kind_yes _ _ (by omega) (by omega)).mono ?_; rintro e w0 ⟨rfl, rfl⟩) | (go_at_call 54; refine (pcheck_ok _ _ _ (by omega) (by omega) (by omega) (by omega)).mono ?_; rintro e w2 ⟨rfl, hb2⟩; obtain ⟨u2, rfl⟩ := after hb2; clear hb2) | fail)
  refine region_later (by kernel_rfl) (by kernel_rfl) ?_
  repeat (go_big_quiet_step ((first | (go_at_call 46; with_reducible exact Calls.later (way_2 _)) | (go_at_call 75; with_reducible exact Calls.later (value_2 _ _ _ (by omega) (by omega) (by omega) (by omega))))))
  refine wpQuiet_nil ?_
  rintro _ ⟨u3, rfl⟩
  go_wp2
  exact bodyPost_ret (v := .tuple #[ln 0 0, .int .i64 7]) (by simp [results, Tryd.results51, go_sem]) rfl ⟨rfl, by repeat first | (with_reducible exact Below.refl _ _) | (with_reducible refine below_on ?_ _) | (with_reducible refine below_alloc ?_ _) | (with_reducible refine below_set ?_ (by simp; try omega) _) | (with_reducible refine below_drew ?_)⟩

set_option maxHeartbeats 400000 in
theorem through_ok2 (x y : Int) (w : World) (h5 : -65536 ≤ x) (h6 : x ≤ 65536) (h7 : -65536 ≤ y) (h8 : y ≤ 65536) (m : Int) (hm : y = 2 * m) (hl : -4096 ≤ m) (hl2 : m ≤ 4096) : Calls Tryd.prog 51 #[.int .u8 2, pt x y] w fun e w' => e = .returned (.tuple #[ln 2 m, .int .i64 0]) ∧ Below w.heap.size w w' := by
  have hq : (y).tdiv 2 = m := by rw [hm]; exact Int.mul_tdiv_cancel_left _ (by decide)
  have hr : (y).tmod 2 = 0 := by rw [hm]; exact Int.mul_tmod_right _ _
  have hb1 : -65536 ≤ m := by omega
  have hb2 : m ≤ 65536 := by omega
  clear hm
  go_enter Tryd.func51, Tryd.ntmps51
  go_wp2_with (first | (go_at_call 67; refine (kind_yes _ _ (by omega) (by omega)).mono ?_; rintro e w0 ⟨rfl, rfl⟩) | (go_at_call 54; refine (pcheck_ok _ _ _ (by omega) (by omega) (by omega) (by omega)).mono ?_; rintro e w2 ⟨rfl, hb2⟩; obtain ⟨u2, rfl⟩ := after hb2; clear hb2) | fail)
  refine region_later (by kernel_rfl) (by kernel_rfl) ?_
  repeat (go_big_quiet_step ((first | (go_at_call 46; with_reducible exact Calls.later (way_2 _)) | (go_at_call 75; with_reducible exact Calls.later (value_2 _ _ _ (by omega) (by omega) (by omega) (by omega))))))
  refine wpQuiet_nil ?_
  rintro _ ⟨u3, rfl⟩
  go_wp2_with ((go_at_call 47; refine (limited_ok _ _ _ hl hl2).mono ?_; rintro e w5 ⟨rfl, hb5⟩; obtain ⟨u5, rfl⟩ := after hb5; clear hb5))
  exact bodyPost_ret (v := .tuple #[ln 2 m, .int .i64 0]) (by simp [results, Tryd.results51, go_sem]) rfl ⟨rfl, by repeat first | (with_reducible exact Below.refl _ _) | (with_reducible refine below_on ?_ _) | (with_reducible refine below_alloc ?_ _) | (with_reducible refine below_set ?_ (by simp; try omega) _) | (with_reducible refine below_drew ?_)⟩

set_option maxHeartbeats 400000 in
theorem through_far2 (x y : Int) (w : World) (h5 : -65536 ≤ x) (h6 : x ≤ 65536) (h7 : -65536 ≤ y) (h8 : y ≤ 65536) (m : Int) (hm : y = 2 * m) (hl : m < -4096 ∨ 4096 < m) : Calls Tryd.prog 51 #[.int .u8 2, pt x y] w fun e w' => e = .returned (.tuple #[ln 0 0, .int .i64 3]) ∧ Below w.heap.size w w' := by
  have hq : (y).tdiv 2 = m := by rw [hm]; exact Int.mul_tdiv_cancel_left _ (by decide)
  have hr : (y).tmod 2 = 0 := by rw [hm]; exact Int.mul_tmod_right _ _
  have hb1 : -65536 ≤ m := by omega
  have hb2 : m ≤ 65536 := by omega
  clear hm
  have H : Hid (m < -4096 ∨ 4096 < m) := hl
  clear hl
  go_enter Tryd.func51, Tryd.ntmps51
  go_wp2_with (first | (go_at_call 67; refine (kind_yes _ _ (by omega) (by omega)).mono ?_; rintro e w0 ⟨rfl, rfl⟩) | (go_at_call 54; refine (pcheck_ok _ _ _ (by omega) (by omega) (by omega) (by omega)).mono ?_; rintro e w2 ⟨rfl, hb2⟩; obtain ⟨u2, rfl⟩ := after hb2; clear hb2) | fail)
  refine region_later (by kernel_rfl) (by kernel_rfl) ?_
  repeat (go_big_quiet_step ((first | (go_at_call 46; with_reducible exact Calls.later (way_2 _)) | (go_at_call 75; with_reducible exact Calls.later (value_2 _ _ _ (by omega) (by omega) (by omega) (by omega))))))
  refine wpQuiet_nil ?_
  rintro _ ⟨u3, rfl⟩
  go_wp2_with ((go_at_call 47; refine (limited_bad _ _ _ H.out).mono ?_; rintro e w5 ⟨rfl, hb5⟩; obtain ⟨u5, rfl⟩ := after hb5; clear hb5))
  exact bodyPost_ret (v := .tuple #[ln 0 0, .int .i64 3]) (by simp [results, Tryd.results51, go_sem]) rfl ⟨rfl, by repeat first | (with_reducible exact Below.refl _ _) | (with_reducible refine below_on ?_ _) | (with_reducible refine below_alloc ?_ _) | (with_reducible refine below_set ?_ (by simp; try omega) _) | (with_reducible refine below_drew ?_)⟩

set_option maxHeartbeats 400000 in
theorem through_odd3 (x y : Int) (w : World) (h5 : -65536 ≤ x) (h6 : x ≤ 65536) (h7 : -65536 ≤ y) (h8 : y ≤ 65536) (hm : (x + y).tmod 2 ≠ 0) : Calls Tryd.prog 51 #[.int .u8 3, pt x y] w fun e w' => e = .returned (.tuple #[ln 0 0, .int .i64 7]) ∧ Below w.heap.size w w' := by
  have ho : ((x + y).tmod 2 != 0) = true := by simpa using hm
  clear hm
  go_enter Tryd.func51, Tryd.ntmps51
  go_wp2_with (first | (go_at_call 67; refine (kind_yes _ _ (by omega) (by omega)).mono ?_; rintro e w0 ⟨rfl, rfl⟩) | (go_at_call 54; refine (pcheck_ok _ _ _ (by omega) (by omega) (by omega) (by omega)).mono ?_; rintro e w2 ⟨rfl, hb2⟩; obtain ⟨u2, rfl⟩ := after hb2; clear hb2) | fail)
  refine region_later (by kernel_rfl) (by kernel_rfl) ?_
  repeat (go_big_quiet_step ((first | (go_at_call 46; with_reducible exact Calls.later (way_3 _)) | (go_at_call 78; with_reducible exact Calls.later (value_3 _ _ _ (by omega) (by omega) (by omega) (by omega))))))
  refine wpQuiet_nil ?_
  rintro _ ⟨u3, rfl⟩
  go_wp2
  exact bodyPost_ret (v := .tuple #[ln 0 0, .int .i64 7]) (by simp [results, Tryd.results51, go_sem]) rfl ⟨rfl, by repeat first | (with_reducible exact Below.refl _ _) | (with_reducible refine below_on ?_ _) | (with_reducible refine below_alloc ?_ _) | (with_reducible refine below_set ?_ (by simp; try omega) _) | (with_reducible refine below_drew ?_)⟩

set_option maxHeartbeats 400000 in
theorem through_ok3 (x y : Int) (w : World) (h5 : -65536 ≤ x) (h6 : x ≤ 65536) (h7 : -65536 ≤ y) (h8 : y ≤ 65536) (m : Int) (hm : x + y = 2 * m) (hl : -4096 ≤ m) (hl2 : m ≤ 4096) : Calls Tryd.prog 51 #[.int .u8 3, pt x y] w fun e w' => e = .returned (.tuple #[ln 3 m, .int .i64 0]) ∧ Below w.heap.size w w' := by
  have hq : (x + y).tdiv 2 = m := by rw [hm]; exact Int.mul_tdiv_cancel_left _ (by decide)
  have hr : (x + y).tmod 2 = 0 := by rw [hm]; exact Int.mul_tmod_right _ _
  have hb1 : -65536 ≤ m := by omega
  have hb2 : m ≤ 65536 := by omega
  clear hm
  go_enter Tryd.func51, Tryd.ntmps51
  go_wp2_with (first | (go_at_call 67; refine (kind_yes _ _ (by omega) (by omega)).mono ?_; rintro e w0 ⟨rfl, rfl⟩) | (go_at_call 54; refine (pcheck_ok _ _ _ (by omega) (by omega) (by omega) (by omega)).mono ?_; rintro e w2 ⟨rfl, hb2⟩; obtain ⟨u2, rfl⟩ := after hb2; clear hb2) | fail)
  refine region_later (by kernel_rfl) (by kernel_rfl) ?_
  repeat (go_big_quiet_step ((first | (go_at_call 46; with_reducible exact Calls.later (way_3 _)) | (go_at_call 78; with_reducible exact Calls.later (value_3 _ _ _ (by omega) (by omega) (by omega) (by omega))))))
  refine wpQuiet_nil ?_
  rintro _ ⟨u3, rfl⟩
  go_wp2_with ((go_at_call 47; refine (limited_ok _ _ _ hl hl2).mono ?_; rintro e w5 ⟨rfl, hb5⟩; obtain ⟨u5, rfl⟩ := after hb5; clear hb5))
  exact bodyPost_ret (v := .tuple #[ln 3 m, .int .i64 0]) (by simp [results, Tryd.results51, go_sem]) rfl ⟨rfl, by repeat first | (with_reducible exact Below.refl _ _) | (with_reducible refine below_on ?_ _) | (with_reducible refine below_alloc ?_ _) | (with_reducible refine below_set ?_ (by simp; try omega) _) | (with_reducible refine below_drew ?_)⟩

set_option maxHeartbeats 400000 in
theorem through_far3 (x y : Int) (w : World) (h5 : -65536 ≤ x) (h6 : x ≤ 65536) (h7 : -65536 ≤ y) (h8 : y ≤ 65536) (m : Int) (hm : x + y = 2 * m) (hl : m < -4096 ∨ 4096 < m) : Calls Tryd.prog 51 #[.int .u8 3, pt x y] w fun e w' => e = .returned (.tuple #[ln 0 0, .int .i64 3]) ∧ Below w.heap.size w w' := by
  have hq : (x + y).tdiv 2 = m := by rw [hm]; exact Int.mul_tdiv_cancel_left _ (by decide)
  have hr : (x + y).tmod 2 = 0 := by rw [hm]; exact Int.mul_tmod_right _ _
  have hb1 : -65536 ≤ m := by omega
  have hb2 : m ≤ 65536 := by omega
  clear hm
  have H : Hid (m < -4096 ∨ 4096 < m) := hl
  clear hl
  go_enter Tryd.func51, Tryd.ntmps51
  go_wp2_with (first | (go_at_call 67; refine (kind_yes _ _ (by omega) (by omega)).mono ?_; rintro e w0 ⟨rfl, rfl⟩) | (go_at_call 54; refine (pcheck_ok _ _ _ (by omega) (by omega) (by omega) (by omega)).mono ?_; rintro e w2 ⟨rfl, hb2⟩; obtain ⟨u2, rfl⟩ := after hb2; clear hb2) | fail)
  refine region_later (by kernel_rfl) (by kernel_rfl) ?_
  repeat (go_big_quiet_step ((first | (go_at_call 46; with_reducible exact Calls.later (way_3 _)) | (go_at_call 78; with_reducible exact Calls.later (value_3 _ _ _ (by omega) (by omega) (by omega) (by omega))))))
  refine wpQuiet_nil ?_
  rintro _ ⟨u3, rfl⟩
  go_wp2_with ((go_at_call 47; refine (limited_bad _ _ _ H.out).mono ?_; rintro e w5 ⟨rfl, hb5⟩; obtain ⟨u5, rfl⟩ := after hb5; clear hb5))
  exact bodyPost_ret (v := .tuple #[ln 0 0, .int .i64 3]) (by simp [results, Tryd.results51, go_sem]) rfl ⟨rfl, by repeat first | (with_reducible exact Below.refl _ _) | (with_reducible refine below_on ?_ _) | (with_reducible refine below_alloc ?_ _) | (with_reducible refine below_set ?_ (by simp; try omega) _) | (with_reducible refine below_drew ?_)⟩

set_option maxHeartbeats 400000 in
theorem through_odd4 (x y : Int) (w : World) (h5 : -65536 ≤ x) (h6 : x ≤ 65536) (h7 : -65536 ≤ y) (h8 : y ≤ 65536) (hm : (y - x).tmod 2 ≠ 0) : Calls Tryd.prog 51 #[.int .u8 4, pt x y] w fun e w' => e = .returned (.tuple #[ln 0 0, .int .i64 7]) ∧ Below w.heap.size w w' := by
  have ho : ((y - x).tmod 2 != 0) = true := by simpa using hm
  clear hm
  go_enter Tryd.func51, Tryd.ntmps51
  go_wp2_with (first | (go_at_call 67; refine (kind_yes _ _ (by omega) (by omega)).mono ?_; rintro e w0 ⟨rfl, rfl⟩) | (go_at_call 54; refine (pcheck_ok _ _ _ (by omega) (by omega) (by omega) (by omega)).mono ?_; rintro e w2 ⟨rfl, hb2⟩; obtain ⟨u2, rfl⟩ := after hb2; clear hb2) | fail)
  refine region_later (by kernel_rfl) (by kernel_rfl) ?_
  repeat (go_big_quiet_step ((first | (go_at_call 46; with_reducible exact Calls.later (way_4 _)) | (go_at_call 81; with_reducible exact Calls.later (value_4 _ _ _ (by omega) (by omega) (by omega) (by omega))))))
  refine wpQuiet_nil ?_
  rintro _ ⟨u3, rfl⟩
  go_wp2
  exact bodyPost_ret (v := .tuple #[ln 0 0, .int .i64 7]) (by simp [results, Tryd.results51, go_sem]) rfl ⟨rfl, by repeat first | (with_reducible exact Below.refl _ _) | (with_reducible refine below_on ?_ _) | (with_reducible refine below_alloc ?_ _) | (with_reducible refine below_set ?_ (by simp; try omega) _) | (with_reducible refine below_drew ?_)⟩

set_option maxHeartbeats 400000 in
theorem through_ok4 (x y : Int) (w : World) (h5 : -65536 ≤ x) (h6 : x ≤ 65536) (h7 : -65536 ≤ y) (h8 : y ≤ 65536) (m : Int) (hm : y - x = 2 * m) (hl : -4096 ≤ m) (hl2 : m ≤ 4096) : Calls Tryd.prog 51 #[.int .u8 4, pt x y] w fun e w' => e = .returned (.tuple #[ln 4 m, .int .i64 0]) ∧ Below w.heap.size w w' := by
  have hq : (y - x).tdiv 2 = m := by rw [hm]; exact Int.mul_tdiv_cancel_left _ (by decide)
  have hr : (y - x).tmod 2 = 0 := by rw [hm]; exact Int.mul_tmod_right _ _
  have hb1 : -65536 ≤ m := by omega
  have hb2 : m ≤ 65536 := by omega
  clear hm
  go_enter Tryd.func51, Tryd.ntmps51
  go_wp2_with (first | (go_at_call 67; refine (kind_yes _ _ (by omega) (by omega)).mono ?_; rintro e w0 ⟨rfl, rfl⟩) | (go_at_call 54; refine (pcheck_ok _ _ _ (by omega) (by omega) (by omega) (by omega)).mono ?_; rintro e w2 ⟨rfl, hb2⟩; obtain ⟨u2, rfl⟩ := after hb2; clear hb2) | fail)
  refine region_later (by kernel_rfl) (by kernel_rfl) ?_
  repeat (go_big_quiet_step ((first | (go_at_call 46; with_reducible exact Calls.later (way_4 _)) | (go_at_call 81; with_reducible exact Calls.later (value_4 _ _ _ (by omega) (by omega) (by omega) (by omega))))))
  refine wpQuiet_nil ?_
  rintro _ ⟨u3, rfl⟩
  go_wp2_with ((go_at_call 47; refine (limited_ok _ _ _ hl hl2).mono ?_; rintro e w5 ⟨rfl, hb5⟩; obtain ⟨u5, rfl⟩ := after hb5; clear hb5))
  exact bodyPost_ret (v := .tuple #[ln 4 m, .int .i64 0]) (by simp [results, Tryd.results51, go_sem]) rfl ⟨rfl, by repeat first | (with_reducible exact Below.refl _ _) | (with_reducible refine below_on ?_ _) | (with_reducible refine below_alloc ?_ _) | (with_reducible refine below_set ?_ (by simp; try omega) _) | (with_reducible refine below_drew ?_)⟩

set_option maxHeartbeats 400000 in
theorem through_far4 (x y : Int) (w : World) (h5 : -65536 ≤ x) (h6 : x ≤ 65536) (h7 : -65536 ≤ y) (h8 : y ≤ 65536) (m : Int) (hm : y - x = 2 * m) (hl : m < -4096 ∨ 4096 < m) : Calls Tryd.prog 51 #[.int .u8 4, pt x y] w fun e w' => e = .returned (.tuple #[ln 0 0, .int .i64 3]) ∧ Below w.heap.size w w' := by
  have hq : (y - x).tdiv 2 = m := by rw [hm]; exact Int.mul_tdiv_cancel_left _ (by decide)
  have hr : (y - x).tmod 2 = 0 := by rw [hm]; exact Int.mul_tmod_right _ _
  have hb1 : -65536 ≤ m := by omega
  have hb2 : m ≤ 65536 := by omega
  clear hm
  have H : Hid (m < -4096 ∨ 4096 < m) := hl
  clear hl
  go_enter Tryd.func51, Tryd.ntmps51
  go_wp2_with (first | (go_at_call 67; refine (kind_yes _ _ (by omega) (by omega)).mono ?_; rintro e w0 ⟨rfl, rfl⟩) | (go_at_call 54; refine (pcheck_ok _ _ _ (by omega) (by omega) (by omega) (by omega)).mono ?_; rintro e w2 ⟨rfl, hb2⟩; obtain ⟨u2, rfl⟩ := after hb2; clear hb2) | fail)
  refine region_later (by kernel_rfl) (by kernel_rfl) ?_
  repeat (go_big_quiet_step ((first | (go_at_call 46; with_reducible exact Calls.later (way_4 _)) | (go_at_call 81; with_reducible exact Calls.later (value_4 _ _ _ (by omega) (by omega) (by omega) (by omega))))))
  refine wpQuiet_nil ?_
  rintro _ ⟨u3, rfl⟩
  go_wp2_with ((go_at_call 47; refine (limited_bad _ _ _ H.out).mono ?_; rintro e w5 ⟨rfl, hb5⟩; obtain ⟨u5, rfl⟩ := after hb5; clear hb5))
  exact bodyPost_ret (v := .tuple #[ln 0 0, .int .i64 3]) (by simp [results, Tryd.results51, go_sem]) rfl ⟨rfl, by repeat first | (with_reducible exact Below.refl _ _) | (with_reducible refine below_on ?_ _) | (with_reducible refine below_alloc ?_ _) | (with_reducible refine below_set ?_ (by simp; try omega) _) | (with_reducible refine below_drew ?_)⟩

set_option maxHeartbeats 400000 in
theorem through_badk (k x y : Int) (w : World) (h : k < 1 ∨ 4 < k) : Calls Tryd.prog 51 #[.int .u8 k, pt x y] w fun e w' => e = .returned (.tuple #[ln 0 0, .int .i64 1]) ∧ Below w.heap.size w w' := by
  have H : Hid (k < 1 ∨ 4 < k) := h
  clear h
  go_enter Tryd.func51, Tryd.ntmps51
  go_wp2_with (first | (go_at_call 67; refine (kind_no _ _ H.out).mono ?_; rintro e w0 ⟨rfl, rfl⟩) | fail)
  exact bodyPost_ret (v := .tuple #[ln 0 0, .int .i64 1]) (by simp [results, Tryd.results51, go_sem]) rfl ⟨rfl, by repeat first | (with_reducible exact Below.refl _ _) | (with_reducible refine below_on ?_ _) | (with_reducible refine below_alloc ?_ _) | (with_reducible refine below_set ?_ (by simp; try omega) _) | (with_reducible refine below_drew ?_)⟩
set_option maxHeartbeats 400000 in
theorem through_badp (k x y : Int) (w : World) (h1 : 1 ≤ k) (h2 : k ≤ 4) (h : x < -65536 ∨ 65536 < x ∨ y < -65536 ∨ 65536 < y) : Calls Tryd.prog 51 #[.int .u8 k, pt x y] w fun e w' => e = .returned (.tuple #[ln 0 0, .int .i64 1]) ∧ Below w.heap.size w w' := by
  have H : Hid (x < -65536 ∨ 65536 < x ∨ y < -65536 ∨ 65536 < y) := h
  clear h
  go_enter Tryd.func51, Tryd.ntmps51
  go_wp2_with (first | (go_at_call 67; refine (kind_yes _ _ (by omega) (by omega)).mono ?_; rintro e w0 ⟨rfl, rfl⟩) | (go_at_call 54; refine (pcheck_bad _ _ _ H.out).mono ?_; rintro e w2 ⟨rfl, hb2⟩; obtain ⟨u2, rfl⟩ := after hb2; clear hb2) | fail)
  exact bodyPost_ret (v := .tuple #[ln 0 0, .int .i64 1]) (by simp [results, Tryd.results51, go_sem]) rfl ⟨rfl, by repeat first | (with_reducible exact Below.refl _ _) | (with_reducible refine below_on ?_ _) | (with_reducible refine below_alloc ?_ _) | (with_reducible refine below_set ?_ (by simp; try omega) _) | (with_reducible refine below_drew ?_)⟩

end Go.Proofs.YtbcmfenekpllhaaDoor
