/-
  Says: LinesSide answers true at every line and every point, where the librarys table stands as it was laid.
-/
import Derived.Test.YtbcmfenekpllhaaDoorLaw0
import Derived.Deep.RegionHeld3
set_option linter.unusedVariables false
set_option linter.unusedSimpArgs false
namespace Go.Proofs.YtbcmfenekpllhaaDoor
open Go Go.RowKit

attribute [local go_sem] World.cell?_alloc_some

set_option maxRecDepth 100000 in
set_option maxHeartbeats 8000000 in
theorem side_case1 (k c x y : Int) (w : World) (hT : Tab w) (h : k < 1 ∨ 4 < k ∨ c < -4096 ∨ 4096 < c) (h5 : -65536 ≤ x) (h6 : x ≤ 65536) (h7 : -65536 ≤ y) (h8 : y ≤ 65536) : Calls Tryd.prog 19 #[ln k c, pt x y] w fun e w' => e = .returned (.bool true) ∧ Below w.heap.size w w' := by
  have hT' : ∀ W, Below w.heap.size w W → Tab W := fun W hb => tab_below hT hb
  have H : Hid (k < 1 ∨ 4 < k ∨ c < -4096 ∨ 4096 < c) := h
  clear h
  go_enter Tryd.func19, Tryd.ntmps19
  go_wp2_with (first | (go_at_call 13; with_reducible refine (valid_no k c _ H.out).mono ?_; rintro e wx ⟨rfl, hx⟩; obtain ⟨ux, rfl⟩ := after hx; clear hx) | (go_at_call 39; with_reducible refine (inside_yes x y _ h5 h6 h7 h8).mono ?_; rintro e wx ⟨rfl, hx⟩; obtain ⟨ux, rfl⟩ := after hx; clear hx) | (go_at_call 42; with_reducible refine (check_bad k c _ H.out).mono ?_; rintro e wx ⟨rfl, hx⟩; obtain ⟨ux, rfl⟩ := after hx; clear hx) | (go_at_call 54; with_reducible refine (pcheck_ok x y _ h5 h6 h7 h8).mono ?_; rintro e wx ⟨rfl, hx⟩; obtain ⟨ux, rfl⟩ := after hx; clear hx) | (go_at_call 48; with_reducible refine (side_badl k c x y _ H.out).mono ?_; rintro e wx ⟨rfl, hx⟩; obtain ⟨ux, rfl⟩ := after hx; clear hx) | (go_at_call 14; with_reducible refine (lives_ok _ (hT' _ (by repeat first | (with_reducible exact Below.refl _ _) | (with_reducible refine below_on ?_ _) | (with_reducible refine below_alloc ?_ _) | (with_reducible refine below_set ?_ (by simp; try omega) _) | (with_reducible refine below_drew ?_)))).mono ?_; rintro e wx ⟨rfl, hx⟩; obtain ⟨ux, rfl⟩ := after hx; clear hx) | fail)
  go_ret
  exact ⟨rfl, by repeat first | (with_reducible exact Below.refl _ _) | (with_reducible refine below_on ?_ _) | (with_reducible refine below_alloc ?_ _) | (with_reducible refine below_set ?_ (by simp; try omega) _) | (with_reducible refine below_drew ?_)⟩

set_option maxRecDepth 100000 in
set_option maxHeartbeats 8000000 in
theorem side_case2 (k c x y : Int) (w : World) (hT : Tab w) (h : k < 1 ∨ 4 < k ∨ c < -4096 ∨ 4096 < c) (h9 : x < -65536 ∨ 65536 < x ∨ y < -65536 ∨ 65536 < y) : Calls Tryd.prog 19 #[ln k c, pt x y] w fun e w' => e = .returned (.bool true) ∧ Below w.heap.size w w' := by
  have hT' : ∀ W, Below w.heap.size w W → Tab W := fun W hb => tab_below hT hb
  have H : Hid (k < 1 ∨ 4 < k ∨ c < -4096 ∨ 4096 < c) := h
  clear h
  have G : Hid (x < -65536 ∨ 65536 < x ∨ y < -65536 ∨ 65536 < y) := h9
  clear h9
  go_enter Tryd.func19, Tryd.ntmps19
  go_wp2_with (first | (go_at_call 13; with_reducible refine (valid_no k c _ H.out).mono ?_; rintro e wx ⟨rfl, hx⟩; obtain ⟨ux, rfl⟩ := after hx; clear hx) | (go_at_call 39; with_reducible refine (inside_no x y _ G.out).mono ?_; rintro e wx ⟨rfl, hx⟩; obtain ⟨ux, rfl⟩ := after hx; clear hx) | (go_at_call 42; with_reducible refine (check_bad k c _ H.out).mono ?_; rintro e wx ⟨rfl, hx⟩; obtain ⟨ux, rfl⟩ := after hx; clear hx) | (go_at_call 54; with_reducible refine (pcheck_bad x y _ G.out).mono ?_; rintro e wx ⟨rfl, hx⟩; obtain ⟨ux, rfl⟩ := after hx; clear hx) | (go_at_call 48; with_reducible refine (side_badl k c x y _ H.out).mono ?_; rintro e wx ⟨rfl, hx⟩; obtain ⟨ux, rfl⟩ := after hx; clear hx) | (go_at_call 14; with_reducible refine (lives_ok _ (hT' _ (by repeat first | (with_reducible exact Below.refl _ _) | (with_reducible refine below_on ?_ _) | (with_reducible refine below_alloc ?_ _) | (with_reducible refine below_set ?_ (by simp; try omega) _) | (with_reducible refine below_drew ?_)))).mono ?_; rintro e wx ⟨rfl, hx⟩; obtain ⟨ux, rfl⟩ := after hx; clear hx) | fail)
  go_ret
  exact ⟨rfl, by repeat first | (with_reducible exact Below.refl _ _) | (with_reducible refine below_on ?_ _) | (with_reducible refine below_alloc ?_ _) | (with_reducible refine below_set ?_ (by simp; try omega) _) | (with_reducible refine below_drew ?_)⟩

set_option maxRecDepth 100000 in
set_option maxHeartbeats 8000000 in
theorem side_case3 (k c x y : Int) (w : World) (hT : Tab w) (h1 : 1 ≤ k) (h2 : k ≤ 4) (h3 : -4096 ≤ c) (h4 : c ≤ 4096) (h9 : x < -65536 ∨ 65536 < x ∨ y < -65536 ∨ 65536 < y) : Calls Tryd.prog 19 #[ln k c, pt x y] w fun e w' => e = .returned (.bool true) ∧ Below w.heap.size w w' := by
  have hT' : ∀ W, Below w.heap.size w W → Tab W := fun W hb => tab_below hT hb
  have G : Hid (x < -65536 ∨ 65536 < x ∨ y < -65536 ∨ 65536 < y) := h9
  clear h9
  go_enter Tryd.func19, Tryd.ntmps19
  go_wp2_with (first | (go_at_call 13; with_reducible refine (valid_yes k c _ h1 h2 h3 h4).mono ?_; rintro e wx ⟨rfl, hx⟩; obtain ⟨ux, rfl⟩ := after hx; clear hx) | (go_at_call 39; with_reducible refine (inside_no x y _ G.out).mono ?_; rintro e wx ⟨rfl, hx⟩; obtain ⟨ux, rfl⟩ := after hx; clear hx) | (go_at_call 42; with_reducible refine (check_ok k c _ h1 h2 h3 h4).mono ?_; rintro e wx ⟨rfl, hx⟩; obtain ⟨ux, rfl⟩ := after hx; clear hx) | (go_at_call 54; with_reducible refine (pcheck_bad x y _ G.out).mono ?_; rintro e wx ⟨rfl, hx⟩; obtain ⟨ux, rfl⟩ := after hx; clear hx) | (go_at_call 48; with_reducible refine (side_badp k c x y _ h1 h2 h3 h4 G.out).mono ?_; rintro e wx ⟨rfl, hx⟩; obtain ⟨ux, rfl⟩ := after hx; clear hx) | (go_at_call 14; with_reducible refine (lives_ok _ (hT' _ (by repeat first | (with_reducible exact Below.refl _ _) | (with_reducible refine below_on ?_ _) | (with_reducible refine below_alloc ?_ _) | (with_reducible refine below_set ?_ (by simp; try omega) _) | (with_reducible refine below_drew ?_)))).mono ?_; rintro e wx ⟨rfl, hx⟩; obtain ⟨ux, rfl⟩ := after hx; clear hx) | fail)
  go_ret
  exact ⟨rfl, by repeat first | (with_reducible exact Below.refl _ _) | (with_reducible refine below_on ?_ _) | (with_reducible refine below_alloc ?_ _) | (with_reducible refine below_set ?_ (by simp; try omega) _) | (with_reducible refine below_drew ?_)⟩

set_option maxRecDepth 100000 in
set_option maxHeartbeats 8000000 in
theorem side_lt_in (k c x y : Int) (w : World) (hT : Tab w) (h1 : 1 ≤ k) (h2 : k ≤ 4) (h3 : -4096 ≤ c) (h4 : c ≤ 4096) (h5 : -65536 ≤ x) (h6 : x ≤ 65536) (h7 : -65536 ≤ y) (h8 : y ≤ 65536) (q1 : -65536 ≤ mirX k (2 * c) x y) (q2 : mirX k (2 * c) x y ≤ 65536) (q3 : -65536 ≤ mirY k (2 * c) x y) (q4 : mirY k (2 * c) x y ≤ 65536) (d : val k x y - 2 * c < 0) : Calls Tryd.prog 19 #[ln k c, pt x y] w fun e w' => e = .returned (.bool true) ∧ Below w.heap.size w w' := by
  have hT' : ∀ W, Below w.heap.size w W → Tab W := fun W hb => tab_below hT hb
  have D : Hid (val k x y - 2 * c < 0) := d
  go_enter Tryd.func19, Tryd.ntmps19
  go_wp2_with (first | (go_at_call 13; with_reducible refine (valid_yes k c _ h1 h2 h3 h4).mono ?_; rintro e wx ⟨rfl, hx⟩; obtain ⟨ux, rfl⟩ := after hx; clear hx) | (go_at_call 39; with_reducible refine (inside_yes x y _ h5 h6 h7 h8).mono ?_; rintro e wx ⟨rfl, hx⟩; obtain ⟨ux, rfl⟩ := after hx; clear hx) | (go_at_call 42; with_reducible refine (check_ok k c _ h1 h2 h3 h4).mono ?_; rintro e wx ⟨rfl, hx⟩; obtain ⟨ux, rfl⟩ := after hx; clear hx) | (go_at_call 54; with_reducible refine (pcheck_ok x y _ h5 h6 h7 h8).mono ?_; rintro e wx ⟨rfl, hx⟩; obtain ⟨ux, rfl⟩ := after hx; clear hx) | (go_at_call 53; with_reducible refine (far_any k c x y _ h1 h2 (by omega) (by omega) (by omega) (by omega) h3 h4).mono ?_; rintro e wx ⟨rfl, hx⟩; obtain ⟨ux, rfl⟩ := after hx; clear hx) | (go_at_call 48; with_reducible refine (side_lt k c x y _ h1 h2 h3 h4 h5 h6 h7 h8 D.out).mono ?_; rintro e wx ⟨rfl, hx⟩; obtain ⟨ux, rfl⟩ := after hx; clear hx) | (go_at_call 49; with_reducible refine (reflect_ok k c x y _ h1 h2 h3 h4 h5 h6 h7 h8 q1 q2 q3 q4).mono ?_; rintro e wx ⟨rfl, hx⟩; obtain ⟨ux, rfl⟩ := after hx; clear hx) | (go_at_call 48; with_reducible refine (side_gt k c _ _ _ h1 h2 h3 h4 q1 q2 q3 q4 (by have h := D.out; have h9 := mir_val k c x y h1 h2; omega)).mono ?_; rintro e wx ⟨rfl, hx⟩; obtain ⟨ux, rfl⟩ := after hx; clear hx) | (go_at_call 14; with_reducible refine (lives_ok _ (hT' _ (by repeat first | (with_reducible exact Below.refl _ _) | (with_reducible refine below_on ?_ _) | (with_reducible refine below_alloc ?_ _) | (with_reducible refine below_set ?_ (by simp; try omega) _) | (with_reducible refine below_drew ?_)))).mono ?_; rintro e wx ⟨rfl, hx⟩; obtain ⟨ux, rfl⟩ := after hx; clear hx) | fail)
  go_ret
  exact ⟨rfl, by repeat first | (with_reducible exact Below.refl _ _) | (with_reducible refine below_on ?_ _) | (with_reducible refine below_alloc ?_ _) | (with_reducible refine below_set ?_ (by simp; try omega) _) | (with_reducible refine below_drew ?_)⟩

set_option maxRecDepth 100000 in
set_option maxHeartbeats 8000000 in
theorem side_lt_far (k c x y : Int) (w : World) (hT : Tab w) (h1 : 1 ≤ k) (h2 : k ≤ 4) (h3 : -4096 ≤ c) (h4 : c ≤ 4096) (h5 : -65536 ≤ x) (h6 : x ≤ 65536) (h7 : -65536 ≤ y) (h8 : y ≤ 65536) (q : mirX k (2 * c) x y < -65536 ∨ 65536 < mirX k (2 * c) x y ∨ mirY k (2 * c) x y < -65536 ∨ 65536 < mirY k (2 * c) x y) (d : val k x y - 2 * c < 0) : Calls Tryd.prog 19 #[ln k c, pt x y] w fun e w' => e = .returned (.bool true) ∧ Below w.heap.size w w' := by
  have hT' : ∀ W, Below w.heap.size w W → Tab W := fun W hb => tab_below hT hb
  have D : Hid (val k x y - 2 * c < 0) := d
  have Q : Hid (mirX k (2 * c) x y < -65536 ∨ 65536 < mirX k (2 * c) x y ∨ mirY k (2 * c) x y < -65536 ∨ 65536 < mirY k (2 * c) x y) := q
  clear q
  go_enter Tryd.func19, Tryd.ntmps19
  go_wp2_with (first | (go_at_call 13; with_reducible refine (valid_yes k c _ h1 h2 h3 h4).mono ?_; rintro e wx ⟨rfl, hx⟩; obtain ⟨ux, rfl⟩ := after hx; clear hx) | (go_at_call 39; with_reducible refine (inside_yes x y _ h5 h6 h7 h8).mono ?_; rintro e wx ⟨rfl, hx⟩; obtain ⟨ux, rfl⟩ := after hx; clear hx) | (go_at_call 42; with_reducible refine (check_ok k c _ h1 h2 h3 h4).mono ?_; rintro e wx ⟨rfl, hx⟩; obtain ⟨ux, rfl⟩ := after hx; clear hx) | (go_at_call 54; with_reducible refine (pcheck_ok x y _ h5 h6 h7 h8).mono ?_; rintro e wx ⟨rfl, hx⟩; obtain ⟨ux, rfl⟩ := after hx; clear hx) | (go_at_call 53; with_reducible refine (far_any k c x y _ h1 h2 (by omega) (by omega) (by omega) (by omega) h3 h4).mono ?_; rintro e wx ⟨rfl, hx⟩; obtain ⟨ux, rfl⟩ := after hx; clear hx) | (go_at_call 48; with_reducible refine (side_lt k c x y _ h1 h2 h3 h4 h5 h6 h7 h8 D.out).mono ?_; rintro e wx ⟨rfl, hx⟩; obtain ⟨ux, rfl⟩ := after hx; clear hx) | (go_at_call 49; with_reducible refine (reflect_far k c x y _ h1 h2 h3 h4 h5 h6 h7 h8 Q.out).mono ?_; rintro e wx ⟨rfl, hx⟩; obtain ⟨ux, rfl⟩ := after hx; clear hx) | (go_at_call 14; with_reducible refine (lives_ok _ (hT' _ (by repeat first | (with_reducible exact Below.refl _ _) | (with_reducible refine below_on ?_ _) | (with_reducible refine below_alloc ?_ _) | (with_reducible refine below_set ?_ (by simp; try omega) _) | (with_reducible refine below_drew ?_)))).mono ?_; rintro e wx ⟨rfl, hx⟩; obtain ⟨ux, rfl⟩ := after hx; clear hx) | fail)
  go_ret
  exact ⟨rfl, by repeat first | (with_reducible exact Below.refl _ _) | (with_reducible refine below_on ?_ _) | (with_reducible refine below_alloc ?_ _) | (with_reducible refine below_set ?_ (by simp; try omega) _) | (with_reducible refine below_drew ?_)⟩

set_option maxRecDepth 100000 in
set_option maxHeartbeats 8000000 in
theorem side_eq_in (k c x y : Int) (w : World) (hT : Tab w) (h1 : 1 ≤ k) (h2 : k ≤ 4) (h3 : -4096 ≤ c) (h4 : c ≤ 4096) (h5 : -65536 ≤ x) (h6 : x ≤ 65536) (h7 : -65536 ≤ y) (h8 : y ≤ 65536) (q1 : -65536 ≤ mirX k (2 * c) x y) (q2 : mirX k (2 * c) x y ≤ 65536) (q3 : -65536 ≤ mirY k (2 * c) x y) (q4 : mirY k (2 * c) x y ≤ 65536) (d : val k x y - 2 * c = 0) : Calls Tryd.prog 19 #[ln k c, pt x y] w fun e w' => e = .returned (.bool true) ∧ Below w.heap.size w w' := by
  have hT' : ∀ W, Below w.heap.size w W → Tab W := fun W hb => tab_below hT hb
  have D : Hid (val k x y - 2 * c = 0) := d
  clear d
  have d1 : ¬ (val k x y - 2 * c < 0) := by have := D.out; omega
  have d2 : ¬ (0 < val k x y - 2 * c) := by have := D.out; omega
  go_enter Tryd.func19, Tryd.ntmps19
  go_wp2_with (first | (go_at_call 13; with_reducible refine (valid_yes k c _ h1 h2 h3 h4).mono ?_; rintro e wx ⟨rfl, hx⟩; obtain ⟨ux, rfl⟩ := after hx; clear hx) | (go_at_call 39; with_reducible refine (inside_yes x y _ h5 h6 h7 h8).mono ?_; rintro e wx ⟨rfl, hx⟩; obtain ⟨ux, rfl⟩ := after hx; clear hx) | (go_at_call 42; with_reducible refine (check_ok k c _ h1 h2 h3 h4).mono ?_; rintro e wx ⟨rfl, hx⟩; obtain ⟨ux, rfl⟩ := after hx; clear hx) | (go_at_call 54; with_reducible refine (pcheck_ok x y _ h5 h6 h7 h8).mono ?_; rintro e wx ⟨rfl, hx⟩; obtain ⟨ux, rfl⟩ := after hx; clear hx) | (go_at_call 53; with_reducible refine (far_any k c x y _ h1 h2 (by omega) (by omega) (by omega) (by omega) h3 h4).mono ?_; rintro e wx ⟨rfl, hx⟩; obtain ⟨ux, rfl⟩ := after hx; clear hx) | (go_at_call 48; with_reducible refine (side_eq k c x y _ h1 h2 h3 h4 h5 h6 h7 h8 D.out).mono ?_; rintro e wx ⟨rfl, hx⟩; obtain ⟨ux, rfl⟩ := after hx; clear hx) | (go_at_call 49; with_reducible refine (reflect_ok k c x y _ h1 h2 h3 h4 h5 h6 h7 h8 q1 q2 q3 q4).mono ?_; rintro e wx ⟨rfl, hx⟩; obtain ⟨ux, rfl⟩ := after hx; clear hx) | (go_at_call 48; with_reducible refine (side_eq k c _ _ _ h1 h2 h3 h4 q1 q2 q3 q4 (by have h := D.out; have h9 := mir_val k c x y h1 h2; omega)).mono ?_; rintro e wx ⟨rfl, hx⟩; obtain ⟨ux, rfl⟩ := after hx; clear hx) | (go_at_call 14; with_reducible refine (lives_ok _ (hT' _ (by repeat first | (with_reducible exact Below.refl _ _) | (with_reducible refine below_on ?_ _) | (with_reducible refine below_alloc ?_ _) | (with_reducible refine below_set ?_ (by simp; try omega) _) | (with_reducible refine below_drew ?_)))).mono ?_; rintro e wx ⟨rfl, hx⟩; obtain ⟨ux, rfl⟩ := after hx; clear hx) | fail)
  go_ret
  exact ⟨rfl, by repeat first | (with_reducible exact Below.refl _ _) | (with_reducible refine below_on ?_ _) | (with_reducible refine below_alloc ?_ _) | (with_reducible refine below_set ?_ (by simp; try omega) _) | (with_reducible refine below_drew ?_)⟩

set_option maxRecDepth 100000 in
set_option maxHeartbeats 8000000 in
theorem side_eq_far (k c x y : Int) (w : World) (hT : Tab w) (h1 : 1 ≤ k) (h2 : k ≤ 4) (h3 : -4096 ≤ c) (h4 : c ≤ 4096) (h5 : -65536 ≤ x) (h6 : x ≤ 65536) (h7 : -65536 ≤ y) (h8 : y ≤ 65536) (q : mirX k (2 * c) x y < -65536 ∨ 65536 < mirX k (2 * c) x y ∨ mirY k (2 * c) x y < -65536 ∨ 65536 < mirY k (2 * c) x y) (d : val k x y - 2 * c = 0) : Calls Tryd.prog 19 #[ln k c, pt x y] w fun e w' => e = .returned (.bool true) ∧ Below w.heap.size w w' := by
  have hT' : ∀ W, Below w.heap.size w W → Tab W := fun W hb => tab_below hT hb
  have D : Hid (val k x y - 2 * c = 0) := d
  clear d
  have d1 : ¬ (val k x y - 2 * c < 0) := by have := D.out; omega
  have d2 : ¬ (0 < val k x y - 2 * c) := by have := D.out; omega
  have Q : Hid (mirX k (2 * c) x y < -65536 ∨ 65536 < mirX k (2 * c) x y ∨ mirY k (2 * c) x y < -65536 ∨ 65536 < mirY k (2 * c) x y) := q
  clear q
  go_enter Tryd.func19, Tryd.ntmps19
  go_wp2_with (first | (go_at_call 13; with_reducible refine (valid_yes k c _ h1 h2 h3 h4).mono ?_; rintro e wx ⟨rfl, hx⟩; obtain ⟨ux, rfl⟩ := after hx; clear hx) | (go_at_call 39; with_reducible refine (inside_yes x y _ h5 h6 h7 h8).mono ?_; rintro e wx ⟨rfl, hx⟩; obtain ⟨ux, rfl⟩ := after hx; clear hx) | (go_at_call 42; with_reducible refine (check_ok k c _ h1 h2 h3 h4).mono ?_; rintro e wx ⟨rfl, hx⟩; obtain ⟨ux, rfl⟩ := after hx; clear hx) | (go_at_call 54; with_reducible refine (pcheck_ok x y _ h5 h6 h7 h8).mono ?_; rintro e wx ⟨rfl, hx⟩; obtain ⟨ux, rfl⟩ := after hx; clear hx) | (go_at_call 53; with_reducible refine (far_any k c x y _ h1 h2 (by omega) (by omega) (by omega) (by omega) h3 h4).mono ?_; rintro e wx ⟨rfl, hx⟩; obtain ⟨ux, rfl⟩ := after hx; clear hx) | (go_at_call 48; with_reducible refine (side_eq k c x y _ h1 h2 h3 h4 h5 h6 h7 h8 D.out).mono ?_; rintro e wx ⟨rfl, hx⟩; obtain ⟨ux, rfl⟩ := after hx; clear hx) | (go_at_call 49; with_reducible refine (reflect_far k c x y _ h1 h2 h3 h4 h5 h6 h7 h8 Q.out).mono ?_; rintro e wx ⟨rfl, hx⟩; obtain ⟨ux, rfl⟩ := after hx; clear hx) | (go_at_call 14; with_reducible refine (lives_ok _ (hT' _ (by repeat first | (with_reducible exact Below.refl _ _) | (with_reducible refine below_on ?_ _) | (with_reducible refine below_alloc ?_ _) | (with_reducible refine below_set ?_ (by simp; try omega) _) | (with_reducible refine below_drew ?_)))).mono ?_; rintro e wx ⟨rfl, hx⟩; obtain ⟨ux, rfl⟩ := after hx; clear hx) | fail)
  go_ret
  exact ⟨rfl, by repeat first | (with_reducible exact Below.refl _ _) | (with_reducible refine below_on ?_ _) | (with_reducible refine below_alloc ?_ _) | (with_reducible refine below_set ?_ (by simp; try omega) _) | (with_reducible refine below_drew ?_)⟩

set_option maxRecDepth 100000 in
set_option maxHeartbeats 8000000 in
theorem side_gt_in (k c x y : Int) (w : World) (hT : Tab w) (h1 : 1 ≤ k) (h2 : k ≤ 4) (h3 : -4096 ≤ c) (h4 : c ≤ 4096) (h5 : -65536 ≤ x) (h6 : x ≤ 65536) (h7 : -65536 ≤ y) (h8 : y ≤ 65536) (q1 : -65536 ≤ mirX k (2 * c) x y) (q2 : mirX k (2 * c) x y ≤ 65536) (q3 : -65536 ≤ mirY k (2 * c) x y) (q4 : mirY k (2 * c) x y ≤ 65536) (d : 0 < val k x y - 2 * c) : Calls Tryd.prog 19 #[ln k c, pt x y] w fun e w' => e = .returned (.bool true) ∧ Below w.heap.size w w' := by
  have hT' : ∀ W, Below w.heap.size w W → Tab W := fun W hb => tab_below hT hb
  have D : Hid (0 < val k x y - 2 * c) := d
  have d1 : ¬ (val k x y - 2 * c < 0) := by omega
  go_enter Tryd.func19, Tryd.ntmps19
  go_wp2_with (first | (go_at_call 13; with_reducible refine (valid_yes k c _ h1 h2 h3 h4).mono ?_; rintro e wx ⟨rfl, hx⟩; obtain ⟨ux, rfl⟩ := after hx; clear hx) | (go_at_call 39; with_reducible refine (inside_yes x y _ h5 h6 h7 h8).mono ?_; rintro e wx ⟨rfl, hx⟩; obtain ⟨ux, rfl⟩ := after hx; clear hx) | (go_at_call 42; with_reducible refine (check_ok k c _ h1 h2 h3 h4).mono ?_; rintro e wx ⟨rfl, hx⟩; obtain ⟨ux, rfl⟩ := after hx; clear hx) | (go_at_call 54; with_reducible refine (pcheck_ok x y _ h5 h6 h7 h8).mono ?_; rintro e wx ⟨rfl, hx⟩; obtain ⟨ux, rfl⟩ := after hx; clear hx) | (go_at_call 53; with_reducible refine (far_any k c x y _ h1 h2 (by omega) (by omega) (by omega) (by omega) h3 h4).mono ?_; rintro e wx ⟨rfl, hx⟩; obtain ⟨ux, rfl⟩ := after hx; clear hx) | (go_at_call 48; with_reducible refine (side_gt k c x y _ h1 h2 h3 h4 h5 h6 h7 h8 D.out).mono ?_; rintro e wx ⟨rfl, hx⟩; obtain ⟨ux, rfl⟩ := after hx; clear hx) | (go_at_call 49; with_reducible refine (reflect_ok k c x y _ h1 h2 h3 h4 h5 h6 h7 h8 q1 q2 q3 q4).mono ?_; rintro e wx ⟨rfl, hx⟩; obtain ⟨ux, rfl⟩ := after hx; clear hx) | (go_at_call 48; with_reducible refine (side_lt k c _ _ _ h1 h2 h3 h4 q1 q2 q3 q4 (by have h := D.out; have h9 := mir_val k c x y h1 h2; omega)).mono ?_; rintro e wx ⟨rfl, hx⟩; obtain ⟨ux, rfl⟩ := after hx; clear hx) | (go_at_call 14; with_reducible refine (lives_ok _ (hT' _ (by repeat first | (with_reducible exact Below.refl _ _) | (with_reducible refine below_on ?_ _) | (with_reducible refine below_alloc ?_ _) | (with_reducible refine below_set ?_ (by simp; try omega) _) | (with_reducible refine below_drew ?_)))).mono ?_; rintro e wx ⟨rfl, hx⟩; obtain ⟨ux, rfl⟩ := after hx; clear hx) | fail)
  go_ret
  exact ⟨rfl, by repeat first | (with_reducible exact Below.refl _ _) | (with_reducible refine below_on ?_ _) | (with_reducible refine below_alloc ?_ _) | (with_reducible refine below_set ?_ (by simp; try omega) _) | (with_reducible refine below_drew ?_)⟩

set_option maxRecDepth 100000 in
set_option maxHeartbeats 8000000 in
theorem side_gt_far (k c x y : Int) (w : World) (hT : Tab w) (h1 : 1 ≤ k) (h2 : k ≤ 4) (h3 : -4096 ≤ c) (h4 : c ≤ 4096) (h5 : -65536 ≤ x) (h6 : x ≤ 65536) (h7 : -65536 ≤ y) (h8 : y ≤ 65536) (q : mirX k (2 * c) x y < -65536 ∨ 65536 < mirX k (2 * c) x y ∨ mirY k (2 * c) x y < -65536 ∨ 65536 < mirY k (2 * c) x y) (d : 0 < val k x y - 2 * c) : Calls Tryd.prog 19 #[ln k c, pt x y] w fun e w' => e = .returned (.bool true) ∧ Below w.heap.size w w' := by
  have hT' : ∀ W, Below w.heap.size w W → Tab W := fun W hb => tab_below hT hb
  have D : Hid (0 < val k x y - 2 * c) := d
  have d1 : ¬ (val k x y - 2 * c < 0) := by omega
  have Q : Hid (mirX k (2 * c) x y < -65536 ∨ 65536 < mirX k (2 * c) x y ∨ mirY k (2 * c) x y < -65536 ∨ 65536 < mirY k (2 * c) x y) := q
  clear q
  go_enter Tryd.func19, Tryd.ntmps19
  go_wp2_with (first | (go_at_call 13; with_reducible refine (valid_yes k c _ h1 h2 h3 h4).mono ?_; rintro e wx ⟨rfl, hx⟩; obtain ⟨ux, rfl⟩ := after hx; clear hx) | (go_at_call 39; with_reducible refine (inside_yes x y _ h5 h6 h7 h8).mono ?_; rintro e wx ⟨rfl, hx⟩; obtain ⟨ux, rfl⟩ := after hx; clear hx) | (go_at_call 42; with_reducible refine (check_ok k c _ h1 h2 h3 h4).mono ?_; rintro e wx ⟨rfl, hx⟩; obtain ⟨ux, rfl⟩ := after hx; clear hx) | (go_at_call 54; with_reducible refine (pcheck_ok x y _ h5 h6 h7 h8).mono ?_; rintro e wx ⟨rfl, hx⟩; obtain ⟨ux, rfl⟩ := after hx; clear hx) | (go_at_call 53; with_reducible refine (far_any k c x y _ h1 h2 (by omega) (by omega) (by omega) (by omega) h3 h4).mono ?_; rintro e wx ⟨rfl, hx⟩; obtain ⟨ux, rfl⟩ := after hx; clear hx) | (go_at_call 48; with_reducible refine (side_gt k c x y _ h1 h2 h3 h4 h5 h6 h7 h8 D.out).mono ?_; rintro e wx ⟨rfl, hx⟩; obtain ⟨ux, rfl⟩ := after hx; clear hx) | (go_at_call 49; with_reducible refine (reflect_far k c x y _ h1 h2 h3 h4 h5 h6 h7 h8 Q.out).mono ?_; rintro e wx ⟨rfl, hx⟩; obtain ⟨ux, rfl⟩ := after hx; clear hx) | (go_at_call 14; with_reducible refine (lives_ok _ (hT' _ (by repeat first | (with_reducible exact Below.refl _ _) | (with_reducible refine below_on ?_ _) | (with_reducible refine below_alloc ?_ _) | (with_reducible refine below_set ?_ (by simp; try omega) _) | (with_reducible refine below_drew ?_)))).mono ?_; rintro e wx ⟨rfl, hx⟩; obtain ⟨ux, rfl⟩ := after hx; clear hx) | fail)
  go_ret
  exact ⟨rfl, by repeat first | (with_reducible exact Below.refl _ _) | (with_reducible refine below_on ?_ _) | (with_reducible refine below_alloc ?_ _) | (with_reducible refine below_set ?_ (by simp; try omega) _) | (with_reducible refine below_drew ?_)⟩

theorem side_law (k c x y : Int) (w : World) (hT : Tab w) : Calls Tryd.prog 19 #[ln k c, pt x y] w fun e w' => e = .returned (.bool true) ∧ Below w.heap.size w w' := by
  by_cases a : 1 ≤ k ∧ k ≤ 4 ∧ -4096 ≤ c ∧ c ≤ 4096
  · by_cases b : -65536 ≤ x ∧ x ≤ 65536 ∧ -65536 ≤ y ∧ y ≤ 65536
    · by_cases q : -65536 ≤ mirX k (2 * c) x y ∧ mirX k (2 * c) x y ≤ 65536 ∧ -65536 ≤ mirY k (2 * c) x y ∧ mirY k (2 * c) x y ≤ 65536
      · rcases Int.lt_trichotomy (val k x y - 2 * c) 0 with d | d | d
        · exact side_lt_in k c x y w hT a.1 a.2.1 a.2.2.1 a.2.2.2 b.1 b.2.1 b.2.2.1 b.2.2.2 q.1 q.2.1 q.2.2.1 q.2.2.2 d
        · exact side_eq_in k c x y w hT a.1 a.2.1 a.2.2.1 a.2.2.2 b.1 b.2.1 b.2.2.1 b.2.2.2 q.1 q.2.1 q.2.2.1 q.2.2.2 d
        · exact side_gt_in k c x y w hT a.1 a.2.1 a.2.2.1 a.2.2.2 b.1 b.2.1 b.2.2.1 b.2.2.2 q.1 q.2.1 q.2.2.1 q.2.2.2 d
      · rcases Int.lt_trichotomy (val k x y - 2 * c) 0 with d | d | d
        · exact side_lt_far k c x y w hT a.1 a.2.1 a.2.2.1 a.2.2.2 b.1 b.2.1 b.2.2.1 b.2.2.2 (by omega) d
        · exact side_eq_far k c x y w hT a.1 a.2.1 a.2.2.1 a.2.2.2 b.1 b.2.1 b.2.2.1 b.2.2.2 (by omega) d
        · exact side_gt_far k c x y w hT a.1 a.2.1 a.2.2.1 a.2.2.2 b.1 b.2.1 b.2.2.1 b.2.2.2 (by omega) d
    · exact side_case3 k c x y w hT a.1 a.2.1 a.2.2.1 a.2.2.2 (by omega)
  · by_cases b : -65536 ≤ x ∧ x ≤ 65536 ∧ -65536 ≤ y ∧ y ≤ 65536
    · exact side_case1 k c x y w hT (by omega) b.1 b.2.1 b.2.2.1 b.2.2.2
    · exact side_case2 k c x y w hT (by omega) (by omega)

end Go.Proofs.YtbcmfenekpllhaaDoor
