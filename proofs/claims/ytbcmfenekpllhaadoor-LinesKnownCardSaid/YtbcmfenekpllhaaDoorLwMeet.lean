/-
  Says: LinesMeet answers true at every two lines, where the librarys table stands as it was laid.
-/
import Derived.Test.YtbcmfenekpllhaaDoorLaw0
import Derived.Deep.RegionHeld3
set_option linter.unusedVariables false
set_option linter.unusedSimpArgs false
namespace Go.Proofs.YtbcmfenekpllhaaDoor
open Go Go.RowKit

attribute [local go_sem] World.cell?_alloc_some

theorem meet_uniq (k c l d x y x2 y2 : Int) (h1 : 1 ≤ k) (h2 : k ≤ 4) (b1 : 1 ≤ l) (b2 : l ≤ 4) (hkl : k ≠ l) (e1 : val k x y = 2 * c) (e2 : val l x y = 2 * d) (f1 : val l x2 y2 = 2 * d) (f2 : val k x2 y2 = 2 * c) : x = x2 ∧ y = y2 := by
  obtain rfl | rfl | rfl | rfl : k = 1 ∨ k = 2 ∨ k = 3 ∨ k = 4 := by omega
  all_goals obtain rfl | rfl | rfl | rfl : l = 1 ∨ l = 2 ∨ l = 3 ∨ l = 4 := by omega
  all_goals first | exact absurd rfl hkl | (simp only [val1, val2, val3, val4] at *; omega)
theorem meet_even (k c l d x y : Int) (h1 : 1 ≤ k) (h2 : k ≤ 4) (b1 : 1 ≤ l) (b2 : l ≤ 4) (hkl : k ≠ l) (e1 : val k x y = 2 * c) (e2 : val l x y = 2 * d) : (x + y).tmod 2 = 0 := by
  obtain ⟨m, hm⟩ : ∃ m, x + y = 2 * m := by
    refine ⟨(x + y) / 2, ?_⟩
    obtain rfl | rfl | rfl | rfl : k = 1 ∨ k = 2 ∨ k = 3 ∨ k = 4 := by omega
    all_goals obtain rfl | rfl | rfl | rfl : l = 1 ∨ l = 2 ∨ l = 3 ∨ l = 4 := by omega
    all_goals first | exact absurd rfl hkl | (simp only [val1, val2, val3, val4] at *; omega)
  rw [hm]; exact Int.mul_tmod_right _ _

theorem meet_anyE (k c l d : Int) (w : World) (a1 : 1 ≤ k) (a2 : k ≤ 4) (b1 : 1 ≤ l) (b2 : l ≤ 4) (hkl : k ≠ l) (h1 : -4096 ≤ c) (h2 : c ≤ 4096) (h3 : -4096 ≤ d) (h4 : d ≤ 4096) : Calls Tryd.prog 50 #[ln k c, ln l d] w fun e w' => ∃ x y : Int, e = .returned (.tuple #[pt x y, .int .i64 0]) ∧ val k x y = 2 * c ∧ val l x y = 2 * d ∧ -16384 ≤ x ∧ x ≤ 16384 ∧ -16384 ≤ y ∧ y ≤ 16384 ∧ Below w.heap.size w w' := meet_any k c l d w a1 a2 b1 b2 hkl h1 h2 h3 h4

set_option maxRecDepth 100000 in
set_option maxHeartbeats 8000000 in
theorem meet_case1 (k c l d : Int) (w : World) (hT : Tab w) (h : k < 1 ∨ 4 < k ∨ c < -4096 ∨ 4096 < c) : Calls Tryd.prog 22 #[ln k c, ln l d] w fun e w' => e = .returned (.bool true) ∧ Below w.heap.size w w' := by
  have hT' : ∀ W, Below w.heap.size w W → Tab W := fun W hb => tab_below hT hb
  have H : Hid (k < 1 ∨ 4 < k ∨ c < -4096 ∨ 4096 < c) := h
  clear h
  go_enter Tryd.func22, Tryd.ntmps22
  go_wp2_with (first | (go_at_call 50; with_reducible refine (meet_bad1 k c l d _ H.out).mono ?_; rintro e wx ⟨rfl, hx⟩; obtain ⟨ux, rfl⟩ := after hx; clear hx) | (go_at_call 13; with_reducible refine (valid_no k c _ H.out).mono ?_; rintro e wx ⟨rfl, hx⟩; obtain ⟨ux, rfl⟩ := after hx; clear hx) | (go_at_call 14; with_reducible refine (lives_ok _ (hT' _ (by repeat first | (with_reducible exact Below.refl _ _) | (with_reducible refine below_on ?_ _) | (with_reducible refine below_alloc ?_ _) | (with_reducible refine below_set ?_ (by simp; try omega) _) | (with_reducible refine below_drew ?_)))).mono ?_; rintro e wx ⟨rfl, hx⟩; obtain ⟨ux, rfl⟩ := after hx; clear hx) | fail)
  go_ret
  exact ⟨rfl, by repeat first | (with_reducible exact Below.refl _ _) | (with_reducible refine below_on ?_ _) | (with_reducible refine below_alloc ?_ _) | (with_reducible refine below_set ?_ (by simp; try omega) _) | (with_reducible refine below_drew ?_)⟩

set_option maxRecDepth 100000 in
set_option maxHeartbeats 8000000 in
theorem meet_case2 (k c l d : Int) (w : World) (hT : Tab w) (h1 : 1 ≤ k) (h2 : k ≤ 4) (h3 : -4096 ≤ c) (h4 : c ≤ 4096) (h9 : l < 1 ∨ 4 < l ∨ d < -4096 ∨ 4096 < d) : Calls Tryd.prog 22 #[ln k c, ln l d] w fun e w' => e = .returned (.bool true) ∧ Below w.heap.size w w' := by
  have hT' : ∀ W, Below w.heap.size w W → Tab W := fun W hb => tab_below hT hb
  have G : Hid (l < 1 ∨ 4 < l ∨ d < -4096 ∨ 4096 < d) := h9
  clear h9
  go_enter Tryd.func22, Tryd.ntmps22
  go_wp2_with (first | (go_at_call 50; with_reducible refine (meet_bad2 k c l d _ h1 h2 h3 h4 G.out).mono ?_; rintro e wx ⟨rfl, hx⟩; obtain ⟨ux, rfl⟩ := after hx; clear hx) | (go_at_call 13; with_reducible refine (valid_yes k c _ h1 h2 h3 h4).mono ?_; rintro e wx ⟨rfl, hx⟩; obtain ⟨ux, rfl⟩ := after hx; clear hx) | (go_at_call 13; with_reducible refine (valid_no l d _ G.out).mono ?_; rintro e wx ⟨rfl, hx⟩; obtain ⟨ux, rfl⟩ := after hx; clear hx) | (go_at_call 14; with_reducible refine (lives_ok _ (hT' _ (by repeat first | (with_reducible exact Below.refl _ _) | (with_reducible refine below_on ?_ _) | (with_reducible refine below_alloc ?_ _) | (with_reducible refine below_set ?_ (by simp; try omega) _) | (with_reducible refine below_drew ?_)))).mono ?_; rintro e wx ⟨rfl, hx⟩; obtain ⟨ux, rfl⟩ := after hx; clear hx) | fail)
  go_ret
  exact ⟨rfl, by repeat first | (with_reducible exact Below.refl _ _) | (with_reducible refine below_on ?_ _) | (with_reducible refine below_alloc ?_ _) | (with_reducible refine below_set ?_ (by simp; try omega) _) | (with_reducible refine below_drew ?_)⟩

set_option maxRecDepth 100000 in
set_option maxHeartbeats 8000000 in
theorem meet_case3 (k c d : Int) (w : World) (hT : Tab w) (h1 : 1 ≤ k) (h2 : k ≤ 4) (h3 : -4096 ≤ c) (h4 : c ≤ 4096) (b3 : -4096 ≤ d) (b4 : d ≤ 4096) : Calls Tryd.prog 22 #[ln k c, ln k d] w fun e w' => e = .returned (.bool true) ∧ Below w.heap.size w w' := by
  have hT' : ∀ W, Below w.heap.size w W → Tab W := fun W hb => tab_below hT hb
  go_enter Tryd.func22, Tryd.ntmps22
  go_wp2_with (first | (go_at_call 50; with_reducible refine (meet_same k c d _ h1 h2 h3 h4 b3 b4).mono ?_; rintro e wx ⟨rfl, hx⟩; obtain ⟨ux, rfl⟩ := after hx; clear hx) | (go_at_call 13; with_reducible refine (valid_yes k c _ h1 h2 h3 h4).mono ?_; rintro e wx ⟨rfl, hx⟩; obtain ⟨ux, rfl⟩ := after hx; clear hx) | (go_at_call 13; with_reducible refine (valid_yes k d _ h1 h2 b3 b4).mono ?_; rintro e wx ⟨rfl, hx⟩; obtain ⟨ux, rfl⟩ := after hx; clear hx) | (go_at_call 14; with_reducible refine (lives_ok _ (hT' _ (by repeat first | (with_reducible exact Below.refl _ _) | (with_reducible refine below_on ?_ _) | (with_reducible refine below_alloc ?_ _) | (with_reducible refine below_set ?_ (by simp; try omega) _) | (with_reducible refine below_drew ?_)))).mono ?_; rintro e wx ⟨rfl, hx⟩; obtain ⟨ux, rfl⟩ := after hx; clear hx) | fail)
  go_ret
  exact ⟨rfl, by repeat first | (with_reducible exact Below.refl _ _) | (with_reducible refine below_on ?_ _) | (with_reducible refine below_alloc ?_ _) | (with_reducible refine below_set ?_ (by simp; try omega) _) | (with_reducible refine below_drew ?_)⟩

theorem far0_any (k c x y : Int) (w : World) (a1 : 1 ≤ k) (a2 : k ≤ 4) (h1 : -16384 ≤ x) (h2 : x ≤ 16384) (h3 : -16384 ≤ y) (h4 : y ≤ 16384) (h5 : -4096 ≤ c) (h6 : c ≤ 4096) (he : val k x y = 2 * c) : Calls Tryd.prog 53 #[ln k c, pt x y] w fun e w' => e = .returned (.int .i64 0) ∧ Below w.heap.size w w' := by
  have := far_any k c x y w a1 a2 (by omega) (by omega) (by omega) (by omega) h5 h6
  rwa [show val k x y - 2 * c = 0 by omega] at this

set_option maxRecDepth 100000 in
set_option maxHeartbeats 8000000 in
theorem meet_case4 (k c l d : Int) (w : World) (hT : Tab w) (h1 : 1 ≤ k) (h2 : k ≤ 4) (h3 : -4096 ≤ c) (h4 : c ≤ 4096) (b1 : 1 ≤ l) (b2 : l ≤ 4) (b3 : -4096 ≤ d) (b4 : d ≤ 4096) (hkl : k ≠ l) : Calls Tryd.prog 22 #[ln k c, ln l d] w fun e w' => e = .returned (.bool true) ∧ Below w.heap.size w w' := by
  have hT' : ∀ W, Below w.heap.size w W → Tab W := fun W hb => tab_below hT hb
  have HK : Hid (k ≠ l) := hkl
  have hkb : (k == l) = false := by simpa using hkl
  clear hkl
  go_enter Tryd.func22, Tryd.ntmps22
  go_wp2_with (first | (go_at_call 50; (with_reducible refine (meet_anyE k c l d _ h1 h2 b1 b2 HK.out h3 h4 b3 b4).mono ?_); rintro e wx ⟨x, y, rfl, e1, e2, r1, r2, r3, r4, hx⟩; obtain ⟨ux, rfl⟩ := after hx; clear hx; have E1 : Hid (val k x y = 2 * c) := e1; have E2 : Hid (val l x y = 2 * d) := e2; clear e1 e2) | (go_at_call 50; (with_reducible refine (meet_anyE l d k c _ b1 b2 h1 h2 (Ne.symm HK.out) b3 b4 h3 h4).mono ?_); rintro e wx ⟨x2, y2, rfl, e1, e2, s1, s2, s3, s4, hx⟩; obtain ⟨ux, rfl⟩ := after hx; clear hx s1 s2 s3 s4; obtain ⟨rfl, rfl⟩ : x2 = x ∧ y2 = y := (by have := meet_uniq k c l d x y x2 y2 h1 h2 b1 b2 HK.out E1.out E2.out e1 e2; exact ⟨this.1.symm, this.2.symm⟩); clear e1 e2) | (go_at_call 13; with_reducible refine (valid_yes k c _ h1 h2 h3 h4).mono ?_; rintro e wx ⟨rfl, hx⟩; obtain ⟨ux, rfl⟩ := after hx; clear hx) | (go_at_call 13; with_reducible refine (valid_yes l d _ b1 b2 b3 b4).mono ?_; rintro e wx ⟨rfl, hx⟩; obtain ⟨ux, rfl⟩ := after hx; clear hx) | (go_at_call 53; (with_reducible refine (far0_any k c _ _ _ h1 h2 (by assumption) (by assumption) (by assumption) (by assumption) h3 h4 E1.out).mono ?_); rintro e wx ⟨rfl, hx⟩; obtain ⟨ux, rfl⟩ := after hx; clear hx) | (go_at_call 53; (with_reducible refine (far0_any l d _ _ _ b1 b2 (by assumption) (by assumption) (by assumption) (by assumption) b3 b4 E2.out).mono ?_); rintro e wx ⟨rfl, hx⟩; obtain ⟨ux, rfl⟩ := after hx; clear hx; have z3 := meet_even k c l d _ _ h1 h2 b1 b2 HK.out E1.out E2.out) | (go_at_call 14; with_reducible refine (lives_ok _ (hT' _ (by repeat first | (with_reducible exact Below.refl _ _) | (with_reducible refine below_on ?_ _) | (with_reducible refine below_alloc ?_ _) | (with_reducible refine below_set ?_ (by simp; try omega) _) | (with_reducible refine below_drew ?_)))).mono ?_; rintro e wx ⟨rfl, hx⟩; obtain ⟨ux, rfl⟩ := after hx; clear hx) | fail)
  go_ret
  exact ⟨rfl, by repeat first | (with_reducible exact Below.refl _ _) | (with_reducible refine below_on ?_ _) | (with_reducible refine below_alloc ?_ _) | (with_reducible refine below_set ?_ (by simp; try omega) _) | (with_reducible refine below_drew ?_)⟩

theorem meet_law (k c l d : Int) (w : World) (hT : Tab w) : Calls Tryd.prog 22 #[ln k c, ln l d] w fun e w' => e = .returned (.bool true) ∧ Below w.heap.size w w' := by
  by_cases a : 1 ≤ k ∧ k ≤ 4 ∧ -4096 ≤ c ∧ c ≤ 4096
  · by_cases b : 1 ≤ l ∧ l ≤ 4 ∧ -4096 ≤ d ∧ d ≤ 4096
    · by_cases h : k = l
      · subst h
        exact meet_case3 k c d w hT a.1 a.2.1 a.2.2.1 a.2.2.2 b.2.2.1 b.2.2.2
      · exact meet_case4 k c l d w hT a.1 a.2.1 a.2.2.1 a.2.2.2 b.1 b.2.1 b.2.2.1 b.2.2.2 h
    · exact meet_case2 k c l d w hT a.1 a.2.1 a.2.2.1 a.2.2.2 (by omega)
  · exact meet_case1 k c l d w hT (by omega)

end Go.Proofs.YtbcmfenekpllhaaDoor
