/-
  Says: LinesReflect answers true at every line and every point, where the librarys table stands as it was laid.
-/
import Derived.Test.YtbcmfenekpllhaaDoorLaw0
import Derived.Deep.RegionHeld3
set_option linter.unusedVariables false
set_option linter.unusedSimpArgs false
namespace Go.Proofs.YtbcmfenekpllhaaDoor
open Go Go.RowKit

attribute [local go_sem] World.cell?_alloc_some

theorem eqt {A B : Int} (h : A = B) : (A == B) = true := by simpa using h

set_option maxRecDepth 100000 in
set_option maxHeartbeats 8000000 in
theorem reflect_case1 (k c x y : Int) (w : World) (hT : Tab w) (h : k < 1 ∨ 4 < k ∨ c < -4096 ∨ 4096 < c) : Calls Tryd.prog 21 #[ln k c, pt x y] w fun e w' => e = .returned (.bool true) ∧ Below w.heap.size w w' := by
  have hT' : ∀ W, Below w.heap.size w W → Tab W := fun W hb => tab_below hT hb
  have H : Hid (k < 1 ∨ 4 < k ∨ c < -4096 ∨ 4096 < c) := h
  clear h
  go_enter Tryd.func21, Tryd.ntmps21
  go_wp2_with (first | (go_at_call 49; with_reducible refine (reflect_badl k c x y _ H.out).mono ?_; rintro e wx ⟨rfl, hx⟩; obtain ⟨ux, rfl⟩ := after hx; clear hx) | (go_at_call 13; with_reducible refine (valid_no k c _ H.out).mono ?_; rintro e wx ⟨rfl, hx⟩; obtain ⟨ux, rfl⟩ := after hx; clear hx) | (go_at_call 14; with_reducible refine (lives_ok _ (hT' _ (by repeat first | (with_reducible exact Below.refl _ _) | (with_reducible refine below_on ?_ _) | (with_reducible refine below_alloc ?_ _) | (with_reducible refine below_set ?_ (by simp; try omega) _) | (with_reducible refine below_drew ?_)))).mono ?_; rintro e wx ⟨rfl, hx⟩; obtain ⟨ux, rfl⟩ := after hx; clear hx) | fail)
  go_ret
  exact ⟨rfl, by repeat first | (with_reducible exact Below.refl _ _) | (with_reducible refine below_on ?_ _) | (with_reducible refine below_alloc ?_ _) | (with_reducible refine below_set ?_ (by simp; try omega) _) | (with_reducible refine below_drew ?_)⟩

set_option maxRecDepth 100000 in
set_option maxHeartbeats 8000000 in
theorem reflect_case2 (k c x y : Int) (w : World) (hT : Tab w) (h1 : 1 ≤ k) (h2 : k ≤ 4) (h3 : -4096 ≤ c) (h4 : c ≤ 4096) (h9 : x < -65536 ∨ 65536 < x ∨ y < -65536 ∨ 65536 < y) : Calls Tryd.prog 21 #[ln k c, pt x y] w fun e w' => e = .returned (.bool true) ∧ Below w.heap.size w w' := by
  have hT' : ∀ W, Below w.heap.size w W → Tab W := fun W hb => tab_below hT hb
  have G : Hid (x < -65536 ∨ 65536 < x ∨ y < -65536 ∨ 65536 < y) := h9
  clear h9
  go_enter Tryd.func21, Tryd.ntmps21
  go_wp2_with (first | (go_at_call 49; with_reducible refine (reflect_badp k c x y _ h1 h2 h3 h4 G.out).mono ?_; rintro e wx ⟨rfl, hx⟩; obtain ⟨ux, rfl⟩ := after hx; clear hx) | (go_at_call 13; with_reducible refine (valid_yes k c _ h1 h2 h3 h4).mono ?_; rintro e wx ⟨rfl, hx⟩; obtain ⟨ux, rfl⟩ := after hx; clear hx) | (go_at_call 39; with_reducible refine (inside_no x y _ G.out).mono ?_; rintro e wx ⟨rfl, hx⟩; obtain ⟨ux, rfl⟩ := after hx; clear hx) | (go_at_call 14; with_reducible refine (lives_ok _ (hT' _ (by repeat first | (with_reducible exact Below.refl _ _) | (with_reducible refine below_on ?_ _) | (with_reducible refine below_alloc ?_ _) | (with_reducible refine below_set ?_ (by simp; try omega) _) | (with_reducible refine below_drew ?_)))).mono ?_; rintro e wx ⟨rfl, hx⟩; obtain ⟨ux, rfl⟩ := after hx; clear hx) | fail)
  go_ret
  exact ⟨rfl, by repeat first | (with_reducible exact Below.refl _ _) | (with_reducible refine below_on ?_ _) | (with_reducible refine below_alloc ?_ _) | (with_reducible refine below_set ?_ (by simp; try omega) _) | (with_reducible refine below_drew ?_)⟩

set_option maxRecDepth 100000 in
set_option maxHeartbeats 8000000 in
theorem reflect_case3 (k c x y : Int) (w : World) (hT : Tab w) (h1 : 1 ≤ k) (h2 : k ≤ 4) (h3 : -4096 ≤ c) (h4 : c ≤ 4096) (h5 : -65536 ≤ x) (h6 : x ≤ 65536) (h7 : -65536 ≤ y) (h8 : y ≤ 65536) (q : mirX k (2 * c) x y < -65536 ∨ 65536 < mirX k (2 * c) x y ∨ mirY k (2 * c) x y < -65536 ∨ 65536 < mirY k (2 * c) x y) : Calls Tryd.prog 21 #[ln k c, pt x y] w fun e w' => e = .returned (.bool true) ∧ Below w.heap.size w w' := by
  have hT' : ∀ W, Below w.heap.size w W → Tab W := fun W hb => tab_below hT hb
  have Q : Hid (mirX k (2 * c) x y < -65536 ∨ 65536 < mirX k (2 * c) x y ∨ mirY k (2 * c) x y < -65536 ∨ 65536 < mirY k (2 * c) x y) := q
  clear q
  go_enter Tryd.func21, Tryd.ntmps21
  go_wp2_with (first | (go_at_call 49; with_reducible refine (reflect_far k c x y _ h1 h2 h3 h4 h5 h6 h7 h8 Q.out).mono ?_; rintro e wx ⟨rfl, hx⟩; obtain ⟨ux, rfl⟩ := after hx; clear hx) | (go_at_call 13; with_reducible refine (valid_yes k c _ h1 h2 h3 h4).mono ?_; rintro e wx ⟨rfl, hx⟩; obtain ⟨ux, rfl⟩ := after hx; clear hx) | (go_at_call 39; with_reducible refine (inside_yes x y _ h5 h6 h7 h8).mono ?_; rintro e wx ⟨rfl, hx⟩; obtain ⟨ux, rfl⟩ := after hx; clear hx) | (go_at_call 16; with_reducible refine (rreflect_any k c x y _ h1 h2 (by omega) (by omega) (by omega) (by omega) h3 h4).mono ?_; rintro e wx ⟨rfl, hx⟩; obtain ⟨ux, rfl⟩ := after hx; clear hx) | (go_at_call 39; with_reducible refine (inside_no _ _ _ Q.out).mono ?_; rintro e wx ⟨rfl, hx⟩; obtain ⟨ux, rfl⟩ := after hx; clear hx) | (go_at_call 14; with_reducible refine (lives_ok _ (hT' _ (by repeat first | (with_reducible exact Below.refl _ _) | (with_reducible refine below_on ?_ _) | (with_reducible refine below_alloc ?_ _) | (with_reducible refine below_set ?_ (by simp; try omega) _) | (with_reducible refine below_drew ?_)))).mono ?_; rintro e wx ⟨rfl, hx⟩; obtain ⟨ux, rfl⟩ := after hx; clear hx) | fail)
  go_ret
  exact ⟨rfl, by repeat first | (with_reducible exact Below.refl _ _) | (with_reducible refine below_on ?_ _) | (with_reducible refine below_alloc ?_ _) | (with_reducible refine below_set ?_ (by simp; try omega) _) | (with_reducible refine below_drew ?_)⟩

theorem back_1 (c x y : Int) (w : World) (h3 : -4096 ≤ c) (h4 : c ≤ 4096) (h5 : -65536 ≤ x) (h6 : x ≤ 65536) (h7 : -65536 ≤ y) (h8 : y ≤ 65536) (h9 : -65536 ≤ 2 * (2 * c) - x) (h10 : 2 * (2 * c) - x ≤ 65536) (h11 : -65536 ≤ y) (h12 : y ≤ 65536) : Calls Tryd.prog 49 #[ln 1 c, pt (2 * (2 * c) - x) (y)] w fun e w' => e = .returned (.tuple #[pt x y, .int .i64 0]) ∧ Below w.heap.size w w' := by
  have := reflect_ok1 c (2 * (2 * c) - x) (y) w h3 h4 h9 h10 h11 h12 (by omega) (by omega) (by omega) (by omega)
  rwa [show 2 * (2 * c) - (2 * (2 * c) - x) = x by omega, show (y) = y by omega] at this

theorem farq_1 (c x y : Int) (w : World) (h3 : -4096 ≤ c) (h4 : c ≤ 4096) (h5 : -65536 ≤ x) (h6 : x ≤ 65536) (h7 : -65536 ≤ y) (h8 : y ≤ 65536) (h9 : -65536 ≤ 2 * (2 * c) - x) (h10 : 2 * (2 * c) - x ≤ 65536) (h11 : -65536 ≤ y) (h12 : y ≤ 65536) : Calls Tryd.prog 53 #[ln 1 c, pt (2 * (2 * c) - x) (y)] w fun e w' => e = .returned (.int .i64 (-(x - 2 * c))) ∧ Below w.heap.size w w' := by
  have := far_1 c (2 * (2 * c) - x) (y) w (by omega) (by omega) (by omega) (by omega) h3 h4
  rwa [show (2 * (2 * c) - x) - 2 * c = -(x - 2 * c) by omega] at this

set_option maxRecDepth 100000 in
set_option maxHeartbeats 8000000 in
theorem reflect_in1 (c x y : Int) (w : World) (hT : Tab w) (h3 : -4096 ≤ c) (h4 : c ≤ 4096) (h5 : -65536 ≤ x) (h6 : x ≤ 65536) (h7 : -65536 ≤ y) (h8 : y ≤ 65536) (h9 : -65536 ≤ 2 * (2 * c) - x) (h10 : 2 * (2 * c) - x ≤ 65536) (h11 : -65536 ≤ y) (h12 : y ≤ 65536) : Calls Tryd.prog 21 #[ln 1 c, pt x y] w fun e w' => e = .returned (.bool true) ∧ Below w.heap.size w w' := by
  have hT' : ∀ W, Below w.heap.size w W → Tab W := fun W hb => tab_below hT hb
  go_enter Tryd.func21, Tryd.ntmps21
  go_wp2_with (first | (go_at_call 49; with_reducible refine (reflect_ok1 c x y _ h3 h4 h5 h6 h7 h8 h9 h10 h11 h12).mono ?_; rintro e wx ⟨rfl, hx⟩; obtain ⟨ux, rfl⟩ := after hx; clear hx) | fail)
  have hB1q : Below w.heap.size w ((on ux).alloc (.cells #[.int .i64 (2 * (2 * c) - x), .int .i64 (y)] 31)) := by
    have bw : Below w.heap.size w w := Below.refl _ _
    repeat first | (with_reducible exact bw) | (with_reducible refine below_on ?_ _) | (with_reducible refine below_alloc ?_ _)
  have L0_ : ((on ux).alloc (.cells #[.int .i64 (2 * (2 * c) - x), .int .i64 (y)] 31)).cell? ⟨w.heap.size, 0, none⟩ = some (.int .u8 1) := by simp [go_sem]
  have L1_ : ((on ux).alloc (.cells #[.int .i64 (2 * (2 * c) - x), .int .i64 (y)] 31)).cell? ⟨w.heap.size, 1, none⟩ = some (.int .i64 c) := by simp [go_sem]
  have P0_ : ((on ux).alloc (.cells #[.int .i64 (2 * (2 * c) - x), .int .i64 (y)] 31)).cell? ⟨w.heap.size + 1, 0, none⟩ = some (.int .i64 x) := by simp [go_sem]
  have P1_ : ((on ux).alloc (.cells #[.int .i64 (2 * (2 * c) - x), .int .i64 (y)] 31)).cell? ⟨w.heap.size + 1, 1, none⟩ = some (.int .i64 y) := by simp [go_sem]
  have q0 : ((on ux).alloc (.cells #[.int .i64 (2 * (2 * c) - x), .int .i64 (y)] 31)).cell? ⟨(on ux).heap.size, 0, none⟩ = some (.int .i64 (2 * (2 * c) - x)) := by simp [go_sem]
  have q1 : ((on ux).alloc (.cells #[.int .i64 (2 * (2 * c) - x), .int .i64 (y)] 31)).cell? ⟨(on ux).heap.size, 1, none⟩ = some (.int .i64 (y)) := by simp [go_sem]
  generalize (on ux).alloc (.cells #[.int .i64 (2 * (2 * c) - x), .int .i64 (y)] 31) = Wq at *
  generalize (on ux).heap.size = Bq at *
  clear ux
  go_wp2_with (first | (go_at_call 13; with_reducible refine (valid_yes 1 c _ (by omega) (by omega) h3 h4).mono ?_; rintro e wx ⟨rfl, hx⟩; obtain ⟨ux, rfl⟩ := after hx; clear hx) | (go_at_call 39; with_reducible refine (inside_yes x y _ h5 h6 h7 h8).mono ?_; rintro e wx ⟨rfl, hx⟩; obtain ⟨ux, rfl⟩ := after hx; clear hx) | (go_at_call 16; with_reducible refine (rreflect_1 c x y _ (by omega) (by omega) (by omega) (by omega) h3 h4).mono ?_; rintro e wx ⟨rfl, hx⟩; obtain ⟨ux, rfl⟩ := after hx; clear hx) | fail)
  have hB2r : Below w.heap.size w ((on ux).alloc (.cells #[.int .i64 (2 * (2 * c) - x), .int .i64 (y)] 31)) := by
    have bw : Below w.heap.size w Wq := hB1q
    repeat first | (with_reducible exact bw) | (with_reducible refine below_on ?_ _) | (with_reducible refine below_alloc ?_ _)
  have L0__ : ((on ux).alloc (.cells #[.int .i64 (2 * (2 * c) - x), .int .i64 (y)] 31)).cell? ⟨w.heap.size, 0, none⟩ = some (.int .u8 1) := by simp [go_sem, L0_]
  have L1__ : ((on ux).alloc (.cells #[.int .i64 (2 * (2 * c) - x), .int .i64 (y)] 31)).cell? ⟨w.heap.size, 1, none⟩ = some (.int .i64 c) := by simp [go_sem, L1_]
  have P0__ : ((on ux).alloc (.cells #[.int .i64 (2 * (2 * c) - x), .int .i64 (y)] 31)).cell? ⟨w.heap.size + 1, 0, none⟩ = some (.int .i64 x) := by simp [go_sem, P0_]
  have P1__ : ((on ux).alloc (.cells #[.int .i64 (2 * (2 * c) - x), .int .i64 (y)] 31)).cell? ⟨w.heap.size + 1, 1, none⟩ = some (.int .i64 y) := by simp [go_sem, P1_]
  have q0_ : ((on ux).alloc (.cells #[.int .i64 (2 * (2 * c) - x), .int .i64 (y)] 31)).cell? ⟨Bq, 0, none⟩ = some (.int .i64 (2 * (2 * c) - x)) := by simp [go_sem, q0]
  have q1_ : ((on ux).alloc (.cells #[.int .i64 (2 * (2 * c) - x), .int .i64 (y)] 31)).cell? ⟨Bq, 1, none⟩ = some (.int .i64 (y)) := by simp [go_sem, q1]
  have r0 : ((on ux).alloc (.cells #[.int .i64 (2 * (2 * c) - x), .int .i64 (y)] 31)).cell? ⟨(on ux).heap.size, 0, none⟩ = some (.int .i64 (2 * (2 * c) - x)) := by simp [go_sem]
  have r1 : ((on ux).alloc (.cells #[.int .i64 (2 * (2 * c) - x), .int .i64 (y)] 31)).cell? ⟨(on ux).heap.size, 1, none⟩ = some (.int .i64 (y)) := by simp [go_sem]
  clear L0_ L1_ P0_ P1_ q0 q1 hB1q
  generalize (on ux).alloc (.cells #[.int .i64 (2 * (2 * c) - x), .int .i64 (y)] 31) = Wr at *
  generalize (on ux).heap.size = Br at *
  clear ux
  go_wp2_with (first | (go_at_call 39; with_reducible refine (inside_yes (2 * (2 * c) - x) (y) _ h9 h10 h11 h12).mono ?_; rintro e wx ⟨rfl, hx⟩; obtain ⟨ux, rfl⟩ := after hx; clear hx) | (go_at_call 49; with_reducible refine (back_1 c x y _ h3 h4 h5 h6 h7 h8 h9 h10 h11 h12).mono ?_; rintro e wx ⟨rfl, hx⟩; obtain ⟨ux, rfl⟩ := after hx; clear hx) | (go_at_call 17; with_reducible refine (across_1 _).mono ?_; rintro e wx ⟨rfl, rfl⟩) | fail)
  refine region_later (by kernel_rfl) (by kernel_rfl) ?_
  repeat (go_big_quiet_step ((first | (go_at_call 53; with_reducible exact Calls.later (farq_1 c x y _ h3 h4 h5 h6 h7 h8 h9 h10 h11 h12)) | (go_at_call 53; with_reducible exact Calls.later (far_1 c x y _ (by omega) (by omega) (by omega) (by omega) h3 h4)) | (go_at_call 14; with_reducible exact Calls.later (lives_ok _ (hT' _ (by have bw := hB2r; repeat first | (with_reducible exact bw) | (with_reducible refine below_on ?_ _) | (with_reducible refine below_alloc ?_ _))))))))
  refine wpQuiet_nil ?_
  rintro _ ⟨u9, rfl⟩
  go_wp2
  go_ret
  exact ⟨rfl, (by
      have bw : Below w.heap.size w Wr := hB2r
      repeat first | (with_reducible exact bw) | (with_reducible refine below_on ?_ _) | (with_reducible refine below_alloc ?_ _))⟩

theorem back_2 (c x y : Int) (w : World) (h3 : -4096 ≤ c) (h4 : c ≤ 4096) (h5 : -65536 ≤ x) (h6 : x ≤ 65536) (h7 : -65536 ≤ y) (h8 : y ≤ 65536) (h9 : -65536 ≤ x) (h10 : x ≤ 65536) (h11 : -65536 ≤ 2 * (2 * c) - y) (h12 : 2 * (2 * c) - y ≤ 65536) : Calls Tryd.prog 49 #[ln 2 c, pt (x) (2 * (2 * c) - y)] w fun e w' => e = .returned (.tuple #[pt x y, .int .i64 0]) ∧ Below w.heap.size w w' := by
  have := reflect_ok2 c (x) (2 * (2 * c) - y) w h3 h4 h9 h10 h11 h12 (by omega) (by omega) (by omega) (by omega)
  rwa [show (x) = x by omega, show 2 * (2 * c) - (2 * (2 * c) - y) = y by omega] at this

theorem farq_2 (c x y : Int) (w : World) (h3 : -4096 ≤ c) (h4 : c ≤ 4096) (h5 : -65536 ≤ x) (h6 : x ≤ 65536) (h7 : -65536 ≤ y) (h8 : y ≤ 65536) (h9 : -65536 ≤ x) (h10 : x ≤ 65536) (h11 : -65536 ≤ 2 * (2 * c) - y) (h12 : 2 * (2 * c) - y ≤ 65536) : Calls Tryd.prog 53 #[ln 2 c, pt (x) (2 * (2 * c) - y)] w fun e w' => e = .returned (.int .i64 (-(y - 2 * c))) ∧ Below w.heap.size w w' := by
  have := far_2 c (x) (2 * (2 * c) - y) w (by omega) (by omega) (by omega) (by omega) h3 h4
  rwa [show (2 * (2 * c) - y) - 2 * c = -(y - 2 * c) by omega] at this

set_option maxRecDepth 100000 in
set_option maxHeartbeats 8000000 in
theorem reflect_in2 (c x y : Int) (w : World) (hT : Tab w) (h3 : -4096 ≤ c) (h4 : c ≤ 4096) (h5 : -65536 ≤ x) (h6 : x ≤ 65536) (h7 : -65536 ≤ y) (h8 : y ≤ 65536) (h9 : -65536 ≤ x) (h10 : x ≤ 65536) (h11 : -65536 ≤ 2 * (2 * c) - y) (h12 : 2 * (2 * c) - y ≤ 65536) : Calls Tryd.prog 21 #[ln 2 c, pt x y] w fun e w' => e = .returned (.bool true) ∧ Below w.heap.size w w' := by
  have hT' : ∀ W, Below w.heap.size w W → Tab W := fun W hb => tab_below hT hb
  go_enter Tryd.func21, Tryd.ntmps21
  go_wp2_with (first | (go_at_call 49; with_reducible refine (reflect_ok2 c x y _ h3 h4 h5 h6 h7 h8 h9 h10 h11 h12).mono ?_; rintro e wx ⟨rfl, hx⟩; obtain ⟨ux, rfl⟩ := after hx; clear hx) | fail)
  have hB1q : Below w.heap.size w ((on ux).alloc (.cells #[.int .i64 (x), .int .i64 (2 * (2 * c) - y)] 31)) := by
    have bw : Below w.heap.size w w := Below.refl _ _
    repeat first | (with_reducible exact bw) | (with_reducible refine below_on ?_ _) | (with_reducible refine below_alloc ?_ _)
  have L0_ : ((on ux).alloc (.cells #[.int .i64 (x), .int .i64 (2 * (2 * c) - y)] 31)).cell? ⟨w.heap.size, 0, none⟩ = some (.int .u8 2) := by simp [go_sem]
  have L1_ : ((on ux).alloc (.cells #[.int .i64 (x), .int .i64 (2 * (2 * c) - y)] 31)).cell? ⟨w.heap.size, 1, none⟩ = some (.int .i64 c) := by simp [go_sem]
  have P0_ : ((on ux).alloc (.cells #[.int .i64 (x), .int .i64 (2 * (2 * c) - y)] 31)).cell? ⟨w.heap.size + 1, 0, none⟩ = some (.int .i64 x) := by simp [go_sem]
  have P1_ : ((on ux).alloc (.cells #[.int .i64 (x), .int .i64 (2 * (2 * c) - y)] 31)).cell? ⟨w.heap.size + 1, 1, none⟩ = some (.int .i64 y) := by simp [go_sem]
  have q0 : ((on ux).alloc (.cells #[.int .i64 (x), .int .i64 (2 * (2 * c) - y)] 31)).cell? ⟨(on ux).heap.size, 0, none⟩ = some (.int .i64 (x)) := by simp [go_sem]
  have q1 : ((on ux).alloc (.cells #[.int .i64 (x), .int .i64 (2 * (2 * c) - y)] 31)).cell? ⟨(on ux).heap.size, 1, none⟩ = some (.int .i64 (2 * (2 * c) - y)) := by simp [go_sem]
  generalize (on ux).alloc (.cells #[.int .i64 (x), .int .i64 (2 * (2 * c) - y)] 31) = Wq at *
  generalize (on ux).heap.size = Bq at *
  clear ux
  go_wp2_with (first | (go_at_call 13; with_reducible refine (valid_yes 2 c _ (by omega) (by omega) h3 h4).mono ?_; rintro e wx ⟨rfl, hx⟩; obtain ⟨ux, rfl⟩ := after hx; clear hx) | (go_at_call 39; with_reducible refine (inside_yes x y _ h5 h6 h7 h8).mono ?_; rintro e wx ⟨rfl, hx⟩; obtain ⟨ux, rfl⟩ := after hx; clear hx) | (go_at_call 16; with_reducible refine (rreflect_2 c x y _ (by omega) (by omega) (by omega) (by omega) h3 h4).mono ?_; rintro e wx ⟨rfl, hx⟩; obtain ⟨ux, rfl⟩ := after hx; clear hx) | fail)
  have hB2r : Below w.heap.size w ((on ux).alloc (.cells #[.int .i64 (x), .int .i64 (2 * (2 * c) - y)] 31)) := by
    have bw : Below w.heap.size w Wq := hB1q
    repeat first | (with_reducible exact bw) | (with_reducible refine below_on ?_ _) | (with_reducible refine below_alloc ?_ _)
  have L0__ : ((on ux).alloc (.cells #[.int .i64 (x), .int .i64 (2 * (2 * c) - y)] 31)).cell? ⟨w.heap.size, 0, none⟩ = some (.int .u8 2) := by simp [go_sem, L0_]
  have L1__ : ((on ux).alloc (.cells #[.int .i64 (x), .int .i64 (2 * (2 * c) - y)] 31)).cell? ⟨w.heap.size, 1, none⟩ = some (.int .i64 c) := by simp [go_sem, L1_]
  have P0__ : ((on ux).alloc (.cells #[.int .i64 (x), .int .i64 (2 * (2 * c) - y)] 31)).cell? ⟨w.heap.size + 1, 0, none⟩ = some (.int .i64 x) := by simp [go_sem, P0_]
  have P1__ : ((on ux).alloc (.cells #[.int .i64 (x), .int .i64 (2 * (2 * c) - y)] 31)).cell? ⟨w.heap.size + 1, 1, none⟩ = some (.int .i64 y) := by simp [go_sem, P1_]
  have q0_ : ((on ux).alloc (.cells #[.int .i64 (x), .int .i64 (2 * (2 * c) - y)] 31)).cell? ⟨Bq, 0, none⟩ = some (.int .i64 (x)) := by simp [go_sem, q0]
  have q1_ : ((on ux).alloc (.cells #[.int .i64 (x), .int .i64 (2 * (2 * c) - y)] 31)).cell? ⟨Bq, 1, none⟩ = some (.int .i64 (2 * (2 * c) - y)) := by simp [go_sem, q1]
  have r0 : ((on ux).alloc (.cells #[.int .i64 (x), .int .i64 (2 * (2 * c) - y)] 31)).cell? ⟨(on ux).heap.size, 0, none⟩ = some (.int .i64 (x)) := by simp [go_sem]
  have r1 : ((on ux).alloc (.cells #[.int .i64 (x), .int .i64 (2 * (2 * c) - y)] 31)).cell? ⟨(on ux).heap.size, 1, none⟩ = some (.int .i64 (2 * (2 * c) - y)) := by simp [go_sem]
  clear L0_ L1_ P0_ P1_ q0 q1 hB1q
  generalize (on ux).alloc (.cells #[.int .i64 (x), .int .i64 (2 * (2 * c) - y)] 31) = Wr at *
  generalize (on ux).heap.size = Br at *
  clear ux
  go_wp2_with (first | (go_at_call 39; with_reducible refine (inside_yes (x) (2 * (2 * c) - y) _ h9 h10 h11 h12).mono ?_; rintro e wx ⟨rfl, hx⟩; obtain ⟨ux, rfl⟩ := after hx; clear hx) | (go_at_call 49; with_reducible refine (back_2 c x y _ h3 h4 h5 h6 h7 h8 h9 h10 h11 h12).mono ?_; rintro e wx ⟨rfl, hx⟩; obtain ⟨ux, rfl⟩ := after hx; clear hx) | (go_at_call 17; with_reducible refine (across_2 _).mono ?_; rintro e wx ⟨rfl, rfl⟩) | fail)
  refine region_later (by kernel_rfl) (by kernel_rfl) ?_
  repeat (go_big_quiet_step ((first | (go_at_call 53; with_reducible exact Calls.later (farq_2 c x y _ h3 h4 h5 h6 h7 h8 h9 h10 h11 h12)) | (go_at_call 53; with_reducible exact Calls.later (far_2 c x y _ (by omega) (by omega) (by omega) (by omega) h3 h4)) | (go_at_call 14; with_reducible exact Calls.later (lives_ok _ (hT' _ (by have bw := hB2r; repeat first | (with_reducible exact bw) | (with_reducible refine below_on ?_ _) | (with_reducible refine below_alloc ?_ _))))))))
  refine wpQuiet_nil ?_
  rintro _ ⟨u9, rfl⟩
  go_wp2
  go_ret
  exact ⟨rfl, (by
      have bw : Below w.heap.size w Wr := hB2r
      repeat first | (with_reducible exact bw) | (with_reducible refine below_on ?_ _) | (with_reducible refine below_alloc ?_ _))⟩

theorem back_3 (c x y : Int) (w : World) (h3 : -4096 ≤ c) (h4 : c ≤ 4096) (h5 : -65536 ≤ x) (h6 : x ≤ 65536) (h7 : -65536 ≤ y) (h8 : y ≤ 65536) (h9 : -65536 ≤ (2 * c) - y) (h10 : (2 * c) - y ≤ 65536) (h11 : -65536 ≤ (2 * c) - x) (h12 : (2 * c) - x ≤ 65536) : Calls Tryd.prog 49 #[ln 3 c, pt ((2 * c) - y) ((2 * c) - x)] w fun e w' => e = .returned (.tuple #[pt x y, .int .i64 0]) ∧ Below w.heap.size w w' := by
  have := reflect_ok3 c ((2 * c) - y) ((2 * c) - x) w h3 h4 h9 h10 h11 h12 (by omega) (by omega) (by omega) (by omega)
  rwa [show (2 * c) - ((2 * c) - x) = x by omega, show (2 * c) - ((2 * c) - y) = y by omega] at this

theorem farq_3 (c x y : Int) (w : World) (h3 : -4096 ≤ c) (h4 : c ≤ 4096) (h5 : -65536 ≤ x) (h6 : x ≤ 65536) (h7 : -65536 ≤ y) (h8 : y ≤ 65536) (h9 : -65536 ≤ (2 * c) - y) (h10 : (2 * c) - y ≤ 65536) (h11 : -65536 ≤ (2 * c) - x) (h12 : (2 * c) - x ≤ 65536) : Calls Tryd.prog 53 #[ln 3 c, pt ((2 * c) - y) ((2 * c) - x)] w fun e w' => e = .returned (.int .i64 (-(x + y - 2 * c))) ∧ Below w.heap.size w w' := by
  have := far_3 c ((2 * c) - y) ((2 * c) - x) w (by omega) (by omega) (by omega) (by omega) h3 h4
  rwa [show ((2 * c) - y) + ((2 * c) - x) - 2 * c = -(x + y - 2 * c) by omega] at this

set_option maxRecDepth 100000 in
set_option maxHeartbeats 8000000 in
theorem reflect_in3 (c x y : Int) (w : World) (hT : Tab w) (h3 : -4096 ≤ c) (h4 : c ≤ 4096) (h5 : -65536 ≤ x) (h6 : x ≤ 65536) (h7 : -65536 ≤ y) (h8 : y ≤ 65536) (h9 : -65536 ≤ (2 * c) - y) (h10 : (2 * c) - y ≤ 65536) (h11 : -65536 ≤ (2 * c) - x) (h12 : (2 * c) - x ≤ 65536) : Calls Tryd.prog 21 #[ln 3 c, pt x y] w fun e w' => e = .returned (.bool true) ∧ Below w.heap.size w w' := by
  have hT' : ∀ W, Below w.heap.size w W → Tab W := fun W hb => tab_below hT hb
  go_enter Tryd.func21, Tryd.ntmps21
  go_wp2_with (first | (go_at_call 49; with_reducible refine (reflect_ok3 c x y _ h3 h4 h5 h6 h7 h8 h9 h10 h11 h12).mono ?_; rintro e wx ⟨rfl, hx⟩; obtain ⟨ux, rfl⟩ := after hx; clear hx) | fail)
  have hB1q : Below w.heap.size w ((on ux).alloc (.cells #[.int .i64 ((2 * c) - y), .int .i64 ((2 * c) - x)] 31)) := by
    have bw : Below w.heap.size w w := Below.refl _ _
    repeat first | (with_reducible exact bw) | (with_reducible refine below_on ?_ _) | (with_reducible refine below_alloc ?_ _)
  have L0_ : ((on ux).alloc (.cells #[.int .i64 ((2 * c) - y), .int .i64 ((2 * c) - x)] 31)).cell? ⟨w.heap.size, 0, none⟩ = some (.int .u8 3) := by simp [go_sem]
  have L1_ : ((on ux).alloc (.cells #[.int .i64 ((2 * c) - y), .int .i64 ((2 * c) - x)] 31)).cell? ⟨w.heap.size, 1, none⟩ = some (.int .i64 c) := by simp [go_sem]
  have P0_ : ((on ux).alloc (.cells #[.int .i64 ((2 * c) - y), .int .i64 ((2 * c) - x)] 31)).cell? ⟨w.heap.size + 1, 0, none⟩ = some (.int .i64 x) := by simp [go_sem]
  have P1_ : ((on ux).alloc (.cells #[.int .i64 ((2 * c) - y), .int .i64 ((2 * c) - x)] 31)).cell? ⟨w.heap.size + 1, 1, none⟩ = some (.int .i64 y) := by simp [go_sem]
  have q0 : ((on ux).alloc (.cells #[.int .i64 ((2 * c) - y), .int .i64 ((2 * c) - x)] 31)).cell? ⟨(on ux).heap.size, 0, none⟩ = some (.int .i64 ((2 * c) - y)) := by simp [go_sem]
  have q1 : ((on ux).alloc (.cells #[.int .i64 ((2 * c) - y), .int .i64 ((2 * c) - x)] 31)).cell? ⟨(on ux).heap.size, 1, none⟩ = some (.int .i64 ((2 * c) - x)) := by simp [go_sem]
  generalize (on ux).alloc (.cells #[.int .i64 ((2 * c) - y), .int .i64 ((2 * c) - x)] 31) = Wq at *
  generalize (on ux).heap.size = Bq at *
  clear ux
  go_wp2_with (first | (go_at_call 13; with_reducible refine (valid_yes 3 c _ (by omega) (by omega) h3 h4).mono ?_; rintro e wx ⟨rfl, hx⟩; obtain ⟨ux, rfl⟩ := after hx; clear hx) | (go_at_call 39; with_reducible refine (inside_yes x y _ h5 h6 h7 h8).mono ?_; rintro e wx ⟨rfl, hx⟩; obtain ⟨ux, rfl⟩ := after hx; clear hx) | (go_at_call 16; with_reducible refine (rreflect_3 c x y _ (by omega) (by omega) (by omega) (by omega) h3 h4).mono ?_; rintro e wx ⟨rfl, hx⟩; obtain ⟨ux, rfl⟩ := after hx; clear hx) | fail)
  have hB2r : Below w.heap.size w ((on ux).alloc (.cells #[.int .i64 ((2 * c) - y), .int .i64 ((2 * c) - x)] 31)) := by
    have bw : Below w.heap.size w Wq := hB1q
    repeat first | (with_reducible exact bw) | (with_reducible refine below_on ?_ _) | (with_reducible refine below_alloc ?_ _)
  have L0__ : ((on ux).alloc (.cells #[.int .i64 ((2 * c) - y), .int .i64 ((2 * c) - x)] 31)).cell? ⟨w.heap.size, 0, none⟩ = some (.int .u8 3) := by simp [go_sem, L0_]
  have L1__ : ((on ux).alloc (.cells #[.int .i64 ((2 * c) - y), .int .i64 ((2 * c) - x)] 31)).cell? ⟨w.heap.size, 1, none⟩ = some (.int .i64 c) := by simp [go_sem, L1_]
  have P0__ : ((on ux).alloc (.cells #[.int .i64 ((2 * c) - y), .int .i64 ((2 * c) - x)] 31)).cell? ⟨w.heap.size + 1, 0, none⟩ = some (.int .i64 x) := by simp [go_sem, P0_]
  have P1__ : ((on ux).alloc (.cells #[.int .i64 ((2 * c) - y), .int .i64 ((2 * c) - x)] 31)).cell? ⟨w.heap.size + 1, 1, none⟩ = some (.int .i64 y) := by simp [go_sem, P1_]
  have q0_ : ((on ux).alloc (.cells #[.int .i64 ((2 * c) - y), .int .i64 ((2 * c) - x)] 31)).cell? ⟨Bq, 0, none⟩ = some (.int .i64 ((2 * c) - y)) := by simp [go_sem, q0]
  have q1_ : ((on ux).alloc (.cells #[.int .i64 ((2 * c) - y), .int .i64 ((2 * c) - x)] 31)).cell? ⟨Bq, 1, none⟩ = some (.int .i64 ((2 * c) - x)) := by simp [go_sem, q1]
  have r0 : ((on ux).alloc (.cells #[.int .i64 ((2 * c) - y), .int .i64 ((2 * c) - x)] 31)).cell? ⟨(on ux).heap.size, 0, none⟩ = some (.int .i64 ((2 * c) - y)) := by simp [go_sem]
  have r1 : ((on ux).alloc (.cells #[.int .i64 ((2 * c) - y), .int .i64 ((2 * c) - x)] 31)).cell? ⟨(on ux).heap.size, 1, none⟩ = some (.int .i64 ((2 * c) - x)) := by simp [go_sem]
  clear L0_ L1_ P0_ P1_ q0 q1 hB1q
  generalize (on ux).alloc (.cells #[.int .i64 ((2 * c) - y), .int .i64 ((2 * c) - x)] 31) = Wr at *
  generalize (on ux).heap.size = Br at *
  clear ux
  go_wp2_with (first | (go_at_call 39; with_reducible refine (inside_yes ((2 * c) - y) ((2 * c) - x) _ h9 h10 h11 h12).mono ?_; rintro e wx ⟨rfl, hx⟩; obtain ⟨ux, rfl⟩ := after hx; clear hx) | (go_at_call 49; with_reducible refine (back_3 c x y _ h3 h4 h5 h6 h7 h8 h9 h10 h11 h12).mono ?_; rintro e wx ⟨rfl, hx⟩; obtain ⟨ux, rfl⟩ := after hx; clear hx) | (go_at_call 17; with_reducible refine (across_3 _).mono ?_; rintro e wx ⟨rfl, rfl⟩) | fail)
  refine region_later (by kernel_rfl) (by kernel_rfl) ?_
  repeat (go_big_quiet_step ((first | (go_at_call 53; with_reducible exact Calls.later (farq_3 c x y _ h3 h4 h5 h6 h7 h8 h9 h10 h11 h12)) | (go_at_call 53; with_reducible exact Calls.later (far_3 c x y _ (by omega) (by omega) (by omega) (by omega) h3 h4)) | (go_at_call 14; with_reducible exact Calls.later (lives_ok _ (hT' _ (by have bw := hB2r; repeat first | (with_reducible exact bw) | (with_reducible refine below_on ?_ _) | (with_reducible refine below_alloc ?_ _))))))))
  rw [eqt]
  rotate_left
  · omega
  repeat (go_big_quiet_step ((first | (go_at_call 53; with_reducible exact Calls.later (farq_3 c x y _ h3 h4 h5 h6 h7 h8 h9 h10 h11 h12)) | (go_at_call 53; with_reducible exact Calls.later (far_3 c x y _ (by omega) (by omega) (by omega) (by omega) h3 h4)) | (go_at_call 14; with_reducible exact Calls.later (lives_ok _ (hT' _ (by have bw := hB2r; repeat first | (with_reducible exact bw) | (with_reducible refine below_on ?_ _) | (with_reducible refine below_alloc ?_ _))))))))
  refine wpQuiet_nil ?_
  rintro _ ⟨u9, rfl⟩
  go_wp2
  go_ret
  exact ⟨rfl, (by
      have bw : Below w.heap.size w Wr := hB2r
      repeat first | (with_reducible exact bw) | (with_reducible refine below_on ?_ _) | (with_reducible refine below_alloc ?_ _))⟩

theorem back_4 (c x y : Int) (w : World) (h3 : -4096 ≤ c) (h4 : c ≤ 4096) (h5 : -65536 ≤ x) (h6 : x ≤ 65536) (h7 : -65536 ≤ y) (h8 : y ≤ 65536) (h9 : -65536 ≤ y - (2 * c)) (h10 : y - (2 * c) ≤ 65536) (h11 : -65536 ≤ x + (2 * c)) (h12 : x + (2 * c) ≤ 65536) : Calls Tryd.prog 49 #[ln 4 c, pt (y - (2 * c)) (x + (2 * c))] w fun e w' => e = .returned (.tuple #[pt x y, .int .i64 0]) ∧ Below w.heap.size w w' := by
  have := reflect_ok4 c (y - (2 * c)) (x + (2 * c)) w h3 h4 h9 h10 h11 h12 (by omega) (by omega) (by omega) (by omega)
  rwa [show (x + (2 * c)) - (2 * c) = x by omega, show (y - (2 * c)) + (2 * c) = y by omega] at this

theorem farq_4 (c x y : Int) (w : World) (h3 : -4096 ≤ c) (h4 : c ≤ 4096) (h5 : -65536 ≤ x) (h6 : x ≤ 65536) (h7 : -65536 ≤ y) (h8 : y ≤ 65536) (h9 : -65536 ≤ y - (2 * c)) (h10 : y - (2 * c) ≤ 65536) (h11 : -65536 ≤ x + (2 * c)) (h12 : x + (2 * c) ≤ 65536) : Calls Tryd.prog 53 #[ln 4 c, pt (y - (2 * c)) (x + (2 * c))] w fun e w' => e = .returned (.int .i64 (-(y - x - 2 * c))) ∧ Below w.heap.size w w' := by
  have := far_4 c (y - (2 * c)) (x + (2 * c)) w (by omega) (by omega) (by omega) (by omega) h3 h4
  rwa [show (x + (2 * c)) - (y - (2 * c)) - 2 * c = -(y - x - 2 * c) by omega] at this

set_option maxRecDepth 100000 in
set_option maxHeartbeats 8000000 in
theorem reflect_in4 (c x y : Int) (w : World) (hT : Tab w) (h3 : -4096 ≤ c) (h4 : c ≤ 4096) (h5 : -65536 ≤ x) (h6 : x ≤ 65536) (h7 : -65536 ≤ y) (h8 : y ≤ 65536) (h9 : -65536 ≤ y - (2 * c)) (h10 : y - (2 * c) ≤ 65536) (h11 : -65536 ≤ x + (2 * c)) (h12 : x + (2 * c) ≤ 65536) : Calls Tryd.prog 21 #[ln 4 c, pt x y] w fun e w' => e = .returned (.bool true) ∧ Below w.heap.size w w' := by
  have hT' : ∀ W, Below w.heap.size w W → Tab W := fun W hb => tab_below hT hb
  go_enter Tryd.func21, Tryd.ntmps21
  go_wp2_with (first | (go_at_call 49; with_reducible refine (reflect_ok4 c x y _ h3 h4 h5 h6 h7 h8 h9 h10 h11 h12).mono ?_; rintro e wx ⟨rfl, hx⟩; obtain ⟨ux, rfl⟩ := after hx; clear hx) | fail)
  have hB1q : Below w.heap.size w ((on ux).alloc (.cells #[.int .i64 (y - (2 * c)), .int .i64 (x + (2 * c))] 31)) := by
    have bw : Below w.heap.size w w := Below.refl _ _
    repeat first | (with_reducible exact bw) | (with_reducible refine below_on ?_ _) | (with_reducible refine below_alloc ?_ _)
  have L0_ : ((on ux).alloc (.cells #[.int .i64 (y - (2 * c)), .int .i64 (x + (2 * c))] 31)).cell? ⟨w.heap.size, 0, none⟩ = some (.int .u8 4) := by simp [go_sem]
  have L1_ : ((on ux).alloc (.cells #[.int .i64 (y - (2 * c)), .int .i64 (x + (2 * c))] 31)).cell? ⟨w.heap.size, 1, none⟩ = some (.int .i64 c) := by simp [go_sem]
  have P0_ : ((on ux).alloc (.cells #[.int .i64 (y - (2 * c)), .int .i64 (x + (2 * c))] 31)).cell? ⟨w.heap.size + 1, 0, none⟩ = some (.int .i64 x) := by simp [go_sem]
  have P1_ : ((on ux).alloc (.cells #[.int .i64 (y - (2 * c)), .int .i64 (x + (2 * c))] 31)).cell? ⟨w.heap.size + 1, 1, none⟩ = some (.int .i64 y) := by simp [go_sem]
  have q0 : ((on ux).alloc (.cells #[.int .i64 (y - (2 * c)), .int .i64 (x + (2 * c))] 31)).cell? ⟨(on ux).heap.size, 0, none⟩ = some (.int .i64 (y - (2 * c))) := by simp [go_sem]
  have q1 : ((on ux).alloc (.cells #[.int .i64 (y - (2 * c)), .int .i64 (x + (2 * c))] 31)).cell? ⟨(on ux).heap.size, 1, none⟩ = some (.int .i64 (x + (2 * c))) := by simp [go_sem]
  generalize (on ux).alloc (.cells #[.int .i64 (y - (2 * c)), .int .i64 (x + (2 * c))] 31) = Wq at *
  generalize (on ux).heap.size = Bq at *
  clear ux
  go_wp2_with (first | (go_at_call 13; with_reducible refine (valid_yes 4 c _ (by omega) (by omega) h3 h4).mono ?_; rintro e wx ⟨rfl, hx⟩; obtain ⟨ux, rfl⟩ := after hx; clear hx) | (go_at_call 39; with_reducible refine (inside_yes x y _ h5 h6 h7 h8).mono ?_; rintro e wx ⟨rfl, hx⟩; obtain ⟨ux, rfl⟩ := after hx; clear hx) | (go_at_call 16; with_reducible refine (rreflect_4 c x y _ (by omega) (by omega) (by omega) (by omega) h3 h4).mono ?_; rintro e wx ⟨rfl, hx⟩; obtain ⟨ux, rfl⟩ := after hx; clear hx) | fail)
  have hB2r : Below w.heap.size w ((on ux).alloc (.cells #[.int .i64 (y - (2 * c)), .int .i64 (x + (2 * c))] 31)) := by
    have bw : Below w.heap.size w Wq := hB1q
    repeat first | (with_reducible exact bw) | (with_reducible refine below_on ?_ _) | (with_reducible refine below_alloc ?_ _)
  have L0__ : ((on ux).alloc (.cells #[.int .i64 (y - (2 * c)), .int .i64 (x + (2 * c))] 31)).cell? ⟨w.heap.size, 0, none⟩ = some (.int .u8 4) := by simp [go_sem, L0_]
  have L1__ : ((on ux).alloc (.cells #[.int .i64 (y - (2 * c)), .int .i64 (x + (2 * c))] 31)).cell? ⟨w.heap.size, 1, none⟩ = some (.int .i64 c) := by simp [go_sem, L1_]
  have P0__ : ((on ux).alloc (.cells #[.int .i64 (y - (2 * c)), .int .i64 (x + (2 * c))] 31)).cell? ⟨w.heap.size + 1, 0, none⟩ = some (.int .i64 x) := by simp [go_sem, P0_]
  have P1__ : ((on ux).alloc (.cells #[.int .i64 (y - (2 * c)), .int .i64 (x + (2 * c))] 31)).cell? ⟨w.heap.size + 1, 1, none⟩ = some (.int .i64 y) := by simp [go_sem, P1_]
  have q0_ : ((on ux).alloc (.cells #[.int .i64 (y - (2 * c)), .int .i64 (x + (2 * c))] 31)).cell? ⟨Bq, 0, none⟩ = some (.int .i64 (y - (2 * c))) := by simp [go_sem, q0]
  have q1_ : ((on ux).alloc (.cells #[.int .i64 (y - (2 * c)), .int .i64 (x + (2 * c))] 31)).cell? ⟨Bq, 1, none⟩ = some (.int .i64 (x + (2 * c))) := by simp [go_sem, q1]
  have r0 : ((on ux).alloc (.cells #[.int .i64 (y - (2 * c)), .int .i64 (x + (2 * c))] 31)).cell? ⟨(on ux).heap.size, 0, none⟩ = some (.int .i64 (y - (2 * c))) := by simp [go_sem]
  have r1 : ((on ux).alloc (.cells #[.int .i64 (y - (2 * c)), .int .i64 (x + (2 * c))] 31)).cell? ⟨(on ux).heap.size, 1, none⟩ = some (.int .i64 (x + (2 * c))) := by simp [go_sem]
  clear L0_ L1_ P0_ P1_ q0 q1 hB1q
  generalize (on ux).alloc (.cells #[.int .i64 (y - (2 * c)), .int .i64 (x + (2 * c))] 31) = Wr at *
  generalize (on ux).heap.size = Br at *
  clear ux
  go_wp2_with (first | (go_at_call 39; with_reducible refine (inside_yes (y - (2 * c)) (x + (2 * c)) _ h9 h10 h11 h12).mono ?_; rintro e wx ⟨rfl, hx⟩; obtain ⟨ux, rfl⟩ := after hx; clear hx) | (go_at_call 49; with_reducible refine (back_4 c x y _ h3 h4 h5 h6 h7 h8 h9 h10 h11 h12).mono ?_; rintro e wx ⟨rfl, hx⟩; obtain ⟨ux, rfl⟩ := after hx; clear hx) | (go_at_call 17; with_reducible refine (across_4 _).mono ?_; rintro e wx ⟨rfl, rfl⟩) | fail)
  refine region_later (by kernel_rfl) (by kernel_rfl) ?_
  repeat (go_big_quiet_step ((first | (go_at_call 53; with_reducible exact Calls.later (farq_4 c x y _ h3 h4 h5 h6 h7 h8 h9 h10 h11 h12)) | (go_at_call 53; with_reducible exact Calls.later (far_4 c x y _ (by omega) (by omega) (by omega) (by omega) h3 h4)) | (go_at_call 14; with_reducible exact Calls.later (lives_ok _ (hT' _ (by have bw := hB2r; repeat first | (with_reducible exact bw) | (with_reducible refine below_on ?_ _) | (with_reducible refine below_alloc ?_ _))))))))
  rw [eqt]
  rotate_left
  · omega
  repeat (go_big_quiet_step ((first | (go_at_call 53; with_reducible exact Calls.later (farq_4 c x y _ h3 h4 h5 h6 h7 h8 h9 h10 h11 h12)) | (go_at_call 53; with_reducible exact Calls.later (far_4 c x y _ (by omega) (by omega) (by omega) (by omega) h3 h4)) | (go_at_call 14; with_reducible exact Calls.later (lives_ok _ (hT' _ (by have bw := hB2r; repeat first | (with_reducible exact bw) | (with_reducible refine below_on ?_ _) | (with_reducible refine below_alloc ?_ _))))))))
  refine wpQuiet_nil ?_
  rintro _ ⟨u9, rfl⟩
  go_wp2
  go_ret
  exact ⟨rfl, (by
      have bw : Below w.heap.size w Wr := hB2r
      repeat first | (with_reducible exact bw) | (with_reducible refine below_on ?_ _) | (with_reducible refine below_alloc ?_ _))⟩

theorem reflect_law (k c x y : Int) (w : World) (hT : Tab w) : Calls Tryd.prog 21 #[ln k c, pt x y] w fun e w' => e = .returned (.bool true) ∧ Below w.heap.size w w' := by
  by_cases a : 1 ≤ k ∧ k ≤ 4 ∧ -4096 ≤ c ∧ c ≤ 4096
  · by_cases b : -65536 ≤ x ∧ x ≤ 65536 ∧ -65536 ≤ y ∧ y ≤ 65536
    · by_cases q : -65536 ≤ mirX k (2 * c) x y ∧ mirX k (2 * c) x y ≤ 65536 ∧ -65536 ≤ mirY k (2 * c) x y ∧ mirY k (2 * c) x y ≤ 65536
      · obtain ⟨a1, a2, a3, a4⟩ := a
        obtain rfl | rfl | rfl | rfl : k = 1 ∨ k = 2 ∨ k = 3 ∨ k = 4 := by omega
        · rw [mirX1, mirY1] at q; exact reflect_in1 c x y w hT a3 a4 b.1 b.2.1 b.2.2.1 b.2.2.2 q.1 q.2.1 q.2.2.1 q.2.2.2
        · rw [mirX2, mirY2] at q; exact reflect_in2 c x y w hT a3 a4 b.1 b.2.1 b.2.2.1 b.2.2.2 q.1 q.2.1 q.2.2.1 q.2.2.2
        · rw [mirX3, mirY3] at q; exact reflect_in3 c x y w hT a3 a4 b.1 b.2.1 b.2.2.1 b.2.2.2 q.1 q.2.1 q.2.2.1 q.2.2.2
        · rw [mirX4, mirY4] at q; exact reflect_in4 c x y w hT a3 a4 b.1 b.2.1 b.2.2.1 b.2.2.2 q.1 q.2.1 q.2.2.1 q.2.2.2
      · exact reflect_case3 k c x y w hT a.1 a.2.1 a.2.2.1 a.2.2.2 b.1 b.2.1 b.2.2.1 b.2.2.2 (by omega)
    · exact reflect_case2 k c x y w hT a.1 a.2.1 a.2.2.1 a.2.2.2 (by omega)
  · exact reflect_case1 k c x y w hT (by omega)

end Go.Proofs.YtbcmfenekpllhaaDoor
