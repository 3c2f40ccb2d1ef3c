/-
  Says: what Inverse, Of and Point give.
-/
import Derived.Test.YtgkiliijefkcaaaDoorMv4
import Derived.Test.YtgkiliijefkcaaaDoorMvz
import Derived.Deep.RegionHeld3
import Derived.RowKit3
set_option linter.unusedVariables false
set_option linter.unusedSimpArgs false
namespace Go.Proofs.YtgkiliijefkcaaaDoor
open Go Go.RowKit

attribute [local go_sem] World.cell?_alloc_some frozen?_alloc_cells fz0 fz1 fz2 fz3 fz4 fz5

set_option maxRecDepth 100000 in
set_option maxHeartbeats 2000000 in
theorem mof_1 (c : Int) (w : World) (h3 : -4096 ≤ c) (h4 : c ≤ 4096) : Calls Tryd.prog 34 #[ln 1 c] w fun e w' => e = .returned (.tuple #[mv 4 (2 * c) (0), .int .i64 0]) ∧ Below w.heap.size w w' := by
  go_enter Tryd.func34, Tryd.ntmps34
  go_wp2_with (first | (go_at_call 42; with_reducible refine (check_ok 1 c _ (by omega) (by omega) h3 h4).mono ?_; rintro e wx ⟨rfl, hx⟩; obtain ⟨ux, rfl⟩ := after hx; clear hx) | fail)
  exact bodyPost_ret (v := .tuple #[mv 4 (2 * c) (0), .int .i64 0]) (by simp [results, Tryd.results34, go_sem]) rfl ⟨rfl, (by repeat first | (with_reducible exact Below.refl _ _) | (with_reducible refine below_on ?_ _) | (with_reducible refine below_alloc ?_ _) | (with_reducible refine below_set ?_ (by simp; try omega) _))⟩

set_option maxRecDepth 100000 in
set_option maxHeartbeats 2000000 in
theorem mof_2 (c : Int) (w : World) (h3 : -4096 ≤ c) (h4 : c ≤ 4096) : Calls Tryd.prog 34 #[ln 2 c] w fun e w' => e = .returned (.tuple #[mv 6 (0) (2 * c), .int .i64 0]) ∧ Below w.heap.size w w' := by
  go_enter Tryd.func34, Tryd.ntmps34
  go_wp2_with (first | (go_at_call 42; with_reducible refine (check_ok 2 c _ (by omega) (by omega) h3 h4).mono ?_; rintro e wx ⟨rfl, hx⟩; obtain ⟨ux, rfl⟩ := after hx; clear hx) | fail)
  exact bodyPost_ret (v := .tuple #[mv 6 (0) (2 * c), .int .i64 0]) (by simp [results, Tryd.results34, go_sem]) rfl ⟨rfl, (by repeat first | (with_reducible exact Below.refl _ _) | (with_reducible refine below_on ?_ _) | (with_reducible refine below_alloc ?_ _) | (with_reducible refine below_set ?_ (by simp; try omega) _))⟩

set_option maxRecDepth 100000 in
set_option maxHeartbeats 2000000 in
theorem mof_3 (c : Int) (w : World) (h3 : -4096 ≤ c) (h4 : c ≤ 4096) : Calls Tryd.prog 34 #[ln 3 c] w fun e w' => e = .returned (.tuple #[mv 5 (c) (c), .int .i64 0]) ∧ Below w.heap.size w w' := by
  go_enter Tryd.func34, Tryd.ntmps34
  go_wp2_with (first | (go_at_call 42; with_reducible refine (check_ok 3 c _ (by omega) (by omega) h3 h4).mono ?_; rintro e wx ⟨rfl, hx⟩; obtain ⟨ux, rfl⟩ := after hx; clear hx) | fail)
  exact bodyPost_ret (v := .tuple #[mv 5 (c) (c), .int .i64 0]) (by simp [results, Tryd.results34, go_sem]) rfl ⟨rfl, (by repeat first | (with_reducible exact Below.refl _ _) | (with_reducible refine below_on ?_ _) | (with_reducible refine below_alloc ?_ _) | (with_reducible refine below_set ?_ (by simp; try omega) _))⟩

set_option maxRecDepth 100000 in
set_option maxHeartbeats 2000000 in
theorem mof_4 (c : Int) (w : World) (h3 : -4096 ≤ c) (h4 : c ≤ 4096) : Calls Tryd.prog 34 #[ln 4 c] w fun e w' => e = .returned (.tuple #[mv 7 (-c) (c), .int .i64 0]) ∧ Below w.heap.size w w' := by
  go_enter Tryd.func34, Tryd.ntmps34
  go_wp2_with (first | (go_at_call 42; with_reducible refine (check_ok 4 c _ (by omega) (by omega) h3 h4).mono ?_; rintro e wx ⟨rfl, hx⟩; obtain ⟨ux, rfl⟩ := after hx; clear hx) | fail)
  exact bodyPost_ret (v := .tuple #[mv 7 (-c) (c), .int .i64 0]) (by simp [results, Tryd.results34, go_sem]) rfl ⟨rfl, (by repeat first | (with_reducible exact Below.refl _ _) | (with_reducible refine below_on ?_ _) | (with_reducible refine below_alloc ?_ _) | (with_reducible refine below_set ?_ (by simp; try omega) _))⟩

set_option maxRecDepth 100000 in
set_option maxHeartbeats 2000000 in
theorem mof_bad (k c : Int) (w : World) (h : k < 1 ∨ 4 < k ∨ c < -4096 ∨ 4096 < c) : Calls Tryd.prog 34 #[ln k c] w fun e w' => e = .returned (.tuple #[mv 0 0 0, .int .i64 1]) ∧ Below w.heap.size w w' := by
  have H : Hid (k < 1 ∨ 4 < k ∨ c < -4096 ∨ 4096 < c) := h
  clear h
  go_enter Tryd.func34, Tryd.ntmps34
  go_wp2_with (first | (go_at_call 42; with_reducible refine (check_bad k c _ H.out).mono ?_; rintro e wx ⟨rfl, hx⟩; obtain ⟨ux, rfl⟩ := after hx; clear hx) | fail)
  exact bodyPost_ret (v := .tuple #[mv 0 0 0, .int .i64 1]) (by simp [results, Tryd.results34, go_sem]) rfl ⟨rfl, (by repeat first | (with_reducible exact Below.refl _ _) | (with_reducible refine below_on ?_ _) | (with_reducible refine below_alloc ?_ _) | (with_reducible refine below_set ?_ (by simp; try omega) _))⟩

set_option maxRecDepth 100000 in
set_option maxHeartbeats 2000000 in
theorem inHalves_any (t X Y : Int) (w : World) (a1 : 0 ≤ t) (a2 : t ≤ 7) (a3 : -16384 ≤ X) (a4 : X ≤ 16384) (a5 : -16384 ≤ Y) (a6 : Y ≤ 16384) : Calls Tryd.prog 80 #[mv t X Y] w fun e w' => e = .returned (.func (.func 59) #[mv t (2 * X) (2 * Y)] #[]) ∧ Below w.heap.size w w' := by
  go_enter Tryd.func80, Tryd.ntmps80
  go_wp2
  go_ret
  exact ⟨rfl, (by repeat first | (with_reducible exact Below.refl _ _) | (with_reducible refine below_on ?_ _) | (with_reducible refine below_alloc ?_ _) | (with_reducible refine below_set ?_ (by simp; try omega) _))⟩

set_option maxRecDepth 100000 in
set_option maxHeartbeats 2000000 in
theorem mpoint_ok (t X Y x y : Int) (w : World) (hU : Turns w) (a1 : 0 ≤ t) (a2 : t ≤ 7) (a3 : -16384 ≤ X) (a4 : X ≤ 16384) (a5 : -16384 ≤ Y) (a6 : Y ≤ 16384) (a7 : (X + Y) % 2 = 0) (p1 : -65536 ≤ x) (p2 : x ≤ 65536) (p3 : -65536 ≤ y) (p4 : y ≤ 65536) (q1 : -65536 ≤ (mvx t x y + 2 * X)) (q2 : (mvx t x y + 2 * X) ≤ 65536) (q3 : -65536 ≤ (mvy t x y + 2 * Y)) (q4 : (mvy t x y + 2 * Y) ≤ 65536) : Calls Tryd.prog 65 #[mv t X Y, pt x y] w fun e w' => e = .returned (.tuple #[pt (mvx t x y + 2 * X) (mvy t x y + 2 * Y), .int .i64 0]) ∧ Below w.heap.size w w' := by
  have hU' : ∀ W, Below w.heap.size w W → Turns W := fun W h => turns_below hU h
  have HA : Hid ((X + Y) % 2 = 0) := a7
  clear a7
  go_enter Tryd.func65, Tryd.ntmps65
  go_wp2_with (first | (go_at_call 52; with_reducible refine (mcheck_ok t X Y _ a1 a2 a3 a4 a5 a6 HA.out).mono ?_; rintro e wx ⟨rfl, hx⟩; obtain ⟨ux, rfl⟩ := after hx; clear hx) | (go_at_call 62; with_reducible refine (pcheck_ok x y _ p1 p2 p3 p4).mono ?_; rintro e wx ⟨rfl, hx⟩; obtain ⟨ux, rfl⟩ := after hx; clear hx) | (go_at_call 80; with_reducible refine (inHalves_any t X Y _ a1 a2 a3 a4 a5 a6).mono ?_; rintro e wx ⟨rfl, hx⟩; obtain ⟨ux, rfl⟩ := after hx; clear hx) | (go_at_call 59; with_reducible refine (take_any t (2 * X) (2 * Y) x y _ (hU' _ (by repeat first | (with_reducible exact Below.refl _ _) | (with_reducible refine below_on ?_ _) | (with_reducible refine below_alloc ?_ _) | (with_reducible refine below_set ?_ (by simp; try omega) _))) a1 a2 (by omega) (by omega) (by omega) (by omega) (by omega) (by omega) (by omega) (by omega)).mono ?_; rintro e wx ⟨rfl, hx⟩; obtain ⟨ux, rfl⟩ := after hx; clear hx) | fail)
  have hR : Below (((w.alloc (.cells #[.int .u8 t, .int .i64 X, .int .i64 Y] 54)).alloc (.cells #[.int .i64 x, .int .i64 y] 31)).alloc (.cells #[.int .i64 0, .int .i64 0] 31)).heap.size (((w.alloc (.cells #[.int .u8 t, .int .i64 X, .int .i64 Y] 54)).alloc (.cells #[.int .i64 x, .int .i64 y] 31)).alloc (.cells #[.int .i64 0, .int .i64 0] 31)) (on ux) := by repeat first | (with_reducible exact Below.refl _ _) | (with_reducible refine below_on ?_ _) | (with_reducible refine below_alloc ?_ _)
  have hB : Below w.heap.size w (on ux) := (by repeat first | (with_reducible exact Below.refl _ _) | (with_reducible refine below_on ?_ _) | (with_reducible refine below_alloc ?_ _) | (with_reducible refine below_set ?_ (by simp; try omega) _))
  have R0 : (on ux).cell? ⟨w.heap.size + 1 + 1, 0, none⟩ = some (.int .i64 0) := by rw [hR.cell (p := ⟨w.heap.size + 1 + 1, 0, none⟩) (by simp [World.size_alloc])]; simp [go_sem]
  have F0 : (on ux).frozen? ⟨w.heap.size + 1 + 1, 0, none⟩ = false := by rw [hR.frozen (p := ⟨w.heap.size + 1 + 1, 0, none⟩) (by simp [World.size_alloc])]; simp [go_sem]
  have R1 : (on ux).cell? ⟨w.heap.size + 1 + 1, 1, none⟩ = some (.int .i64 0) := by rw [hR.cell (p := ⟨w.heap.size + 1 + 1, 1, none⟩) (by simp [World.size_alloc])]; simp [go_sem]
  have F1 : (on ux).frozen? ⟨w.heap.size + 1 + 1, 1, none⟩ = false := by rw [hR.frozen (p := ⟨w.heap.size + 1 + 1, 1, none⟩) (by simp [World.size_alloc])]; simp [go_sem]
  clear hR
  generalize on ux = Wz at *
  clear ux
  go_wp2_with (first | (go_at_call 62; with_reducible refine (pcheck_ok (mvx t x y + 2 * X) (mvy t x y + 2 * Y) _ q1 q2 q3 q4).mono ?_; rintro e wx ⟨rfl, hx⟩; obtain ⟨ux, rfl⟩ := after hx; clear hx) | fail)
  exact bodyPost_ret (v := .tuple #[pt (mvx t x y + 2 * X) (mvy t x y + 2 * Y), .int .i64 0]) (by simp [results, Tryd.results65, go_sem, R0, R1]) rfl ⟨rfl, (by repeat first | (with_reducible exact Below.refl _ _) | (with_reducible exact hB) | (with_reducible refine below_on ?_ _) | (with_reducible refine below_alloc ?_ _) | (with_reducible refine below_set ?_ (by simp; try omega) _))⟩

set_option maxRecDepth 100000 in
set_option maxHeartbeats 2000000 in
theorem mpoint_far (t X Y x y : Int) (w : World) (hU : Turns w) (a1 : 0 ≤ t) (a2 : t ≤ 7) (a3 : -16384 ≤ X) (a4 : X ≤ 16384) (a5 : -16384 ≤ Y) (a6 : Y ≤ 16384) (a7 : (X + Y) % 2 = 0) (p1 : -65536 ≤ x) (p2 : x ≤ 65536) (p3 : -65536 ≤ y) (p4 : y ≤ 65536) (hq : mvx t x y + 2 * X < -65536 ∨ 65536 < mvx t x y + 2 * X ∨ mvy t x y + 2 * Y < -65536 ∨ 65536 < mvy t x y + 2 * Y) : Calls Tryd.prog 65 #[mv t X Y, pt x y] w fun e w' => e = .returned (.tuple #[pt 0 0, .int .i64 3]) ∧ Below w.heap.size w w' := by
  have hU' : ∀ W, Below w.heap.size w W → Turns W := fun W h => turns_below hU h
  have HA : Hid ((X + Y) % 2 = 0) := a7
  clear a7
  have HQ : Hid (mvx t x y + 2 * X < -65536 ∨ 65536 < mvx t x y + 2 * X ∨ mvy t x y + 2 * Y < -65536 ∨ 65536 < mvy t x y + 2 * Y) := hq
  clear hq
  go_enter Tryd.func65, Tryd.ntmps65
  go_wp2_with (first | (go_at_call 52; with_reducible refine (mcheck_ok t X Y _ a1 a2 a3 a4 a5 a6 HA.out).mono ?_; rintro e wx ⟨rfl, hx⟩; obtain ⟨ux, rfl⟩ := after hx; clear hx) | (go_at_call 62; with_reducible refine (pcheck_ok x y _ p1 p2 p3 p4).mono ?_; rintro e wx ⟨rfl, hx⟩; obtain ⟨ux, rfl⟩ := after hx; clear hx) | (go_at_call 80; with_reducible refine (inHalves_any t X Y _ a1 a2 a3 a4 a5 a6).mono ?_; rintro e wx ⟨rfl, hx⟩; obtain ⟨ux, rfl⟩ := after hx; clear hx) | (go_at_call 59; with_reducible refine (take_any t (2 * X) (2 * Y) x y _ (hU' _ (by repeat first | (with_reducible exact Below.refl _ _) | (with_reducible refine below_on ?_ _) | (with_reducible refine below_alloc ?_ _) | (with_reducible refine below_set ?_ (by simp; try omega) _))) a1 a2 (by omega) (by omega) (by omega) (by omega) (by omega) (by omega) (by omega) (by omega)).mono ?_; rintro e wx ⟨rfl, hx⟩; obtain ⟨ux, rfl⟩ := after hx; clear hx) | fail)
  have hR : Below (((w.alloc (.cells #[.int .u8 t, .int .i64 X, .int .i64 Y] 54)).alloc (.cells #[.int .i64 x, .int .i64 y] 31)).alloc (.cells #[.int .i64 0, .int .i64 0] 31)).heap.size (((w.alloc (.cells #[.int .u8 t, .int .i64 X, .int .i64 Y] 54)).alloc (.cells #[.int .i64 x, .int .i64 y] 31)).alloc (.cells #[.int .i64 0, .int .i64 0] 31)) (on ux) := by repeat first | (with_reducible exact Below.refl _ _) | (with_reducible refine below_on ?_ _) | (with_reducible refine below_alloc ?_ _)
  have hB : Below w.heap.size w (on ux) := (by repeat first | (with_reducible exact Below.refl _ _) | (with_reducible refine below_on ?_ _) | (with_reducible refine below_alloc ?_ _) | (with_reducible refine below_set ?_ (by simp; try omega) _))
  have R0 : (on ux).cell? ⟨w.heap.size + 1 + 1, 0, none⟩ = some (.int .i64 0) := by rw [hR.cell (p := ⟨w.heap.size + 1 + 1, 0, none⟩) (by simp [World.size_alloc])]; simp [go_sem]
  have F0 : (on ux).frozen? ⟨w.heap.size + 1 + 1, 0, none⟩ = false := by rw [hR.frozen (p := ⟨w.heap.size + 1 + 1, 0, none⟩) (by simp [World.size_alloc])]; simp [go_sem]
  have R1 : (on ux).cell? ⟨w.heap.size + 1 + 1, 1, none⟩ = some (.int .i64 0) := by rw [hR.cell (p := ⟨w.heap.size + 1 + 1, 1, none⟩) (by simp [World.size_alloc])]; simp [go_sem]
  have F1 : (on ux).frozen? ⟨w.heap.size + 1 + 1, 1, none⟩ = false := by rw [hR.frozen (p := ⟨w.heap.size + 1 + 1, 1, none⟩) (by simp [World.size_alloc])]; simp [go_sem]
  clear hR
  generalize on ux = Wz at *
  clear ux
  go_wp2_with (first | (go_at_call 62; with_reducible refine (pcheck_bad (mvx t x y + 2 * X) (mvy t x y + 2 * Y) _ HQ.out).mono ?_; rintro e wx ⟨rfl, hx⟩; obtain ⟨ux, rfl⟩ := after hx; clear hx) | fail)
  exact bodyPost_ret (v := .tuple #[pt 0 0, .int .i64 3]) (by simp [results, Tryd.results65, go_sem, R0, R1]) rfl ⟨rfl, (by repeat first | (with_reducible exact Below.refl _ _) | (with_reducible exact hB) | (with_reducible refine below_on ?_ _) | (with_reducible refine below_alloc ?_ _) | (with_reducible refine below_set ?_ (by simp; try omega) _))⟩

set_option maxRecDepth 100000 in
set_option maxHeartbeats 2000000 in
theorem mpoint_bad1 (t X Y x y : Int) (w : World) (h : 7 < t ∨ X < -16384 ∨ 16384 < X ∨ Y < -16384 ∨ 16384 < Y ∨ (X + Y) % 2 ≠ 0) : Calls Tryd.prog 65 #[mv t X Y, pt x y] w fun e w' => e = .returned (.tuple #[pt 0 0, .int .i64 1]) ∧ Below w.heap.size w w' := by
  have H : Hid (7 < t ∨ X < -16384 ∨ 16384 < X ∨ Y < -16384 ∨ 16384 < Y ∨ (X + Y) % 2 ≠ 0) := h
  clear h
  go_enter Tryd.func65, Tryd.ntmps65
  go_wp2_with (first | (go_at_call 52; with_reducible refine (mcheck_bad t X Y _ H.out).mono ?_; rintro e wx ⟨rfl, hx⟩; obtain ⟨ux, rfl⟩ := after hx; clear hx) | fail)
  exact bodyPost_ret (v := .tuple #[pt 0 0, .int .i64 1]) (by simp [results, Tryd.results65, go_sem]) rfl ⟨rfl, (by repeat first | (with_reducible exact Below.refl _ _) | (with_reducible refine below_on ?_ _) | (with_reducible refine below_alloc ?_ _) | (with_reducible refine below_set ?_ (by simp; try omega) _))⟩

set_option maxRecDepth 100000 in
set_option maxHeartbeats 2000000 in
theorem mpoint_bad2 (t X Y x y : Int) (w : World) (a1 : 0 ≤ t) (a2 : t ≤ 7) (a3 : -16384 ≤ X) (a4 : X ≤ 16384) (a5 : -16384 ≤ Y) (a6 : Y ≤ 16384) (a7 : (X + Y) % 2 = 0) (h : x < -65536 ∨ 65536 < x ∨ y < -65536 ∨ 65536 < y) : Calls Tryd.prog 65 #[mv t X Y, pt x y] w fun e w' => e = .returned (.tuple #[pt 0 0, .int .i64 1]) ∧ Below w.heap.size w w' := by
  have HA : Hid ((X + Y) % 2 = 0) := a7
  clear a7
  have H : Hid (x < -65536 ∨ 65536 < x ∨ y < -65536 ∨ 65536 < y) := h
  clear h
  go_enter Tryd.func65, Tryd.ntmps65
  go_wp2_with (first | (go_at_call 52; with_reducible refine (mcheck_ok t X Y _ a1 a2 a3 a4 a5 a6 HA.out).mono ?_; rintro e wx ⟨rfl, hx⟩; obtain ⟨ux, rfl⟩ := after hx; clear hx) | (go_at_call 62; with_reducible refine (pcheck_bad x y _ H.out).mono ?_; rintro e wx ⟨rfl, hx⟩; obtain ⟨ux, rfl⟩ := after hx; clear hx) | fail)
  exact bodyPost_ret (v := .tuple #[pt 0 0, .int .i64 1]) (by simp [results, Tryd.results65, go_sem]) rfl ⟨rfl, (by repeat first | (with_reducible exact Below.refl _ _) | (with_reducible refine below_on ?_ _) | (with_reducible refine below_alloc ?_ _) | (with_reducible refine below_set ?_ (by simp; try omega) _))⟩

end Go.Proofs.YtgkiliijefkcaaaDoor
