/-
  Says: what Check, Identity, Flips, and the small functions of package moves give.
-/
import Derived.Test.YtppjogagimflpaaGreatDoorMv1
set_option linter.unusedVariables false
set_option linter.unusedSimpArgs false
namespace Go.Proofs.YtppjogagimflpaaGreatDoor
open Go Go.RowKit

theorem tm_even (n : Int) (h : n % 2 = 0) : n.tmod 2 = 0 := by
  obtain ⟨m, rfl⟩ : ∃ m, n = 2 * m := ⟨n / 2, by omega⟩
  exact Int.mul_tmod_right _ _
theorem tm_odd (n : Int) (h : n % 2 ≠ 0) : n.tmod 2 ≠ 0 := fun e => by
  have := Int.dvd_of_tmod_eq_zero e
  omega
theorem tm_odd1 (n : Int) (h : n % 2 ≠ 0) : (n.tmod 2 == 0) = false := by simpa using tm_odd n h
theorem tm_odd2 (n : Int) (h : n % 2 ≠ 0) : (n.tmod 2 != 0) = true := by simpa using tm_odd n h
theorem eqt {A B : Int} (h : A = B) : (A == B) = true := by simpa using h
theorem eqf {A B : Int} (h : A ≠ B) : (A == B) = false := by simpa using h
theorem td2 {A m : Int} (h : A = 2 * m) : A.tdiv 2 = m := by rw [h]; exact Int.mul_tdiv_cancel_left _ (by decide)

set_option maxRecDepth 100000 in
set_option maxHeartbeats 800000 in
theorem mcheck_ok (t X Y : Int) (w : World) (a1 : 0 ≤ t) (a2 : t ≤ 7) (a3 : -16384 ≤ X) (a4 : X ≤ 16384) (a5 : -16384 ≤ Y) (a6 : Y ≤ 16384) (a7 : (X + Y) % 2 = 0) : Calls Tryz.prog 24 #[mv t X Y] w fun e w' => e = .returned (.int .i64 0) ∧ Below w.heap.size w w' := by
  have p0 : (X + Y).tmod 2 = 0 := tm_even _ a7
  clear a7
  go_enter Tryz.func24, Tryz.ntmps24
  go_wp2
  go_ret
  exact ⟨rfl, (by repeat first | (with_reducible exact Below.refl _ _) | (with_reducible refine below_on ?_ _) | (with_reducible refine below_alloc ?_ _) | (with_reducible refine below_set ?_ (by simp; try omega) _))⟩

set_option maxRecDepth 100000 in
set_option maxHeartbeats 800000 in
theorem mcheck_bad (t X Y : Int) (w : World) (h : 7 < t ∨ X < -16384 ∨ 16384 < X ∨ Y < -16384 ∨ 16384 < Y ∨ (X + Y) % 2 ≠ 0) : Calls Tryz.prog 24 #[mv t X Y] w fun e w' => e = .returned (.int .i64 1) ∧ Below w.heap.size w w' := by
  by_cases c1 : 7 < t
  · clear h
    go_enter Tryz.func24, Tryz.ntmps24
    go_wp2
    go_ret
    exact ⟨rfl, (by repeat first | (with_reducible exact Below.refl _ _) | (with_reducible refine below_on ?_ _) | (with_reducible refine below_alloc ?_ _) | (with_reducible refine below_set ?_ (by simp; try omega) _))⟩
  have d1 : t ≤ 7 := by omega
  by_cases c2 : X < -16384
  · clear h
    go_enter Tryz.func24, Tryz.ntmps24
    go_wp2
    go_ret
    exact ⟨rfl, (by repeat first | (with_reducible exact Below.refl _ _) | (with_reducible refine below_on ?_ _) | (with_reducible refine below_alloc ?_ _) | (with_reducible refine below_set ?_ (by simp; try omega) _))⟩
  have d2 : -16384 ≤ X := by omega
  by_cases c3 : 16384 < X
  · clear h
    go_enter Tryz.func24, Tryz.ntmps24
    go_wp2
    go_ret
    exact ⟨rfl, (by repeat first | (with_reducible exact Below.refl _ _) | (with_reducible refine below_on ?_ _) | (with_reducible refine below_alloc ?_ _) | (with_reducible refine below_set ?_ (by simp; try omega) _))⟩
  have d3 : X ≤ 16384 := by omega
  by_cases c4 : Y < -16384
  · clear h
    go_enter Tryz.func24, Tryz.ntmps24
    go_wp2
    go_ret
    exact ⟨rfl, (by repeat first | (with_reducible exact Below.refl _ _) | (with_reducible refine below_on ?_ _) | (with_reducible refine below_alloc ?_ _) | (with_reducible refine below_set ?_ (by simp; try omega) _))⟩
  have d4 : -16384 ≤ Y := by omega
  by_cases c5 : 16384 < Y
  · clear h
    go_enter Tryz.func24, Tryz.ntmps24
    go_wp2
    go_ret
    exact ⟨rfl, (by repeat first | (with_reducible exact Below.refl _ _) | (with_reducible refine below_on ?_ _) | (with_reducible refine below_alloc ?_ _) | (with_reducible refine below_set ?_ (by simp; try omega) _))⟩
  have d5 : Y ≤ 16384 := by omega
  have c6 : (X + Y) % 2 ≠ 0 := by omega
  have p1 := tm_odd1 _ c6
  have p2 := tm_odd2 _ c6
  clear h c1 c2 c3 c4 c5 c6
  go_enter Tryz.func24, Tryz.ntmps24
  go_wp2
  go_ret
  exact ⟨rfl, (by repeat first | (with_reducible exact Below.refl _ _) | (with_reducible refine below_on ?_ _) | (with_reducible refine below_alloc ?_ _) | (with_reducible refine below_set ?_ (by simp; try omega) _))⟩


theorem take_any (t X Y x y : Int) (w : World) (hU : Turns w) (a1 : 0 ≤ t) (a2 : t ≤ 7) (x1 : -1000000 ≤ x) (x2 : x ≤ 1000000) (y1 : -1000000 ≤ y) (y2 : y ≤ 1000000) (b1 : -1000000 ≤ X) (b2 : X ≤ 1000000) (b3 : -1000000 ≤ Y) (b4 : Y ≤ 1000000) :
    Calls Tryz.prog 42 #[mv t X Y, pt x y] w fun e w' => e = .returned (pt (mvx t x y + X) (mvy t x y + Y)) ∧ Below w.heap.size w w' := by
  obtain rfl | rfl | rfl | rfl | rfl | rfl | rfl | rfl : t = 0 ∨ t = 1 ∨ t = 2 ∨ t = 3 ∨ t = 4 ∨ t = 5 ∨ t = 6 ∨ t = 7 := by omega
  · exact take_0 X Y x y w hU x1 x2 y1 y2 b1 b2 b3 b4
  · exact take_1 X Y x y w hU x1 x2 y1 y2 b1 b2 b3 b4
  · exact take_2 X Y x y w hU x1 x2 y1 y2 b1 b2 b3 b4
  · exact take_3 X Y x y w hU x1 x2 y1 y2 b1 b2 b3 b4
  · exact take_4 X Y x y w hU x1 x2 y1 y2 b1 b2 b3 b4
  · exact take_5 X Y x y w hU x1 x2 y1 y2 b1 b2 b3 b4
  · exact take_6 X Y x y w hU x1 x2 y1 y2 b1 b2 b3 b4
  · exact take_7 X Y x y w hU x1 x2 y1 y2 b1 b2 b3 b4

theorem ident_any (w : World) : Calls Tryz.prog 22 #[] w fun e w' => e = .returned (mv 0 0 0) ∧ Below w.heap.size w w' := by
  go_enter Tryz.func22, Tryz.ntmps22
  go_wp2
  exact bodyPost_ret (v := mv 0 0 0) (by simp [results, Tryz.results22, go_sem]) rfl ⟨rfl, (by repeat first | (with_reducible exact Below.refl _ _) | (with_reducible refine below_on ?_ _) | (with_reducible refine below_alloc ?_ _) | (with_reducible refine below_set ?_ (by simp; try omega) _))⟩

theorem tback_0 (w : World) : Calls Tryz.prog 47 #[.int .u8 0] w fun e w' => e = .returned (.int .u8 (invT 0)) ∧ Below w.heap.size w w' := by
  rw [invT0]
  go_enter Tryz.func47, Tryz.ntmps47
  go_wp2
  go_ret
  exact ⟨rfl, (by repeat first | (with_reducible exact Below.refl _ _) | (with_reducible refine below_on ?_ _) | (with_reducible refine below_alloc ?_ _) | (with_reducible refine below_set ?_ (by simp; try omega) _))⟩

theorem tback_1 (w : World) : Calls Tryz.prog 47 #[.int .u8 1] w fun e w' => e = .returned (.int .u8 (invT 1)) ∧ Below w.heap.size w w' := by
  rw [invT1]
  go_enter Tryz.func47, Tryz.ntmps47
  go_wp2
  go_ret
  exact ⟨rfl, (by repeat first | (with_reducible exact Below.refl _ _) | (with_reducible refine below_on ?_ _) | (with_reducible refine below_alloc ?_ _) | (with_reducible refine below_set ?_ (by simp; try omega) _))⟩

theorem tback_2 (w : World) : Calls Tryz.prog 47 #[.int .u8 2] w fun e w' => e = .returned (.int .u8 (invT 2)) ∧ Below w.heap.size w w' := by
  rw [invT2]
  go_enter Tryz.func47, Tryz.ntmps47
  go_wp2
  go_ret
  exact ⟨rfl, (by repeat first | (with_reducible exact Below.refl _ _) | (with_reducible refine below_on ?_ _) | (with_reducible refine below_alloc ?_ _) | (with_reducible refine below_set ?_ (by simp; try omega) _))⟩

theorem tback_3 (w : World) : Calls Tryz.prog 47 #[.int .u8 3] w fun e w' => e = .returned (.int .u8 (invT 3)) ∧ Below w.heap.size w w' := by
  rw [invT3]
  go_enter Tryz.func47, Tryz.ntmps47
  go_wp2
  go_ret
  exact ⟨rfl, (by repeat first | (with_reducible exact Below.refl _ _) | (with_reducible refine below_on ?_ _) | (with_reducible refine below_alloc ?_ _) | (with_reducible refine below_set ?_ (by simp; try omega) _))⟩

theorem tback_4 (w : World) : Calls Tryz.prog 47 #[.int .u8 4] w fun e w' => e = .returned (.int .u8 (invT 4)) ∧ Below w.heap.size w w' := by
  rw [invT4]
  go_enter Tryz.func47, Tryz.ntmps47
  go_wp2
  go_ret
  exact ⟨rfl, (by repeat first | (with_reducible exact Below.refl _ _) | (with_reducible refine below_on ?_ _) | (with_reducible refine below_alloc ?_ _) | (with_reducible refine below_set ?_ (by simp; try omega) _))⟩

theorem tback_5 (w : World) : Calls Tryz.prog 47 #[.int .u8 5] w fun e w' => e = .returned (.int .u8 (invT 5)) ∧ Below w.heap.size w w' := by
  rw [invT5]
  go_enter Tryz.func47, Tryz.ntmps47
  go_wp2
  go_ret
  exact ⟨rfl, (by repeat first | (with_reducible exact Below.refl _ _) | (with_reducible refine below_on ?_ _) | (with_reducible refine below_alloc ?_ _) | (with_reducible refine below_set ?_ (by simp; try omega) _))⟩

theorem tback_6 (w : World) : Calls Tryz.prog 47 #[.int .u8 6] w fun e w' => e = .returned (.int .u8 (invT 6)) ∧ Below w.heap.size w w' := by
  rw [invT6]
  go_enter Tryz.func47, Tryz.ntmps47
  go_wp2
  go_ret
  exact ⟨rfl, (by repeat first | (with_reducible exact Below.refl _ _) | (with_reducible refine below_on ?_ _) | (with_reducible refine below_alloc ?_ _) | (with_reducible refine below_set ?_ (by simp; try omega) _))⟩

theorem tback_7 (w : World) : Calls Tryz.prog 47 #[.int .u8 7] w fun e w' => e = .returned (.int .u8 (invT 7)) ∧ Below w.heap.size w w' := by
  rw [invT7]
  go_enter Tryz.func47, Tryz.ntmps47
  go_wp2
  go_ret
  exact ⟨rfl, (by repeat first | (with_reducible exact Below.refl _ _) | (with_reducible refine below_on ?_ _) | (with_reducible refine below_alloc ?_ _) | (with_reducible refine below_set ?_ (by simp; try omega) _))⟩

theorem tback_any (t : Int) (w : World) (a1 : 0 ≤ t) (a2 : t ≤ 7) : Calls Tryz.prog 47 #[.int .u8 t] w fun e w' => e = .returned (.int .u8 (invT t)) ∧ Below w.heap.size w w' := by
  obtain rfl | rfl | rfl | rfl | rfl | rfl | rfl | rfl : t = 0 ∨ t = 1 ∨ t = 2 ∨ t = 3 ∨ t = 4 ∨ t = 5 ∨ t = 6 ∨ t = 7 := by omega
  · exact tback_0 w
  · exact tback_1 w
  · exact tback_2 w
  · exact tback_3 w
  · exact tback_4 w
  · exact tback_5 w
  · exact tback_6 w
  · exact tback_7 w

set_option maxRecDepth 100000 in
set_option maxHeartbeats 800000 in
theorem mlim_ok (t X Y : Int) (w : World) (a1 : 0 ≤ t) (a2 : t ≤ 7) (a3 : -16384 ≤ X) (a4 : X ≤ 16384) (a5 : -16384 ≤ Y) (a6 : Y ≤ 16384) (a7 : (X + Y) % 2 = 0) : Calls Tryz.prog 40 #[mv t X Y] w fun e w' => e = .returned (.tuple #[mv t X Y, .int .i64 0]) ∧ Below w.heap.size w w' := by
  have HP : Hid ((X + Y) % 2 = 0) := a7
  clear a7
  go_enter Tryz.func40, Tryz.ntmps40
  go_wp2_with (first | (go_at_call 24; with_reducible refine (mcheck_ok t X Y _ a1 a2 a3 a4 a5 a6 HP.out).mono ?_; rintro e wx ⟨rfl, hx⟩; obtain ⟨ux, rfl⟩ := after hx; clear hx) | fail)
  exact bodyPost_ret (v := .tuple #[mv t X Y, .int .i64 0]) (by simp [results, Tryz.results40, go_sem]) rfl ⟨rfl, (by repeat first | (with_reducible exact Below.refl _ _) | (with_reducible refine below_on ?_ _) | (with_reducible refine below_alloc ?_ _) | (with_reducible refine below_set ?_ (by simp; try omega) _))⟩
set_option maxRecDepth 100000 in
set_option maxHeartbeats 800000 in
theorem mlim_bad (t X Y : Int) (w : World) (h : 7 < t ∨ X < -16384 ∨ 16384 < X ∨ Y < -16384 ∨ 16384 < Y ∨ (X + Y) % 2 ≠ 0) : Calls Tryz.prog 40 #[mv t X Y] w fun e w' => e = .returned (.tuple #[mv 0 0 0, .int .i64 3]) ∧ Below w.heap.size w w' := by
  have H : Hid (7 < t ∨ X < -16384 ∨ 16384 < X ∨ Y < -16384 ∨ 16384 < Y ∨ (X + Y) % 2 ≠ 0) := h
  clear h
  go_enter Tryz.func40, Tryz.ntmps40
  go_wp2_with (first | (go_at_call 24; with_reducible refine (mcheck_bad t X Y _ H.out).mono ?_; rintro e wx ⟨rfl, hx⟩; obtain ⟨ux, rfl⟩ := after hx; clear hx) | fail)
  exact bodyPost_ret (v := .tuple #[mv 0 0 0, .int .i64 3]) (by simp [results, Tryz.results40, go_sem]) rfl ⟨rfl, (by repeat first | (with_reducible exact Below.refl _ _) | (with_reducible refine below_on ?_ _) | (with_reducible refine below_alloc ?_ _) | (with_reducible refine below_set ?_ (by simp; try omega) _))⟩
set_option maxRecDepth 100000 in
set_option maxHeartbeats 800000 in
theorem flips_ok (t X Y : Int) (w : World) (a1 : 0 ≤ t) (a2 : t ≤ 7) (a3 : -16384 ≤ X) (a4 : X ≤ 16384) (a5 : -16384 ≤ Y) (a6 : Y ≤ 16384) (a7 : (X + Y) % 2 = 0) : Calls Tryz.prog 23 #[mv t X Y] w fun e w' => e = .returned (.bool (decide (4 ≤ t))) ∧ Below w.heap.size w w' := by
  have HP : Hid ((X + Y) % 2 = 0) := a7
  clear a7
  go_enter Tryz.func23, Tryz.ntmps23
  go_wp2_with (first | (go_at_call 24; with_reducible refine (mcheck_ok t X Y _ a1 a2 a3 a4 a5 a6 HP.out).mono ?_; rintro e wx ⟨rfl, hx⟩; obtain ⟨ux, rfl⟩ := after hx; clear hx) | fail)
  go_ret
  exact ⟨rfl, (by repeat first | (with_reducible exact Below.refl _ _) | (with_reducible refine below_on ?_ _) | (with_reducible refine below_alloc ?_ _) | (with_reducible refine below_set ?_ (by simp; try omega) _))⟩
set_option maxRecDepth 100000 in
set_option maxHeartbeats 800000 in
theorem flips_bad (t X Y : Int) (w : World) (h : 7 < t ∨ X < -16384 ∨ 16384 < X ∨ Y < -16384 ∨ 16384 < Y ∨ (X + Y) % 2 ≠ 0) : Calls Tryz.prog 23 #[mv t X Y] w fun e w' => e = .returned (.bool false) ∧ Below w.heap.size w w' := by
  have H : Hid (7 < t ∨ X < -16384 ∨ 16384 < X ∨ Y < -16384 ∨ 16384 < Y ∨ (X + Y) % 2 ≠ 0) := h
  clear h
  go_enter Tryz.func23, Tryz.ntmps23
  go_wp2_with (first | (go_at_call 24; with_reducible refine (mcheck_bad t X Y _ H.out).mono ?_; rintro e wx ⟨rfl, hx⟩; obtain ⟨ux, rfl⟩ := after hx; clear hx) | fail)
  go_ret
  exact ⟨rfl, (by repeat first | (with_reducible exact Below.refl _ _) | (with_reducible refine below_on ?_ _) | (with_reducible refine below_alloc ?_ _) | (with_reducible refine below_set ?_ (by simp; try omega) _))⟩

end Go.Proofs.YtppjogagimflpaaGreatDoor
