/-
  Says: what Then gives for every two moves.
-/
import Derived.Test.YtgkiliijefkcaaaDoorMv4
import Derived.Test.YtgkiliijefkcaaaDoorMvz
import Derived.Deep.RegionHeld3
import Derived.RowKit3
set_option linter.unusedVariables false
set_option linter.unusedSimpArgs false
namespace Go.Proofs.YtgkiliijefkcaaaDoor
open Go Go.RowKit

attribute [local go_sem] World.cell?_alloc_some frozen?_alloc_cells fz0 fz1 fz2 fz3 fz4 fz5

set_option maxRecDepth 100000 in
set_option maxHeartbeats 2000000 in
theorem then_ok (s X Y t U V : Int) (w : World) (hU : Turns w) (a1 : 0 ≤ s) (a2 : s ≤ 7) (a3 : -16384 ≤ X) (a4 : X ≤ 16384) (a5 : -16384 ≤ Y) (a6 : Y ≤ 16384) (a7 : (X + Y) % 2 = 0) (b1 : 0 ≤ t) (b2 : t ≤ 7) (b3 : -16384 ≤ U) (b4 : U ≤ 16384) (b5 : -16384 ≤ V) (b6 : V ≤ 16384) (b7 : (U + V) % 2 = 0) (c1 : -16384 ≤ mvx t X Y + U) (c2 : mvx t X Y + U ≤ 16384) (c3 : -16384 ≤ mvy t X Y + V) (c4 : mvy t X Y + V ≤ 16384) : Calls Tryd.prog 35 #[mv s X Y, mv t U V] w fun e w' => e = .returned (.tuple #[mv (mulT s t) (mvx t X Y + U) (mvy t X Y + V), .int .i64 0]) ∧ Below w.heap.size w w' := by
  have hU' : ∀ W, Below w.heap.size w W → Turns W := fun W h => turns_below hU h
  have c7 : ((mvx t X Y + U) + (mvy t X Y + V)) % 2 = 0 := by
    have := mv_par t X Y b1 b2
    omega
  have cr := mulT_range s t a1 a2 b1 b2
  have HR : Hid (0 ≤ mulT s t ∧ mulT s t ≤ 7) := cr
  clear cr
  have HA : Hid ((X + Y) % 2 = 0) := a7
  clear a7
  have HB : Hid ((U + V) % 2 = 0) := b7
  clear b7
  have HC : Hid (((mvx t X Y + U) + (mvy t X Y + V)) % 2 = 0) := c7
  clear c7
  go_enter Tryd.func35, Tryd.ntmps35
  go_wp2_with (first | (go_at_call 52; with_reducible refine (mcheck_ok s X Y _ a1 a2 a3 a4 a5 a6 HA.out).mono ?_; rintro e wx ⟨rfl, hx⟩; obtain ⟨ux, rfl⟩ := after hx; clear hx) | (go_at_call 52; with_reducible refine (mcheck_ok t U V _ b1 b2 b3 b4 b5 b6 HB.out).mono ?_; rintro e wx ⟨rfl, hx⟩; obtain ⟨ux, rfl⟩ := after hx; clear hx) | (go_at_call 58; with_reducible refine (chain_any s X Y t U V _ _ (hU' _ (by repeat first | (with_reducible exact Below.refl _ _) | (with_reducible refine below_on ?_ _) | (with_reducible refine below_alloc ?_ _) | (with_reducible refine below_set ?_ (by simp; try omega) _))) (by first | exact heap_alloc_new _ _ | exact heap_alloc2_new _ _ _) a1 a2 b1 b2 (by omega) (by omega) (by omega) (by omega) (by omega) (by omega) (by omega) (by omega)).mono ?_; rintro e wx ⟨rfl, hx⟩; obtain ⟨ux, rfl⟩ := after hx; clear hx) | fail)
  have hR : Below (((w.alloc (.cells #[.int .u8 s, .int .i64 X, .int .i64 Y] 54)).alloc (.cells #[.int .u8 t, .int .i64 U, .int .i64 V] 54)).alloc (.cells #[.int .u8 0, .int .i64 0, .int .i64 0] 54)).heap.size (((w.alloc (.cells #[.int .u8 s, .int .i64 X, .int .i64 Y] 54)).alloc (.cells #[.int .u8 t, .int .i64 U, .int .i64 V] 54)).alloc (.cells #[.int .u8 0, .int .i64 0, .int .i64 0] 54)) (on ux) := by repeat first | (with_reducible exact Below.refl _ _) | (with_reducible refine below_on ?_ _) | (with_reducible refine below_alloc ?_ _)
  have hB : Below w.heap.size w (on ux) := (by repeat first | (with_reducible exact Below.refl _ _) | (with_reducible refine below_on ?_ _) | (with_reducible refine below_alloc ?_ _) | (with_reducible refine below_set ?_ (by simp; try omega) _))
  have R0 : (on ux).cell? ⟨w.heap.size + 1 + 1, 0, none⟩ = some (.int .u8 0) := by rw [hR.cell (p := ⟨w.heap.size + 1 + 1, 0, none⟩) (by simp [World.size_alloc])]; simp [go_sem]
  have F0 : (on ux).frozen? ⟨w.heap.size + 1 + 1, 0, none⟩ = false := by rw [hR.frozen (p := ⟨w.heap.size + 1 + 1, 0, none⟩) (by simp [World.size_alloc])]; simp [go_sem]
  have R1 : (on ux).cell? ⟨w.heap.size + 1 + 1, 1, none⟩ = some (.int .i64 0) := by rw [hR.cell (p := ⟨w.heap.size + 1 + 1, 1, none⟩) (by simp [World.size_alloc])]; simp [go_sem]
  have F1 : (on ux).frozen? ⟨w.heap.size + 1 + 1, 1, none⟩ = false := by rw [hR.frozen (p := ⟨w.heap.size + 1 + 1, 1, none⟩) (by simp [World.size_alloc])]; simp [go_sem]
  have R2 : (on ux).cell? ⟨w.heap.size + 1 + 1, 2, none⟩ = some (.int .i64 0) := by rw [hR.cell (p := ⟨w.heap.size + 1 + 1, 2, none⟩) (by simp [World.size_alloc])]; simp [go_sem]
  have F2 : (on ux).frozen? ⟨w.heap.size + 1 + 1, 2, none⟩ = false := by rw [hR.frozen (p := ⟨w.heap.size + 1 + 1, 2, none⟩) (by simp [World.size_alloc])]; simp [go_sem]
  clear hR
  generalize on ux = Wz at *
  clear ux
  go_wp2_with (first | (go_at_call 57; with_reducible refine (mlim_ok (mulT s t) (mvx t X Y + U) (mvy t X Y + V) _ HR.out.1 HR.out.2 c1 c2 c3 c4 HC.out).mono ?_; rintro e wx ⟨rfl, hx⟩; obtain ⟨ux, rfl⟩ := after hx; clear hx) | fail)
  exact bodyPost_ret (v := .tuple #[mv (mulT s t) (mvx t X Y + U) (mvy t X Y + V), .int .i64 0]) (by simp [results, Tryd.results35, go_sem, R0, R1, R2]) rfl ⟨rfl, (by repeat first | (with_reducible exact Below.refl _ _) | (with_reducible exact hB) | (with_reducible refine below_on ?_ _) | (with_reducible refine below_alloc ?_ _) | (with_reducible refine below_set ?_ (by simp; try omega) _))⟩

set_option maxRecDepth 100000 in
set_option maxHeartbeats 2000000 in
theorem then_far (s X Y t U V : Int) (w : World) (hU : Turns w) (a1 : 0 ≤ s) (a2 : s ≤ 7) (a3 : -16384 ≤ X) (a4 : X ≤ 16384) (a5 : -16384 ≤ Y) (a6 : Y ≤ 16384) (a7 : (X + Y) % 2 = 0) (b1 : 0 ≤ t) (b2 : t ≤ 7) (b3 : -16384 ≤ U) (b4 : U ≤ 16384) (b5 : -16384 ≤ V) (b6 : V ≤ 16384) (b7 : (U + V) % 2 = 0) (hc : mvx t X Y + U < -16384 ∨ 16384 < mvx t X Y + U ∨ mvy t X Y + V < -16384 ∨ 16384 < mvy t X Y + V) : Calls Tryd.prog 35 #[mv s X Y, mv t U V] w fun e w' => e = .returned (.tuple #[mv 0 0 0, .int .i64 3]) ∧ Below w.heap.size w w' := by
  have hU' : ∀ W, Below w.heap.size w W → Turns W := fun W h => turns_below hU h
  have HA : Hid ((X + Y) % 2 = 0) := a7
  clear a7
  have HB : Hid ((U + V) % 2 = 0) := b7
  clear b7
  have HC : Hid (mvx t X Y + U < -16384 ∨ 16384 < mvx t X Y + U ∨ mvy t X Y + V < -16384 ∨ 16384 < mvy t X Y + V) := hc
  clear hc
  go_enter Tryd.func35, Tryd.ntmps35
  go_wp2_with (first | (go_at_call 52; with_reducible refine (mcheck_ok s X Y _ a1 a2 a3 a4 a5 a6 HA.out).mono ?_; rintro e wx ⟨rfl, hx⟩; obtain ⟨ux, rfl⟩ := after hx; clear hx) | (go_at_call 52; with_reducible refine (mcheck_ok t U V _ b1 b2 b3 b4 b5 b6 HB.out).mono ?_; rintro e wx ⟨rfl, hx⟩; obtain ⟨ux, rfl⟩ := after hx; clear hx) | (go_at_call 58; with_reducible refine (chain_any s X Y t U V _ _ (hU' _ (by repeat first | (with_reducible exact Below.refl _ _) | (with_reducible refine below_on ?_ _) | (with_reducible refine below_alloc ?_ _) | (with_reducible refine below_set ?_ (by simp; try omega) _))) (by first | exact heap_alloc_new _ _ | exact heap_alloc2_new _ _ _) a1 a2 b1 b2 (by omega) (by omega) (by omega) (by omega) (by omega) (by omega) (by omega) (by omega)).mono ?_; rintro e wx ⟨rfl, hx⟩; obtain ⟨ux, rfl⟩ := after hx; clear hx) | fail)
  have hR : Below (((w.alloc (.cells #[.int .u8 s, .int .i64 X, .int .i64 Y] 54)).alloc (.cells #[.int .u8 t, .int .i64 U, .int .i64 V] 54)).alloc (.cells #[.int .u8 0, .int .i64 0, .int .i64 0] 54)).heap.size (((w.alloc (.cells #[.int .u8 s, .int .i64 X, .int .i64 Y] 54)).alloc (.cells #[.int .u8 t, .int .i64 U, .int .i64 V] 54)).alloc (.cells #[.int .u8 0, .int .i64 0, .int .i64 0] 54)) (on ux) := by repeat first | (with_reducible exact Below.refl _ _) | (with_reducible refine below_on ?_ _) | (with_reducible refine below_alloc ?_ _)
  have hB : Below w.heap.size w (on ux) := (by repeat first | (with_reducible exact Below.refl _ _) | (with_reducible refine below_on ?_ _) | (with_reducible refine below_alloc ?_ _) | (with_reducible refine below_set ?_ (by simp; try omega) _))
  have R0 : (on ux).cell? ⟨w.heap.size + 1 + 1, 0, none⟩ = some (.int .u8 0) := by rw [hR.cell (p := ⟨w.heap.size + 1 + 1, 0, none⟩) (by simp [World.size_alloc])]; simp [go_sem]
  have F0 : (on ux).frozen? ⟨w.heap.size + 1 + 1, 0, none⟩ = false := by rw [hR.frozen (p := ⟨w.heap.size + 1 + 1, 0, none⟩) (by simp [World.size_alloc])]; simp [go_sem]
  have R1 : (on ux).cell? ⟨w.heap.size + 1 + 1, 1, none⟩ = some (.int .i64 0) := by rw [hR.cell (p := ⟨w.heap.size + 1 + 1, 1, none⟩) (by simp [World.size_alloc])]; simp [go_sem]
  have F1 : (on ux).frozen? ⟨w.heap.size + 1 + 1, 1, none⟩ = false := by rw [hR.frozen (p := ⟨w.heap.size + 1 + 1, 1, none⟩) (by simp [World.size_alloc])]; simp [go_sem]
  have R2 : (on ux).cell? ⟨w.heap.size + 1 + 1, 2, none⟩ = some (.int .i64 0) := by rw [hR.cell (p := ⟨w.heap.size + 1 + 1, 2, none⟩) (by simp [World.size_alloc])]; simp [go_sem]
  have F2 : (on ux).frozen? ⟨w.heap.size + 1 + 1, 2, none⟩ = false := by rw [hR.frozen (p := ⟨w.heap.size + 1 + 1, 2, none⟩) (by simp [World.size_alloc])]; simp [go_sem]
  clear hR
  generalize on ux = Wz at *
  clear ux
  go_wp2_with (first | (go_at_call 57; with_reducible refine (mlim_bad (mulT s t) (mvx t X Y + U) (mvy t X Y + V) _ (by have := HC.out; omega)).mono ?_; rintro e wx ⟨rfl, hx⟩; obtain ⟨ux, rfl⟩ := after hx; clear hx) | fail)
  exact bodyPost_ret (v := .tuple #[mv 0 0 0, .int .i64 3]) (by simp [results, Tryd.results35, go_sem, R0, R1, R2]) rfl ⟨rfl, (by repeat first | (with_reducible exact Below.refl _ _) | (with_reducible exact hB) | (with_reducible refine below_on ?_ _) | (with_reducible refine below_alloc ?_ _) | (with_reducible refine below_set ?_ (by simp; try omega) _))⟩

set_option maxRecDepth 100000 in
set_option maxHeartbeats 2000000 in
theorem then_bad1 (s X Y t U V : Int) (w : World) (h : 7 < s ∨ X < -16384 ∨ 16384 < X ∨ Y < -16384 ∨ 16384 < Y ∨ (X + Y) % 2 ≠ 0) : Calls Tryd.prog 35 #[mv s X Y, mv t U V] w fun e w' => e = .returned (.tuple #[mv 0 0 0, .int .i64 1]) ∧ Below w.heap.size w w' := by
  have H : Hid (7 < s ∨ X < -16384 ∨ 16384 < X ∨ Y < -16384 ∨ 16384 < Y ∨ (X + Y) % 2 ≠ 0) := h
  clear h
  go_enter Tryd.func35, Tryd.ntmps35
  go_wp2_with (first | (go_at_call 52; with_reducible refine (mcheck_bad s X Y _ H.out).mono ?_; rintro e wx ⟨rfl, hx⟩; obtain ⟨ux, rfl⟩ := after hx; clear hx) | fail)
  exact bodyPost_ret (v := .tuple #[mv 0 0 0, .int .i64 1]) (by simp [results, Tryd.results35, go_sem]) rfl ⟨rfl, (by repeat first | (with_reducible exact Below.refl _ _) | (with_reducible refine below_on ?_ _) | (with_reducible refine below_alloc ?_ _) | (with_reducible refine below_set ?_ (by simp; try omega) _))⟩

set_option maxRecDepth 100000 in
set_option maxHeartbeats 2000000 in
theorem then_bad2 (s X Y t U V : Int) (w : World) (a1 : 0 ≤ s) (a2 : s ≤ 7) (a3 : -16384 ≤ X) (a4 : X ≤ 16384) (a5 : -16384 ≤ Y) (a6 : Y ≤ 16384) (a7 : (X + Y) % 2 = 0) (h : 7 < t ∨ U < -16384 ∨ 16384 < U ∨ V < -16384 ∨ 16384 < V ∨ (U + V) % 2 ≠ 0) : Calls Tryd.prog 35 #[mv s X Y, mv t U V] w fun e w' => e = .returned (.tuple #[mv 0 0 0, .int .i64 1]) ∧ Below w.heap.size w w' := by
  have HA : Hid ((X + Y) % 2 = 0) := a7
  clear a7
  have H : Hid (7 < t ∨ U < -16384 ∨ 16384 < U ∨ V < -16384 ∨ 16384 < V ∨ (U + V) % 2 ≠ 0) := h
  clear h
  go_enter Tryd.func35, Tryd.ntmps35
  go_wp2_with (first | (go_at_call 52; with_reducible refine (mcheck_ok s X Y _ a1 a2 a3 a4 a5 a6 HA.out).mono ?_; rintro e wx ⟨rfl, hx⟩; obtain ⟨ux, rfl⟩ := after hx; clear hx) | (go_at_call 52; with_reducible refine (mcheck_bad t U V _ H.out).mono ?_; rintro e wx ⟨rfl, hx⟩; obtain ⟨ux, rfl⟩ := after hx; clear hx) | fail)
  exact bodyPost_ret (v := .tuple #[mv 0 0 0, .int .i64 1]) (by simp [results, Tryd.results35, go_sem]) rfl ⟨rfl, (by repeat first | (with_reducible exact Below.refl _ _) | (with_reducible refine below_on ?_ _) | (with_reducible refine below_alloc ?_ _) | (with_reducible refine below_set ?_ (by simp; try omega) _))⟩

end Go.Proofs.YtgkiliijefkcaaaDoor
