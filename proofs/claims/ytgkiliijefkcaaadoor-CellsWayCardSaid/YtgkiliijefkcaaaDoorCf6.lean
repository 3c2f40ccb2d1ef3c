/-
  Says: which cell withCorners finds.
-/
import Derived.Test.YtgkiliijefkcaaaDoorCf2
set_option linter.unusedVariables false
set_option linter.unusedSimpArgs false
namespace Go.Proofs.YtgkiliijefkcaaaDoor
open Go Go.RowKit

attribute [local go_sem] World.cell?_alloc_some frozen?_alloc_cells fz0 fz1 fz2 fz3 fz4 fz5

set_option maxRecDepth 100000 in
set_option maxHeartbeats 2000000 in
theorem wc_00 (X Y : Int) (w : World) (hL : Lay w) (x1 : -100000 ≤ X) (x2 : X ≤ 100000) (y1 : -100000 ≤ Y) (y2 : Y ≤ 100000) : Calls Tryd.prog 66 #[.agg #[.int .i64 (1 + 2 * X), .int .i64 (1 + 2 * Y), .int .i64 (2 * X), .int .i64 (2 * Y), .int .i64 (2 + 2 * X), .int .i64 (2 * Y)]] w fun e w' => e = .returned (cl X Y 0) ∧ Below w.heap.size w w' := by
  have hL' : ∀ W, Below w.heap.size w W → Lay W := fun W h => lay_below hL h
  have q1 : (1 + 2 * X - 1).tdiv 2 = X := td2 (by omega)
  have q2 : (1 + 2 * Y - 1).tdiv 2 = Y := td2 (by omega)
  go_enter Tryd.func66, Tryd.ntmps66
  go_wp2_with fail
  clear q1 q2
  go_loopw [17] (fun iv wr => ∃ i : Int, iv = .int .u8 i ∧ ∃ u : Later (((w.alloc (.cells #[.int .i64 (1 + 2 * X), .int .i64 (1 + 2 * Y), .int .i64 (2 * X), .int .i64 (2 * Y), .int .i64 (2 + 2 * X), .int .i64 (2 * Y)] 32)).alloc (.cells #[.int .i64 0, .int .i64 0, .int .u8 0] 23))), wr = on u ∧ ((i = 0 ∧ (on u).heap[w.heap.size + 1 + 1]? = some (.cells #[.int .i64 X, .int .i64 Y, .int .u8 0] 23)))) (fun iv _ => (4 - intOf iv).toNat)
  case atStart => exact ⟨0, rfl, ⟨_, below_alloc (Below.refl _ _) _⟩, rfl, ⟨rfl, by rw [show w.heap.size + 1 + 1 = (((w.alloc (.cells #[.int .i64 (1 + 2 * X), .int .i64 (1 + 2 * Y), .int .i64 (2 * X), .int .i64 (2 * Y), .int .i64 (2 + 2 * X), .int .i64 (2 * Y)] 32)).alloc (.cells #[.int .i64 0, .int .i64 0, .int .u8 0] 23))).heap.size by simp]; exact heap_alloc_new _ _⟩⟩
  case round =>
    obtain ⟨i, rfl, u0, rfl, hi⟩ := hrel
    have hB : (((w.alloc (.cells #[.int .i64 (1 + 2 * X), .int .i64 (1 + 2 * Y), .int .i64 (2 * X), .int .i64 (2 * Y), .int .i64 (2 + 2 * X), .int .i64 (2 * Y)] 32)).alloc (.cells #[.int .i64 0, .int .i64 0, .int .u8 0] 23))).heap.size ≤ w.heap.size + 1 + 1 := by simp
    have hq : Below w.heap.size w (on u0) := below_on (below_alloc (below_alloc (Below.refl _ _) _) _) u0
    obtain ⟨rfl, hh⟩ := hi
    · have e2 : (on u0).cell? ⟨w.heap.size + 1 + 1, 2, none⟩ = some (.int .u8 0) := held_cell hh 2
      have f2 : (on u0).frozen? ⟨w.heap.size + 1 + 1, 2, none⟩ = false := held_free hh 2
      have d0 : ∀ v, ((on u0).setCell ⟨w.heap.size + 1 + 1, 2, none⟩ v).cell? ⟨w.heap.size + 1 + 1, 0, none⟩ = some (.int .i64 X) := fun v => held_cell (held_set hh 2 v) 0
      have d1 : ∀ v, ((on u0).setCell ⟨w.heap.size + 1 + 1, 2, none⟩ v).cell? ⟨w.heap.size + 1 + 1, 1, none⟩ = some (.int .i64 Y) := fun v => held_cell (held_set hh 2 v) 1
      have d2 : ∀ v, ((on u0).setCell ⟨w.heap.size + 1 + 1, 2, none⟩ v).cell? ⟨w.heap.size + 1 + 1, 2, none⟩ = some v := fun v => held_cell (held_set hh 2 v) 2
      go_wp2_with fail
      obtain ⟨p, hp, hh2⟩ := stored1 hB hh 2 (.int .u8 0)
      rw [hp]
      clear hp e2 f2 d0 d1 d2 hh hq
      have hq : Below w.heap.size w (on p) := below_on (below_alloc (below_alloc (Below.refl _ _) _) _) p
      have k0 : (on p).cell? ⟨w.heap.size + 1 + 1, 0, none⟩ = some (.int .i64 X) := held_cell hh2 0
      have k1 : (on p).cell? ⟨w.heap.size + 1 + 1, 1, none⟩ = some (.int .i64 Y) := held_cell hh2 1
      have k2 : (on p).cell? ⟨w.heap.size + 1 + 1, 2, none⟩ = some (.int .u8 0) := held_cell hh2 2
      go_wp2_with (first | (go_at_call 43; with_reducible refine (corner_0 X Y _ (hL' _ hq) x1 x2 y1 y2).mono ?_; rintro e wx ⟨rfl, hx⟩; obtain ⟨ux, rfl⟩ := after hx; clear hx) | fail)
      exact bodyPost_ret (v := cl X Y 0) (by simp [results, Tryd.results66, go_sem, k0, k1, k2]) rfl ⟨rfl, (by repeat first | (with_reducible exact hq) | (with_reducible refine below_on ?_ _) | (with_reducible refine below_alloc ?_ _) | (with_reducible refine below_set ?_ (by simp; try omega) _))⟩

set_option maxRecDepth 100000 in
set_option maxHeartbeats 2000000 in
theorem wc_01 (X Y : Int) (w : World) (hL : Lay w) (x1 : -100000 ≤ X) (x2 : X ≤ 100000) (y1 : -100000 ≤ Y) (y2 : Y ≤ 100000) : Calls Tryd.prog 66 #[.agg #[.int .i64 (1 + 2 * X), .int .i64 (1 + 2 * Y), .int .i64 (2 + 2 * X), .int .i64 (2 * Y), .int .i64 (2 * X), .int .i64 (2 * Y)]] w fun e w' => e = .returned (cl X Y 0) ∧ Below w.heap.size w w' := by
  have hL' : ∀ W, Below w.heap.size w W → Lay W := fun W h => lay_below hL h
  have q1 : (1 + 2 * X - 1).tdiv 2 = X := td2 (by omega)
  have q2 : (1 + 2 * Y - 1).tdiv 2 = Y := td2 (by omega)
  go_enter Tryd.func66, Tryd.ntmps66
  go_wp2_with fail
  clear q1 q2
  go_loopw [17] (fun iv wr => ∃ i : Int, iv = .int .u8 i ∧ ∃ u : Later (((w.alloc (.cells #[.int .i64 (1 + 2 * X), .int .i64 (1 + 2 * Y), .int .i64 (2 + 2 * X), .int .i64 (2 * Y), .int .i64 (2 * X), .int .i64 (2 * Y)] 32)).alloc (.cells #[.int .i64 0, .int .i64 0, .int .u8 0] 23))), wr = on u ∧ ((i = 0 ∧ (on u).heap[w.heap.size + 1 + 1]? = some (.cells #[.int .i64 X, .int .i64 Y, .int .u8 0] 23)))) (fun iv _ => (4 - intOf iv).toNat)
  case atStart => exact ⟨0, rfl, ⟨_, below_alloc (Below.refl _ _) _⟩, rfl, ⟨rfl, by rw [show w.heap.size + 1 + 1 = (((w.alloc (.cells #[.int .i64 (1 + 2 * X), .int .i64 (1 + 2 * Y), .int .i64 (2 + 2 * X), .int .i64 (2 * Y), .int .i64 (2 * X), .int .i64 (2 * Y)] 32)).alloc (.cells #[.int .i64 0, .int .i64 0, .int .u8 0] 23))).heap.size by simp]; exact heap_alloc_new _ _⟩⟩
  case round =>
    obtain ⟨i, rfl, u0, rfl, hi⟩ := hrel
    have hB : (((w.alloc (.cells #[.int .i64 (1 + 2 * X), .int .i64 (1 + 2 * Y), .int .i64 (2 + 2 * X), .int .i64 (2 * Y), .int .i64 (2 * X), .int .i64 (2 * Y)] 32)).alloc (.cells #[.int .i64 0, .int .i64 0, .int .u8 0] 23))).heap.size ≤ w.heap.size + 1 + 1 := by simp
    have hq : Below w.heap.size w (on u0) := below_on (below_alloc (below_alloc (Below.refl _ _) _) _) u0
    obtain ⟨rfl, hh⟩ := hi
    · have e2 : (on u0).cell? ⟨w.heap.size + 1 + 1, 2, none⟩ = some (.int .u8 0) := held_cell hh 2
      have f2 : (on u0).frozen? ⟨w.heap.size + 1 + 1, 2, none⟩ = false := held_free hh 2
      have d0 : ∀ v, ((on u0).setCell ⟨w.heap.size + 1 + 1, 2, none⟩ v).cell? ⟨w.heap.size + 1 + 1, 0, none⟩ = some (.int .i64 X) := fun v => held_cell (held_set hh 2 v) 0
      have d1 : ∀ v, ((on u0).setCell ⟨w.heap.size + 1 + 1, 2, none⟩ v).cell? ⟨w.heap.size + 1 + 1, 1, none⟩ = some (.int .i64 Y) := fun v => held_cell (held_set hh 2 v) 1
      have d2 : ∀ v, ((on u0).setCell ⟨w.heap.size + 1 + 1, 2, none⟩ v).cell? ⟨w.heap.size + 1 + 1, 2, none⟩ = some v := fun v => held_cell (held_set hh 2 v) 2
      go_wp2_with fail
      obtain ⟨p, hp, hh2⟩ := stored1 hB hh 2 (.int .u8 0)
      rw [hp]
      clear hp e2 f2 d0 d1 d2 hh hq
      have hq : Below w.heap.size w (on p) := below_on (below_alloc (below_alloc (Below.refl _ _) _) _) p
      have k0 : (on p).cell? ⟨w.heap.size + 1 + 1, 0, none⟩ = some (.int .i64 X) := held_cell hh2 0
      have k1 : (on p).cell? ⟨w.heap.size + 1 + 1, 1, none⟩ = some (.int .i64 Y) := held_cell hh2 1
      have k2 : (on p).cell? ⟨w.heap.size + 1 + 1, 2, none⟩ = some (.int .u8 0) := held_cell hh2 2
      go_wp2_with (first | (go_at_call 43; with_reducible refine (corner_0 X Y _ (hL' _ hq) x1 x2 y1 y2).mono ?_; rintro e wx ⟨rfl, hx⟩; obtain ⟨ux, rfl⟩ := after hx; clear hx) | fail)
      exact bodyPost_ret (v := cl X Y 0) (by simp [results, Tryd.results66, go_sem, k0, k1, k2]) rfl ⟨rfl, (by repeat first | (with_reducible exact hq) | (with_reducible refine below_on ?_ _) | (with_reducible refine below_alloc ?_ _) | (with_reducible refine below_set ?_ (by simp; try omega) _))⟩

set_option maxRecDepth 100000 in
set_option maxHeartbeats 2000000 in
theorem wc_10 (X Y : Int) (w : World) (hL : Lay w) (x1 : -100000 ≤ X) (x2 : X ≤ 100000) (y1 : -100000 ≤ Y) (y2 : Y ≤ 100000) : Calls Tryd.prog 66 #[.agg #[.int .i64 (1 + 2 * X), .int .i64 (1 + 2 * Y), .int .i64 (2 + 2 * X), .int .i64 (2 + 2 * Y), .int .i64 (2 + 2 * X), .int .i64 (2 * Y)]] w fun e w' => e = .returned (cl X Y 1) ∧ Below w.heap.size w w' := by
  have hL' : ∀ W, Below w.heap.size w W → Lay W := fun W h => lay_below hL h
  have q1 : (1 + 2 * X - 1).tdiv 2 = X := td2 (by omega)
  have q2 : (1 + 2 * Y - 1).tdiv 2 = Y := td2 (by omega)
  go_enter Tryd.func66, Tryd.ntmps66
  go_wp2_with fail
  clear q1 q2
  go_loopw [17] (fun iv wr => ∃ i : Int, iv = .int .u8 i ∧ ∃ u : Later (((w.alloc (.cells #[.int .i64 (1 + 2 * X), .int .i64 (1 + 2 * Y), .int .i64 (2 + 2 * X), .int .i64 (2 + 2 * Y), .int .i64 (2 + 2 * X), .int .i64 (2 * Y)] 32)).alloc (.cells #[.int .i64 0, .int .i64 0, .int .u8 0] 23))), wr = on u ∧ ((i = 0 ∧ (on u).heap[w.heap.size + 1 + 1]? = some (.cells #[.int .i64 X, .int .i64 Y, .int .u8 0] 23)) ∨ (i = 1 ∧ (on u).heap[w.heap.size + 1 + 1]? = some (.cells #[.int .i64 X, .int .i64 Y, .int .u8 0] 23)))) (fun iv _ => (4 - intOf iv).toNat)
  case atStart => exact ⟨0, rfl, ⟨_, below_alloc (Below.refl _ _) _⟩, rfl, .inl ⟨rfl, by rw [show w.heap.size + 1 + 1 = (((w.alloc (.cells #[.int .i64 (1 + 2 * X), .int .i64 (1 + 2 * Y), .int .i64 (2 + 2 * X), .int .i64 (2 + 2 * Y), .int .i64 (2 + 2 * X), .int .i64 (2 * Y)] 32)).alloc (.cells #[.int .i64 0, .int .i64 0, .int .u8 0] 23))).heap.size by simp]; exact heap_alloc_new _ _⟩⟩
  case round =>
    obtain ⟨i, rfl, u0, rfl, hi⟩ := hrel
    have hB : (((w.alloc (.cells #[.int .i64 (1 + 2 * X), .int .i64 (1 + 2 * Y), .int .i64 (2 + 2 * X), .int .i64 (2 + 2 * Y), .int .i64 (2 + 2 * X), .int .i64 (2 * Y)] 32)).alloc (.cells #[.int .i64 0, .int .i64 0, .int .u8 0] 23))).heap.size ≤ w.heap.size + 1 + 1 := by simp
    have hq : Below w.heap.size w (on u0) := below_on (below_alloc (below_alloc (Below.refl _ _) _) _) u0
    obtain ⟨rfl, hh⟩ | ⟨rfl, hh⟩ := hi
    · have e2 : (on u0).cell? ⟨w.heap.size + 1 + 1, 2, none⟩ = some (.int .u8 0) := held_cell hh 2
      have f2 : (on u0).frozen? ⟨w.heap.size + 1 + 1, 2, none⟩ = false := held_free hh 2
      have d0 : ∀ v, ((on u0).setCell ⟨w.heap.size + 1 + 1, 2, none⟩ v).cell? ⟨w.heap.size + 1 + 1, 0, none⟩ = some (.int .i64 X) := fun v => held_cell (held_set hh 2 v) 0
      have d1 : ∀ v, ((on u0).setCell ⟨w.heap.size + 1 + 1, 2, none⟩ v).cell? ⟨w.heap.size + 1 + 1, 1, none⟩ = some (.int .i64 Y) := fun v => held_cell (held_set hh 2 v) 1
      have d2 : ∀ v, ((on u0).setCell ⟨w.heap.size + 1 + 1, 2, none⟩ v).cell? ⟨w.heap.size + 1 + 1, 2, none⟩ = some v := fun v => held_cell (held_set hh 2 v) 2
      go_wp2_with fail
      obtain ⟨p, hp, hh2⟩ := stored1 hB hh 2 (.int .u8 0)
      rw [hp]
      clear hp e2 f2 d0 d1 d2 hh hq
      have hq : Below w.heap.size w (on p) := below_on (below_alloc (below_alloc (Below.refl _ _) _) _) p
      have k0 : (on p).cell? ⟨w.heap.size + 1 + 1, 0, none⟩ = some (.int .i64 X) := held_cell hh2 0
      have k1 : (on p).cell? ⟨w.heap.size + 1 + 1, 1, none⟩ = some (.int .i64 Y) := held_cell hh2 1
      have k2 : (on p).cell? ⟨w.heap.size + 1 + 1, 2, none⟩ = some (.int .u8 0) := held_cell hh2 2
      go_wp2_with (first | (go_at_call 43; with_reducible refine (corner_0 X Y _ (hL' _ hq) x1 x2 y1 y2).mono ?_; rintro e wx ⟨rfl, hx⟩; obtain ⟨ux, rfl⟩ := after hx; clear hx) | fail)
      exact ⟨⟨0 + 1, rfl, ⟨_, below_alloc (below_on p.b ux) _⟩, rfl, .inr (⟨rfl, (heap_alloc_old _ _ (held_lt (held_on ux hh2))).trans (held_on ux hh2)⟩)⟩, by simp [intOf]⟩
    · have e2 : (on u0).cell? ⟨w.heap.size + 1 + 1, 2, none⟩ = some (.int .u8 0) := held_cell hh 2
      have f2 : (on u0).frozen? ⟨w.heap.size + 1 + 1, 2, none⟩ = false := held_free hh 2
      have d0 : ∀ v, ((on u0).setCell ⟨w.heap.size + 1 + 1, 2, none⟩ v).cell? ⟨w.heap.size + 1 + 1, 0, none⟩ = some (.int .i64 X) := fun v => held_cell (held_set hh 2 v) 0
      have d1 : ∀ v, ((on u0).setCell ⟨w.heap.size + 1 + 1, 2, none⟩ v).cell? ⟨w.heap.size + 1 + 1, 1, none⟩ = some (.int .i64 Y) := fun v => held_cell (held_set hh 2 v) 1
      have d2 : ∀ v, ((on u0).setCell ⟨w.heap.size + 1 + 1, 2, none⟩ v).cell? ⟨w.heap.size + 1 + 1, 2, none⟩ = some v := fun v => held_cell (held_set hh 2 v) 2
      go_wp2_with fail
      obtain ⟨p, hp, hh2⟩ := stored1 hB hh 2 (.int .u8 1)
      rw [hp]
      clear hp e2 f2 d0 d1 d2 hh hq
      have hq : Below w.heap.size w (on p) := below_on (below_alloc (below_alloc (Below.refl _ _) _) _) p
      have k0 : (on p).cell? ⟨w.heap.size + 1 + 1, 0, none⟩ = some (.int .i64 X) := held_cell hh2 0
      have k1 : (on p).cell? ⟨w.heap.size + 1 + 1, 1, none⟩ = some (.int .i64 Y) := held_cell hh2 1
      have k2 : (on p).cell? ⟨w.heap.size + 1 + 1, 2, none⟩ = some (.int .u8 1) := held_cell hh2 2
      go_wp2_with (first | (go_at_call 43; with_reducible refine (corner_1 X Y _ (hL' _ hq) x1 x2 y1 y2).mono ?_; rintro e wx ⟨rfl, hx⟩; obtain ⟨ux, rfl⟩ := after hx; clear hx) | fail)
      exact bodyPost_ret (v := cl X Y 1) (by simp [results, Tryd.results66, go_sem, k0, k1, k2]) rfl ⟨rfl, (by repeat first | (with_reducible exact hq) | (with_reducible refine below_on ?_ _) | (with_reducible refine below_alloc ?_ _) | (with_reducible refine below_set ?_ (by simp; try omega) _))⟩

set_option maxRecDepth 100000 in
set_option maxHeartbeats 2000000 in
theorem wc_11 (X Y : Int) (w : World) (hL : Lay w) (x1 : -100000 ≤ X) (x2 : X ≤ 100000) (y1 : -100000 ≤ Y) (y2 : Y ≤ 100000) : Calls Tryd.prog 66 #[.agg #[.int .i64 (1 + 2 * X), .int .i64 (1 + 2 * Y), .int .i64 (2 + 2 * X), .int .i64 (2 * Y), .int .i64 (2 + 2 * X), .int .i64 (2 + 2 * Y)]] w fun e w' => e = .returned (cl X Y 1) ∧ Below w.heap.size w w' := by
  have hL' : ∀ W, Below w.heap.size w W → Lay W := fun W h => lay_below hL h
  have q1 : (1 + 2 * X - 1).tdiv 2 = X := td2 (by omega)
  have q2 : (1 + 2 * Y - 1).tdiv 2 = Y := td2 (by omega)
  go_enter Tryd.func66, Tryd.ntmps66
  go_wp2_with fail
  clear q1 q2
  go_loopw [17] (fun iv wr => ∃ i : Int, iv = .int .u8 i ∧ ∃ u : Later (((w.alloc (.cells #[.int .i64 (1 + 2 * X), .int .i64 (1 + 2 * Y), .int .i64 (2 + 2 * X), .int .i64 (2 * Y), .int .i64 (2 + 2 * X), .int .i64 (2 + 2 * Y)] 32)).alloc (.cells #[.int .i64 0, .int .i64 0, .int .u8 0] 23))), wr = on u ∧ ((i = 0 ∧ (on u).heap[w.heap.size + 1 + 1]? = some (.cells #[.int .i64 X, .int .i64 Y, .int .u8 0] 23)) ∨ (i = 1 ∧ (on u).heap[w.heap.size + 1 + 1]? = some (.cells #[.int .i64 X, .int .i64 Y, .int .u8 0] 23)))) (fun iv _ => (4 - intOf iv).toNat)
  case atStart => exact ⟨0, rfl, ⟨_, below_alloc (Below.refl _ _) _⟩, rfl, .inl ⟨rfl, by rw [show w.heap.size + 1 + 1 = (((w.alloc (.cells #[.int .i64 (1 + 2 * X), .int .i64 (1 + 2 * Y), .int .i64 (2 + 2 * X), .int .i64 (2 * Y), .int .i64 (2 + 2 * X), .int .i64 (2 + 2 * Y)] 32)).alloc (.cells #[.int .i64 0, .int .i64 0, .int .u8 0] 23))).heap.size by simp]; exact heap_alloc_new _ _⟩⟩
  case round =>
    obtain ⟨i, rfl, u0, rfl, hi⟩ := hrel
    have hB : (((w.alloc (.cells #[.int .i64 (1 + 2 * X), .int .i64 (1 + 2 * Y), .int .i64 (2 + 2 * X), .int .i64 (2 * Y), .int .i64 (2 + 2 * X), .int .i64 (2 + 2 * Y)] 32)).alloc (.cells #[.int .i64 0, .int .i64 0, .int .u8 0] 23))).heap.size ≤ w.heap.size + 1 + 1 := by simp
    have hq : Below w.heap.size w (on u0) := below_on (below_alloc (below_alloc (Below.refl _ _) _) _) u0
    obtain ⟨rfl, hh⟩ | ⟨rfl, hh⟩ := hi
    · have e2 : (on u0).cell? ⟨w.heap.size + 1 + 1, 2, none⟩ = some (.int .u8 0) := held_cell hh 2
      have f2 : (on u0).frozen? ⟨w.heap.size + 1 + 1, 2, none⟩ = false := held_free hh 2
      have d0 : ∀ v, ((on u0).setCell ⟨w.heap.size + 1 + 1, 2, none⟩ v).cell? ⟨w.heap.size + 1 + 1, 0, none⟩ = some (.int .i64 X) := fun v => held_cell (held_set hh 2 v) 0
      have d1 : ∀ v, ((on u0).setCell ⟨w.heap.size + 1 + 1, 2, none⟩ v).cell? ⟨w.heap.size + 1 + 1, 1, none⟩ = some (.int .i64 Y) := fun v => held_cell (held_set hh 2 v) 1
      have d2 : ∀ v, ((on u0).setCell ⟨w.heap.size + 1 + 1, 2, none⟩ v).cell? ⟨w.heap.size + 1 + 1, 2, none⟩ = some v := fun v => held_cell (held_set hh 2 v) 2
      go_wp2_with fail
      obtain ⟨p, hp, hh2⟩ := stored1 hB hh 2 (.int .u8 0)
      rw [hp]
      clear hp e2 f2 d0 d1 d2 hh hq
      have hq : Below w.heap.size w (on p) := below_on (below_alloc (below_alloc (Below.refl _ _) _) _) p
      have k0 : (on p).cell? ⟨w.heap.size + 1 + 1, 0, none⟩ = some (.int .i64 X) := held_cell hh2 0
      have k1 : (on p).cell? ⟨w.heap.size + 1 + 1, 1, none⟩ = some (.int .i64 Y) := held_cell hh2 1
      have k2 : (on p).cell? ⟨w.heap.size + 1 + 1, 2, none⟩ = some (.int .u8 0) := held_cell hh2 2
      go_wp2_with (first | (go_at_call 43; with_reducible refine (corner_0 X Y _ (hL' _ hq) x1 x2 y1 y2).mono ?_; rintro e wx ⟨rfl, hx⟩; obtain ⟨ux, rfl⟩ := after hx; clear hx) | fail)
      exact ⟨⟨0 + 1, rfl, ⟨_, below_alloc (below_on p.b ux) _⟩, rfl, .inr (⟨rfl, (heap_alloc_old _ _ (held_lt (held_on ux hh2))).trans (held_on ux hh2)⟩)⟩, by simp [intOf]⟩
    · have e2 : (on u0).cell? ⟨w.heap.size + 1 + 1, 2, none⟩ = some (.int .u8 0) := held_cell hh 2
      have f2 : (on u0).frozen? ⟨w.heap.size + 1 + 1, 2, none⟩ = false := held_free hh 2
      have d0 : ∀ v, ((on u0).setCell ⟨w.heap.size + 1 + 1, 2, none⟩ v).cell? ⟨w.heap.size + 1 + 1, 0, none⟩ = some (.int .i64 X) := fun v => held_cell (held_set hh 2 v) 0
      have d1 : ∀ v, ((on u0).setCell ⟨w.heap.size + 1 + 1, 2, none⟩ v).cell? ⟨w.heap.size + 1 + 1, 1, none⟩ = some (.int .i64 Y) := fun v => held_cell (held_set hh 2 v) 1
      have d2 : ∀ v, ((on u0).setCell ⟨w.heap.size + 1 + 1, 2, none⟩ v).cell? ⟨w.heap.size + 1 + 1, 2, none⟩ = some v := fun v => held_cell (held_set hh 2 v) 2
      go_wp2_with fail
      obtain ⟨p, hp, hh2⟩ := stored1 hB hh 2 (.int .u8 1)
      rw [hp]
      clear hp e2 f2 d0 d1 d2 hh hq
      have hq : Below w.heap.size w (on p) := below_on (below_alloc (below_alloc (Below.refl _ _) _) _) p
      have k0 : (on p).cell? ⟨w.heap.size + 1 + 1, 0, none⟩ = some (.int .i64 X) := held_cell hh2 0
      have k1 : (on p).cell? ⟨w.heap.size + 1 + 1, 1, none⟩ = some (.int .i64 Y) := held_cell hh2 1
      have k2 : (on p).cell? ⟨w.heap.size + 1 + 1, 2, none⟩ = some (.int .u8 1) := held_cell hh2 2
      go_wp2_with (first | (go_at_call 43; with_reducible refine (corner_1 X Y _ (hL' _ hq) x1 x2 y1 y2).mono ?_; rintro e wx ⟨rfl, hx⟩; obtain ⟨ux, rfl⟩ := after hx; clear hx) | fail)
      exact bodyPost_ret (v := cl X Y 1) (by simp [results, Tryd.results66, go_sem, k0, k1, k2]) rfl ⟨rfl, (by repeat first | (with_reducible exact hq) | (with_reducible refine below_on ?_ _) | (with_reducible refine below_alloc ?_ _) | (with_reducible refine below_set ?_ (by simp; try omega) _))⟩

set_option maxRecDepth 100000 in
set_option maxHeartbeats 2000000 in
theorem wc_20 (X Y : Int) (w : World) (hL : Lay w) (x1 : -100000 ≤ X) (x2 : X ≤ 100000) (y1 : -100000 ≤ Y) (y2 : Y ≤ 100000) : Calls Tryd.prog 66 #[.agg #[.int .i64 (1 + 2 * X), .int .i64 (1 + 2 * Y), .int .i64 (2 + 2 * X), .int .i64 (2 + 2 * Y), .int .i64 (2 * X), .int .i64 (2 + 2 * Y)]] w fun e w' => e = .returned (cl X Y 2) ∧ Below w.heap.size w w' := by
  have hL' : ∀ W, Below w.heap.size w W → Lay W := fun W h => lay_below hL h
  have q1 : (1 + 2 * X - 1).tdiv 2 = X := td2 (by omega)
  have q2 : (1 + 2 * Y - 1).tdiv 2 = Y := td2 (by omega)
  go_enter Tryd.func66, Tryd.ntmps66
  go_wp2_with fail
  clear q1 q2
  go_loopw [17] (fun iv wr => ∃ i : Int, iv = .int .u8 i ∧ ∃ u : Later (((w.alloc (.cells #[.int .i64 (1 + 2 * X), .int .i64 (1 + 2 * Y), .int .i64 (2 + 2 * X), .int .i64 (2 + 2 * Y), .int .i64 (2 * X), .int .i64 (2 + 2 * Y)] 32)).alloc (.cells #[.int .i64 0, .int .i64 0, .int .u8 0] 23))), wr = on u ∧ ((i = 0 ∧ (on u).heap[w.heap.size + 1 + 1]? = some (.cells #[.int .i64 X, .int .i64 Y, .int .u8 0] 23)) ∨ (i = 1 ∧ (on u).heap[w.heap.size + 1 + 1]? = some (.cells #[.int .i64 X, .int .i64 Y, .int .u8 0] 23)) ∨ (i = 2 ∧ (on u).heap[w.heap.size + 1 + 1]? = some (.cells #[.int .i64 X, .int .i64 Y, .int .u8 1] 23)))) (fun iv _ => (4 - intOf iv).toNat)
  case atStart => exact ⟨0, rfl, ⟨_, below_alloc (Below.refl _ _) _⟩, rfl, .inl ⟨rfl, by rw [show w.heap.size + 1 + 1 = (((w.alloc (.cells #[.int .i64 (1 + 2 * X), .int .i64 (1 + 2 * Y), .int .i64 (2 + 2 * X), .int .i64 (2 + 2 * Y), .int .i64 (2 * X), .int .i64 (2 + 2 * Y)] 32)).alloc (.cells #[.int .i64 0, .int .i64 0, .int .u8 0] 23))).heap.size by simp]; exact heap_alloc_new _ _⟩⟩
  case round =>
    obtain ⟨i, rfl, u0, rfl, hi⟩ := hrel
    have hB : (((w.alloc (.cells #[.int .i64 (1 + 2 * X), .int .i64 (1 + 2 * Y), .int .i64 (2 + 2 * X), .int .i64 (2 + 2 * Y), .int .i64 (2 * X), .int .i64 (2 + 2 * Y)] 32)).alloc (.cells #[.int .i64 0, .int .i64 0, .int .u8 0] 23))).heap.size ≤ w.heap.size + 1 + 1 := by simp
    have hq : Below w.heap.size w (on u0) := below_on (below_alloc (below_alloc (Below.refl _ _) _) _) u0
    obtain ⟨rfl, hh⟩ | ⟨rfl, hh⟩ | ⟨rfl, hh⟩ := hi
    · have e2 : (on u0).cell? ⟨w.heap.size + 1 + 1, 2, none⟩ = some (.int .u8 0) := held_cell hh 2
      have f2 : (on u0).frozen? ⟨w.heap.size + 1 + 1, 2, none⟩ = false := held_free hh 2
      have d0 : ∀ v, ((on u0).setCell ⟨w.heap.size + 1 + 1, 2, none⟩ v).cell? ⟨w.heap.size + 1 + 1, 0, none⟩ = some (.int .i64 X) := fun v => held_cell (held_set hh 2 v) 0
      have d1 : ∀ v, ((on u0).setCell ⟨w.heap.size + 1 + 1, 2, none⟩ v).cell? ⟨w.heap.size + 1 + 1, 1, none⟩ = some (.int .i64 Y) := fun v => held_cell (held_set hh 2 v) 1
      have d2 : ∀ v, ((on u0).setCell ⟨w.heap.size + 1 + 1, 2, none⟩ v).cell? ⟨w.heap.size + 1 + 1, 2, none⟩ = some v := fun v => held_cell (held_set hh 2 v) 2
      go_wp2_with fail
      obtain ⟨p, hp, hh2⟩ := stored1 hB hh 2 (.int .u8 0)
      rw [hp]
      clear hp e2 f2 d0 d1 d2 hh hq
      have hq : Below w.heap.size w (on p) := below_on (below_alloc (below_alloc (Below.refl _ _) _) _) p
      have k0 : (on p).cell? ⟨w.heap.size + 1 + 1, 0, none⟩ = some (.int .i64 X) := held_cell hh2 0
      have k1 : (on p).cell? ⟨w.heap.size + 1 + 1, 1, none⟩ = some (.int .i64 Y) := held_cell hh2 1
      have k2 : (on p).cell? ⟨w.heap.size + 1 + 1, 2, none⟩ = some (.int .u8 0) := held_cell hh2 2
      go_wp2_with (first | (go_at_call 43; with_reducible refine (corner_0 X Y _ (hL' _ hq) x1 x2 y1 y2).mono ?_; rintro e wx ⟨rfl, hx⟩; obtain ⟨ux, rfl⟩ := after hx; clear hx) | fail)
      exact ⟨⟨0 + 1, rfl, ⟨_, below_alloc (below_on p.b ux) _⟩, rfl, .inr (.inl ⟨rfl, (heap_alloc_old _ _ (held_lt (held_on ux hh2))).trans (held_on ux hh2)⟩)⟩, by simp [intOf]⟩
    · have e2 : (on u0).cell? ⟨w.heap.size + 1 + 1, 2, none⟩ = some (.int .u8 0) := held_cell hh 2
      have f2 : (on u0).frozen? ⟨w.heap.size + 1 + 1, 2, none⟩ = false := held_free hh 2
      have d0 : ∀ v, ((on u0).setCell ⟨w.heap.size + 1 + 1, 2, none⟩ v).cell? ⟨w.heap.size + 1 + 1, 0, none⟩ = some (.int .i64 X) := fun v => held_cell (held_set hh 2 v) 0
      have d1 : ∀ v, ((on u0).setCell ⟨w.heap.size + 1 + 1, 2, none⟩ v).cell? ⟨w.heap.size + 1 + 1, 1, none⟩ = some (.int .i64 Y) := fun v => held_cell (held_set hh 2 v) 1
      have d2 : ∀ v, ((on u0).setCell ⟨w.heap.size + 1 + 1, 2, none⟩ v).cell? ⟨w.heap.size + 1 + 1, 2, none⟩ = some v := fun v => held_cell (held_set hh 2 v) 2
      go_wp2_with fail
      obtain ⟨p, hp, hh2⟩ := stored1 hB hh 2 (.int .u8 1)
      rw [hp]
      clear hp e2 f2 d0 d1 d2 hh hq
      have hq : Below w.heap.size w (on p) := below_on (below_alloc (below_alloc (Below.refl _ _) _) _) p
      have k0 : (on p).cell? ⟨w.heap.size + 1 + 1, 0, none⟩ = some (.int .i64 X) := held_cell hh2 0
      have k1 : (on p).cell? ⟨w.heap.size + 1 + 1, 1, none⟩ = some (.int .i64 Y) := held_cell hh2 1
      have k2 : (on p).cell? ⟨w.heap.size + 1 + 1, 2, none⟩ = some (.int .u8 1) := held_cell hh2 2
      go_wp2_with (first | (go_at_call 43; with_reducible refine (corner_1 X Y _ (hL' _ hq) x1 x2 y1 y2).mono ?_; rintro e wx ⟨rfl, hx⟩; obtain ⟨ux, rfl⟩ := after hx; clear hx) | fail)
      exact ⟨⟨1 + 1, rfl, ⟨_, below_alloc (below_on p.b ux) _⟩, rfl, .inr (.inr (⟨rfl, (heap_alloc_old _ _ (held_lt (held_on ux hh2))).trans (held_on ux hh2)⟩))⟩, by simp [intOf]⟩
    · have e2 : (on u0).cell? ⟨w.heap.size + 1 + 1, 2, none⟩ = some (.int .u8 1) := held_cell hh 2
      have f2 : (on u0).frozen? ⟨w.heap.size + 1 + 1, 2, none⟩ = false := held_free hh 2
      have d0 : ∀ v, ((on u0).setCell ⟨w.heap.size + 1 + 1, 2, none⟩ v).cell? ⟨w.heap.size + 1 + 1, 0, none⟩ = some (.int .i64 X) := fun v => held_cell (held_set hh 2 v) 0
      have d1 : ∀ v, ((on u0).setCell ⟨w.heap.size + 1 + 1, 2, none⟩ v).cell? ⟨w.heap.size + 1 + 1, 1, none⟩ = some (.int .i64 Y) := fun v => held_cell (held_set hh 2 v) 1
      have d2 : ∀ v, ((on u0).setCell ⟨w.heap.size + 1 + 1, 2, none⟩ v).cell? ⟨w.heap.size + 1 + 1, 2, none⟩ = some v := fun v => held_cell (held_set hh 2 v) 2
      go_wp2_with fail
      obtain ⟨p, hp, hh2⟩ := stored1 hB hh 2 (.int .u8 2)
      rw [hp]
      clear hp e2 f2 d0 d1 d2 hh hq
      have hq : Below w.heap.size w (on p) := below_on (below_alloc (below_alloc (Below.refl _ _) _) _) p
      have k0 : (on p).cell? ⟨w.heap.size + 1 + 1, 0, none⟩ = some (.int .i64 X) := held_cell hh2 0
      have k1 : (on p).cell? ⟨w.heap.size + 1 + 1, 1, none⟩ = some (.int .i64 Y) := held_cell hh2 1
      have k2 : (on p).cell? ⟨w.heap.size + 1 + 1, 2, none⟩ = some (.int .u8 2) := held_cell hh2 2
      go_wp2_with (first | (go_at_call 43; with_reducible refine (corner_2 X Y _ (hL' _ hq) x1 x2 y1 y2).mono ?_; rintro e wx ⟨rfl, hx⟩; obtain ⟨ux, rfl⟩ := after hx; clear hx) | fail)
      exact bodyPost_ret (v := cl X Y 2) (by simp [results, Tryd.results66, go_sem, k0, k1, k2]) rfl ⟨rfl, (by repeat first | (with_reducible exact hq) | (with_reducible refine below_on ?_ _) | (with_reducible refine below_alloc ?_ _) | (with_reducible refine below_set ?_ (by simp; try omega) _))⟩

set_option maxRecDepth 100000 in
set_option maxHeartbeats 2000000 in
theorem wc_21 (X Y : Int) (w : World) (hL : Lay w) (x1 : -100000 ≤ X) (x2 : X ≤ 100000) (y1 : -100000 ≤ Y) (y2 : Y ≤ 100000) : Calls Tryd.prog 66 #[.agg #[.int .i64 (1 + 2 * X), .int .i64 (1 + 2 * Y), .int .i64 (2 * X), .int .i64 (2 + 2 * Y), .int .i64 (2 + 2 * X), .int .i64 (2 + 2 * Y)]] w fun e w' => e = .returned (cl X Y 2) ∧ Below w.heap.size w w' := by
  have hL' : ∀ W, Below w.heap.size w W → Lay W := fun W h => lay_below hL h
  have q1 : (1 + 2 * X - 1).tdiv 2 = X := td2 (by omega)
  have q2 : (1 + 2 * Y - 1).tdiv 2 = Y := td2 (by omega)
  go_enter Tryd.func66, Tryd.ntmps66
  go_wp2_with fail
  clear q1 q2
  go_loopw [17] (fun iv wr => ∃ i : Int, iv = .int .u8 i ∧ ∃ u : Later (((w.alloc (.cells #[.int .i64 (1 + 2 * X), .int .i64 (1 + 2 * Y), .int .i64 (2 * X), .int .i64 (2 + 2 * Y), .int .i64 (2 + 2 * X), .int .i64 (2 + 2 * Y)] 32)).alloc (.cells #[.int .i64 0, .int .i64 0, .int .u8 0] 23))), wr = on u ∧ ((i = 0 ∧ (on u).heap[w.heap.size + 1 + 1]? = some (.cells #[.int .i64 X, .int .i64 Y, .int .u8 0] 23)) ∨ (i = 1 ∧ (on u).heap[w.heap.size + 1 + 1]? = some (.cells #[.int .i64 X, .int .i64 Y, .int .u8 0] 23)) ∨ (i = 2 ∧ (on u).heap[w.heap.size + 1 + 1]? = some (.cells #[.int .i64 X, .int .i64 Y, .int .u8 1] 23)))) (fun iv _ => (4 - intOf iv).toNat)
  case atStart => exact ⟨0, rfl, ⟨_, below_alloc (Below.refl _ _) _⟩, rfl, .inl ⟨rfl, by rw [show w.heap.size + 1 + 1 = (((w.alloc (.cells #[.int .i64 (1 + 2 * X), .int .i64 (1 + 2 * Y), .int .i64 (2 * X), .int .i64 (2 + 2 * Y), .int .i64 (2 + 2 * X), .int .i64 (2 + 2 * Y)] 32)).alloc (.cells #[.int .i64 0, .int .i64 0, .int .u8 0] 23))).heap.size by simp]; exact heap_alloc_new _ _⟩⟩
  case round =>
    obtain ⟨i, rfl, u0, rfl, hi⟩ := hrel
    have hB : (((w.alloc (.cells #[.int .i64 (1 + 2 * X), .int .i64 (1 + 2 * Y), .int .i64 (2 * X), .int .i64 (2 + 2 * Y), .int .i64 (2 + 2 * X), .int .i64 (2 + 2 * Y)] 32)).alloc (.cells #[.int .i64 0, .int .i64 0, .int .u8 0] 23))).heap.size ≤ w.heap.size + 1 + 1 := by simp
    have hq : Below w.heap.size w (on u0) := below_on (below_alloc (below_alloc (Below.refl _ _) _) _) u0
    obtain ⟨rfl, hh⟩ | ⟨rfl, hh⟩ | ⟨rfl, hh⟩ := hi
    · have e2 : (on u0).cell? ⟨w.heap.size + 1 + 1, 2, none⟩ = some (.int .u8 0) := held_cell hh 2
      have f2 : (on u0).frozen? ⟨w.heap.size + 1 + 1, 2, none⟩ = false := held_free hh 2
      have d0 : ∀ v, ((on u0).setCell ⟨w.heap.size + 1 + 1, 2, none⟩ v).cell? ⟨w.heap.size + 1 + 1, 0, none⟩ = some (.int .i64 X) := fun v => held_cell (held_set hh 2 v) 0
      have d1 : ∀ v, ((on u0).setCell ⟨w.heap.size + 1 + 1, 2, none⟩ v).cell? ⟨w.heap.size + 1 + 1, 1, none⟩ = some (.int .i64 Y) := fun v => held_cell (held_set hh 2 v) 1
      have d2 : ∀ v, ((on u0).setCell ⟨w.heap.size + 1 + 1, 2, none⟩ v).cell? ⟨w.heap.size + 1 + 1, 2, none⟩ = some v := fun v => held_cell (held_set hh 2 v) 2
      go_wp2_with fail
      obtain ⟨p, hp, hh2⟩ := stored1 hB hh 2 (.int .u8 0)
      rw [hp]
      clear hp e2 f2 d0 d1 d2 hh hq
      have hq : Below w.heap.size w (on p) := below_on (below_alloc (below_alloc (Below.refl _ _) _) _) p
      have k0 : (on p).cell? ⟨w.heap.size + 1 + 1, 0, none⟩ = some (.int .i64 X) := held_cell hh2 0
      have k1 : (on p).cell? ⟨w.heap.size + 1 + 1, 1, none⟩ = some (.int .i64 Y) := held_cell hh2 1
      have k2 : (on p).cell? ⟨w.heap.size + 1 + 1, 2, none⟩ = some (.int .u8 0) := held_cell hh2 2
      go_wp2_with (first | (go_at_call 43; with_reducible refine (corner_0 X Y _ (hL' _ hq) x1 x2 y1 y2).mono ?_; rintro e wx ⟨rfl, hx⟩; obtain ⟨ux, rfl⟩ := after hx; clear hx) | fail)
      exact ⟨⟨0 + 1, rfl, ⟨_, below_alloc (below_on p.b ux) _⟩, rfl, .inr (.inl ⟨rfl, (heap_alloc_old _ _ (held_lt (held_on ux hh2))).trans (held_on ux hh2)⟩)⟩, by simp [intOf]⟩
    · have e2 : (on u0).cell? ⟨w.heap.size + 1 + 1, 2, none⟩ = some (.int .u8 0) := held_cell hh 2
      have f2 : (on u0).frozen? ⟨w.heap.size + 1 + 1, 2, none⟩ = false := held_free hh 2
      have d0 : ∀ v, ((on u0).setCell ⟨w.heap.size + 1 + 1, 2, none⟩ v).cell? ⟨w.heap.size + 1 + 1, 0, none⟩ = some (.int .i64 X) := fun v => held_cell (held_set hh 2 v) 0
      have d1 : ∀ v, ((on u0).setCell ⟨w.heap.size + 1 + 1, 2, none⟩ v).cell? ⟨w.heap.size + 1 + 1, 1, none⟩ = some (.int .i64 Y) := fun v => held_cell (held_set hh 2 v) 1
      have d2 : ∀ v, ((on u0).setCell ⟨w.heap.size + 1 + 1, 2, none⟩ v).cell? ⟨w.heap.size + 1 + 1, 2, none⟩ = some v := fun v => held_cell (held_set hh 2 v) 2
      go_wp2_with fail
      obtain ⟨p, hp, hh2⟩ := stored1 hB hh 2 (.int .u8 1)
      rw [hp]
      clear hp e2 f2 d0 d1 d2 hh hq
      have hq : Below w.heap.size w (on p) := below_on (below_alloc (below_alloc (Below.refl _ _) _) _) p
      have k0 : (on p).cell? ⟨w.heap.size + 1 + 1, 0, none⟩ = some (.int .i64 X) := held_cell hh2 0
      have k1 : (on p).cell? ⟨w.heap.size + 1 + 1, 1, none⟩ = some (.int .i64 Y) := held_cell hh2 1
      have k2 : (on p).cell? ⟨w.heap.size + 1 + 1, 2, none⟩ = some (.int .u8 1) := held_cell hh2 2
      go_wp2_with (first | (go_at_call 43; with_reducible refine (corner_1 X Y _ (hL' _ hq) x1 x2 y1 y2).mono ?_; rintro e wx ⟨rfl, hx⟩; obtain ⟨ux, rfl⟩ := after hx; clear hx) | fail)
      exact ⟨⟨1 + 1, rfl, ⟨_, below_alloc (below_on p.b ux) _⟩, rfl, .inr (.inr (⟨rfl, (heap_alloc_old _ _ (held_lt (held_on ux hh2))).trans (held_on ux hh2)⟩))⟩, by simp [intOf]⟩
    · have e2 : (on u0).cell? ⟨w.heap.size + 1 + 1, 2, none⟩ = some (.int .u8 1) := held_cell hh 2
      have f2 : (on u0).frozen? ⟨w.heap.size + 1 + 1, 2, none⟩ = false := held_free hh 2
      have d0 : ∀ v, ((on u0).setCell ⟨w.heap.size + 1 + 1, 2, none⟩ v).cell? ⟨w.heap.size + 1 + 1, 0, none⟩ = some (.int .i64 X) := fun v => held_cell (held_set hh 2 v) 0
      have d1 : ∀ v, ((on u0).setCell ⟨w.heap.size + 1 + 1, 2, none⟩ v).cell? ⟨w.heap.size + 1 + 1, 1, none⟩ = some (.int .i64 Y) := fun v => held_cell (held_set hh 2 v) 1
      have d2 : ∀ v, ((on u0).setCell ⟨w.heap.size + 1 + 1, 2, none⟩ v).cell? ⟨w.heap.size + 1 + 1, 2, none⟩ = some v := fun v => held_cell (held_set hh 2 v) 2
      go_wp2_with fail
      obtain ⟨p, hp, hh2⟩ := stored1 hB hh 2 (.int .u8 2)
      rw [hp]
      clear hp e2 f2 d0 d1 d2 hh hq
      have hq : Below w.heap.size w (on p) := below_on (below_alloc (below_alloc (Below.refl _ _) _) _) p
      have k0 : (on p).cell? ⟨w.heap.size + 1 + 1, 0, none⟩ = some (.int .i64 X) := held_cell hh2 0
      have k1 : (on p).cell? ⟨w.heap.size + 1 + 1, 1, none⟩ = some (.int .i64 Y) := held_cell hh2 1
      have k2 : (on p).cell? ⟨w.heap.size + 1 + 1, 2, none⟩ = some (.int .u8 2) := held_cell hh2 2
      go_wp2_with (first | (go_at_call 43; with_reducible refine (corner_2 X Y _ (hL' _ hq) x1 x2 y1 y2).mono ?_; rintro e wx ⟨rfl, hx⟩; obtain ⟨ux, rfl⟩ := after hx; clear hx) | fail)
      exact bodyPost_ret (v := cl X Y 2) (by simp [results, Tryd.results66, go_sem, k0, k1, k2]) rfl ⟨rfl, (by repeat first | (with_reducible exact hq) | (with_reducible refine below_on ?_ _) | (with_reducible refine below_alloc ?_ _) | (with_reducible refine below_set ?_ (by simp; try omega) _))⟩

set_option maxRecDepth 100000 in
set_option maxHeartbeats 2000000 in
theorem wc_30 (X Y : Int) (w : World) (hL : Lay w) (x1 : -100000 ≤ X) (x2 : X ≤ 100000) (y1 : -100000 ≤ Y) (y2 : Y ≤ 100000) : Calls Tryd.prog 66 #[.agg #[.int .i64 (1 + 2 * X), .int .i64 (1 + 2 * Y), .int .i64 (2 * X), .int .i64 (2 * Y), .int .i64 (2 * X), .int .i64 (2 + 2 * Y)]] w fun e w' => e = .returned (cl X Y 3) ∧ Below w.heap.size w w' := by
  have hL' : ∀ W, Below w.heap.size w W → Lay W := fun W h => lay_below hL h
  have q1 : (1 + 2 * X - 1).tdiv 2 = X := td2 (by omega)
  have q2 : (1 + 2 * Y - 1).tdiv 2 = Y := td2 (by omega)
  go_enter Tryd.func66, Tryd.ntmps66
  go_wp2_with fail
  clear q1 q2
  go_loopw [17] (fun iv wr => ∃ i : Int, iv = .int .u8 i ∧ ∃ u : Later (((w.alloc (.cells #[.int .i64 (1 + 2 * X), .int .i64 (1 + 2 * Y), .int .i64 (2 * X), .int .i64 (2 * Y), .int .i64 (2 * X), .int .i64 (2 + 2 * Y)] 32)).alloc (.cells #[.int .i64 0, .int .i64 0, .int .u8 0] 23))), wr = on u ∧ ((i = 0 ∧ (on u).heap[w.heap.size + 1 + 1]? = some (.cells #[.int .i64 X, .int .i64 Y, .int .u8 0] 23)) ∨ (i = 1 ∧ (on u).heap[w.heap.size + 1 + 1]? = some (.cells #[.int .i64 X, .int .i64 Y, .int .u8 0] 23)) ∨ (i = 2 ∧ (on u).heap[w.heap.size + 1 + 1]? = some (.cells #[.int .i64 X, .int .i64 Y, .int .u8 1] 23)) ∨ (i = 3 ∧ (on u).heap[w.heap.size + 1 + 1]? = some (.cells #[.int .i64 X, .int .i64 Y, .int .u8 2] 23)))) (fun iv _ => (4 - intOf iv).toNat)
  case atStart => exact ⟨0, rfl, ⟨_, below_alloc (Below.refl _ _) _⟩, rfl, .inl ⟨rfl, by rw [show w.heap.size + 1 + 1 = (((w.alloc (.cells #[.int .i64 (1 + 2 * X), .int .i64 (1 + 2 * Y), .int .i64 (2 * X), .int .i64 (2 * Y), .int .i64 (2 * X), .int .i64 (2 + 2 * Y)] 32)).alloc (.cells #[.int .i64 0, .int .i64 0, .int .u8 0] 23))).heap.size by simp]; exact heap_alloc_new _ _⟩⟩
  case round =>
    obtain ⟨i, rfl, u0, rfl, hi⟩ := hrel
    have hB : (((w.alloc (.cells #[.int .i64 (1 + 2 * X), .int .i64 (1 + 2 * Y), .int .i64 (2 * X), .int .i64 (2 * Y), .int .i64 (2 * X), .int .i64 (2 + 2 * Y)] 32)).alloc (.cells #[.int .i64 0, .int .i64 0, .int .u8 0] 23))).heap.size ≤ w.heap.size + 1 + 1 := by simp
    have hq : Below w.heap.size w (on u0) := below_on (below_alloc (below_alloc (Below.refl _ _) _) _) u0
    obtain ⟨rfl, hh⟩ | ⟨rfl, hh⟩ | ⟨rfl, hh⟩ | ⟨rfl, hh⟩ := hi
    · have e2 : (on u0).cell? ⟨w.heap.size + 1 + 1, 2, none⟩ = some (.int .u8 0) := held_cell hh 2
      have f2 : (on u0).frozen? ⟨w.heap.size + 1 + 1, 2, none⟩ = false := held_free hh 2
      have d0 : ∀ v, ((on u0).setCell ⟨w.heap.size + 1 + 1, 2, none⟩ v).cell? ⟨w.heap.size + 1 + 1, 0, none⟩ = some (.int .i64 X) := fun v => held_cell (held_set hh 2 v) 0
      have d1 : ∀ v, ((on u0).setCell ⟨w.heap.size + 1 + 1, 2, none⟩ v).cell? ⟨w.heap.size + 1 + 1, 1, none⟩ = some (.int .i64 Y) := fun v => held_cell (held_set hh 2 v) 1
      have d2 : ∀ v, ((on u0).setCell ⟨w.heap.size + 1 + 1, 2, none⟩ v).cell? ⟨w.heap.size + 1 + 1, 2, none⟩ = some v := fun v => held_cell (held_set hh 2 v) 2
      go_wp2_with fail
      obtain ⟨p, hp, hh2⟩ := stored1 hB hh 2 (.int .u8 0)
      rw [hp]
      clear hp e2 f2 d0 d1 d2 hh hq
      have hq : Below w.heap.size w (on p) := below_on (below_alloc (below_alloc (Below.refl _ _) _) _) p
      have k0 : (on p).cell? ⟨w.heap.size + 1 + 1, 0, none⟩ = some (.int .i64 X) := held_cell hh2 0
      have k1 : (on p).cell? ⟨w.heap.size + 1 + 1, 1, none⟩ = some (.int .i64 Y) := held_cell hh2 1
      have k2 : (on p).cell? ⟨w.heap.size + 1 + 1, 2, none⟩ = some (.int .u8 0) := held_cell hh2 2
      go_wp2_with (first | (go_at_call 43; with_reducible refine (corner_0 X Y _ (hL' _ hq) x1 x2 y1 y2).mono ?_; rintro e wx ⟨rfl, hx⟩; obtain ⟨ux, rfl⟩ := after hx; clear hx) | fail)
      exact ⟨⟨0 + 1, rfl, ⟨_, below_alloc (below_on p.b ux) _⟩, rfl, .inr (.inl ⟨rfl, (heap_alloc_old _ _ (held_lt (held_on ux hh2))).trans (held_on ux hh2)⟩)⟩, by simp [intOf]⟩
    · have e2 : (on u0).cell? ⟨w.heap.size + 1 + 1, 2, none⟩ = some (.int .u8 0) := held_cell hh 2
      have f2 : (on u0).frozen? ⟨w.heap.size + 1 + 1, 2, none⟩ = false := held_free hh 2
      have d0 : ∀ v, ((on u0).setCell ⟨w.heap.size + 1 + 1, 2, none⟩ v).cell? ⟨w.heap.size + 1 + 1, 0, none⟩ = some (.int .i64 X) := fun v => held_cell (held_set hh 2 v) 0
      have d1 : ∀ v, ((on u0).setCell ⟨w.heap.size + 1 + 1, 2, none⟩ v).cell? ⟨w.heap.size + 1 + 1, 1, none⟩ = some (.int .i64 Y) := fun v => held_cell (held_set hh 2 v) 1
      have d2 : ∀ v, ((on u0).setCell ⟨w.heap.size + 1 + 1, 2, none⟩ v).cell? ⟨w.heap.size + 1 + 1, 2, none⟩ = some v := fun v => held_cell (held_set hh 2 v) 2
      go_wp2_with fail
      obtain ⟨p, hp, hh2⟩ := stored1 hB hh 2 (.int .u8 1)
      rw [hp]
      clear hp e2 f2 d0 d1 d2 hh hq
      have hq : Below w.heap.size w (on p) := below_on (below_alloc (below_alloc (Below.refl _ _) _) _) p
      have k0 : (on p).cell? ⟨w.heap.size + 1 + 1, 0, none⟩ = some (.int .i64 X) := held_cell hh2 0
      have k1 : (on p).cell? ⟨w.heap.size + 1 + 1, 1, none⟩ = some (.int .i64 Y) := held_cell hh2 1
      have k2 : (on p).cell? ⟨w.heap.size + 1 + 1, 2, none⟩ = some (.int .u8 1) := held_cell hh2 2
      go_wp2_with (first | (go_at_call 43; with_reducible refine (corner_1 X Y _ (hL' _ hq) x1 x2 y1 y2).mono ?_; rintro e wx ⟨rfl, hx⟩; obtain ⟨ux, rfl⟩ := after hx; clear hx) | fail)
      exact ⟨⟨1 + 1, rfl, ⟨_, below_alloc (below_on p.b ux) _⟩, rfl, .inr (.inr (.inl ⟨rfl, (heap_alloc_old _ _ (held_lt (held_on ux hh2))).trans (held_on ux hh2)⟩))⟩, by simp [intOf]⟩
    · have e2 : (on u0).cell? ⟨w.heap.size + 1 + 1, 2, none⟩ = some (.int .u8 1) := held_cell hh 2
      have f2 : (on u0).frozen? ⟨w.heap.size + 1 + 1, 2, none⟩ = false := held_free hh 2
      have d0 : ∀ v, ((on u0).setCell ⟨w.heap.size + 1 + 1, 2, none⟩ v).cell? ⟨w.heap.size + 1 + 1, 0, none⟩ = some (.int .i64 X) := fun v => held_cell (held_set hh 2 v) 0
      have d1 : ∀ v, ((on u0).setCell ⟨w.heap.size + 1 + 1, 2, none⟩ v).cell? ⟨w.heap.size + 1 + 1, 1, none⟩ = some (.int .i64 Y) := fun v => held_cell (held_set hh 2 v) 1
      have d2 : ∀ v, ((on u0).setCell ⟨w.heap.size + 1 + 1, 2, none⟩ v).cell? ⟨w.heap.size + 1 + 1, 2, none⟩ = some v := fun v => held_cell (held_set hh 2 v) 2
      go_wp2_with fail
      obtain ⟨p, hp, hh2⟩ := stored1 hB hh 2 (.int .u8 2)
      rw [hp]
      clear hp e2 f2 d0 d1 d2 hh hq
      have hq : Below w.heap.size w (on p) := below_on (below_alloc (below_alloc (Below.refl _ _) _) _) p
      have k0 : (on p).cell? ⟨w.heap.size + 1 + 1, 0, none⟩ = some (.int .i64 X) := held_cell hh2 0
      have k1 : (on p).cell? ⟨w.heap.size + 1 + 1, 1, none⟩ = some (.int .i64 Y) := held_cell hh2 1
      have k2 : (on p).cell? ⟨w.heap.size + 1 + 1, 2, none⟩ = some (.int .u8 2) := held_cell hh2 2
      go_wp2_with (first | (go_at_call 43; with_reducible refine (corner_2 X Y _ (hL' _ hq) x1 x2 y1 y2).mono ?_; rintro e wx ⟨rfl, hx⟩; obtain ⟨ux, rfl⟩ := after hx; clear hx) | fail)
      exact ⟨⟨2 + 1, rfl, ⟨_, below_alloc (below_on p.b ux) _⟩, rfl, .inr (.inr (.inr (⟨rfl, (heap_alloc_old _ _ (held_lt (held_on ux hh2))).trans (held_on ux hh2)⟩)))⟩, by simp [intOf]⟩
    · have e2 : (on u0).cell? ⟨w.heap.size + 1 + 1, 2, none⟩ = some (.int .u8 2) := held_cell hh 2
      have f2 : (on u0).frozen? ⟨w.heap.size + 1 + 1, 2, none⟩ = false := held_free hh 2
      have d0 : ∀ v, ((on u0).setCell ⟨w.heap.size + 1 + 1, 2, none⟩ v).cell? ⟨w.heap.size + 1 + 1, 0, none⟩ = some (.int .i64 X) := fun v => held_cell (held_set hh 2 v) 0
      have d1 : ∀ v, ((on u0).setCell ⟨w.heap.size + 1 + 1, 2, none⟩ v).cell? ⟨w.heap.size + 1 + 1, 1, none⟩ = some (.int .i64 Y) := fun v => held_cell (held_set hh 2 v) 1
      have d2 : ∀ v, ((on u0).setCell ⟨w.heap.size + 1 + 1, 2, none⟩ v).cell? ⟨w.heap.size + 1 + 1, 2, none⟩ = some v := fun v => held_cell (held_set hh 2 v) 2
      go_wp2_with fail
      obtain ⟨p, hp, hh2⟩ := stored1 hB hh 2 (.int .u8 3)
      rw [hp]
      clear hp e2 f2 d0 d1 d2 hh hq
      have hq : Below w.heap.size w (on p) := below_on (below_alloc (below_alloc (Below.refl _ _) _) _) p
      have k0 : (on p).cell? ⟨w.heap.size + 1 + 1, 0, none⟩ = some (.int .i64 X) := held_cell hh2 0
      have k1 : (on p).cell? ⟨w.heap.size + 1 + 1, 1, none⟩ = some (.int .i64 Y) := held_cell hh2 1
      have k2 : (on p).cell? ⟨w.heap.size + 1 + 1, 2, none⟩ = some (.int .u8 3) := held_cell hh2 2
      go_wp2_with (first | (go_at_call 43; with_reducible refine (corner_3 X Y _ (hL' _ hq) x1 x2 y1 y2).mono ?_; rintro e wx ⟨rfl, hx⟩; obtain ⟨ux, rfl⟩ := after hx; clear hx) | fail)
      exact bodyPost_ret (v := cl X Y 3) (by simp [results, Tryd.results66, go_sem, k0, k1, k2]) rfl ⟨rfl, (by repeat first | (with_reducible exact hq) | (with_reducible refine below_on ?_ _) | (with_reducible refine below_alloc ?_ _) | (with_reducible refine below_set ?_ (by simp; try omega) _))⟩

set_option maxRecDepth 100000 in
set_option maxHeartbeats 2000000 in
theorem wc_31 (X Y : Int) (w : World) (hL : Lay w) (x1 : -100000 ≤ X) (x2 : X ≤ 100000) (y1 : -100000 ≤ Y) (y2 : Y ≤ 100000) : Calls Tryd.prog 66 #[.agg #[.int .i64 (1 + 2 * X), .int .i64 (1 + 2 * Y), .int .i64 (2 * X), .int .i64 (2 + 2 * Y), .int .i64 (2 * X), .int .i64 (2 * Y)]] w fun e w' => e = .returned (cl X Y 3) ∧ Below w.heap.size w w' := by
  have hL' : ∀ W, Below w.heap.size w W → Lay W := fun W h => lay_below hL h
  have q1 : (1 + 2 * X - 1).tdiv 2 = X := td2 (by omega)
  have q2 : (1 + 2 * Y - 1).tdiv 2 = Y := td2 (by omega)
  go_enter Tryd.func66, Tryd.ntmps66
  go_wp2_with fail
  clear q1 q2
  go_loopw [17] (fun iv wr => ∃ i : Int, iv = .int .u8 i ∧ ∃ u : Later (((w.alloc (.cells #[.int .i64 (1 + 2 * X), .int .i64 (1 + 2 * Y), .int .i64 (2 * X), .int .i64 (2 + 2 * Y), .int .i64 (2 * X), .int .i64 (2 * Y)] 32)).alloc (.cells #[.int .i64 0, .int .i64 0, .int .u8 0] 23))), wr = on u ∧ ((i = 0 ∧ (on u).heap[w.heap.size + 1 + 1]? = some (.cells #[.int .i64 X, .int .i64 Y, .int .u8 0] 23)) ∨ (i = 1 ∧ (on u).heap[w.heap.size + 1 + 1]? = some (.cells #[.int .i64 X, .int .i64 Y, .int .u8 0] 23)) ∨ (i = 2 ∧ (on u).heap[w.heap.size + 1 + 1]? = some (.cells #[.int .i64 X, .int .i64 Y, .int .u8 1] 23)) ∨ (i = 3 ∧ (on u).heap[w.heap.size + 1 + 1]? = some (.cells #[.int .i64 X, .int .i64 Y, .int .u8 2] 23)))) (fun iv _ => (4 - intOf iv).toNat)
  case atStart => exact ⟨0, rfl, ⟨_, below_alloc (Below.refl _ _) _⟩, rfl, .inl ⟨rfl, by rw [show w.heap.size + 1 + 1 = (((w.alloc (.cells #[.int .i64 (1 + 2 * X), .int .i64 (1 + 2 * Y), .int .i64 (2 * X), .int .i64 (2 + 2 * Y), .int .i64 (2 * X), .int .i64 (2 * Y)] 32)).alloc (.cells #[.int .i64 0, .int .i64 0, .int .u8 0] 23))).heap.size by simp]; exact heap_alloc_new _ _⟩⟩
  case round =>
    obtain ⟨i, rfl, u0, rfl, hi⟩ := hrel
    have hB : (((w.alloc (.cells #[.int .i64 (1 + 2 * X), .int .i64 (1 + 2 * Y), .int .i64 (2 * X), .int .i64 (2 + 2 * Y), .int .i64 (2 * X), .int .i64 (2 * Y)] 32)).alloc (.cells #[.int .i64 0, .int .i64 0, .int .u8 0] 23))).heap.size ≤ w.heap.size + 1 + 1 := by simp
    have hq : Below w.heap.size w (on u0) := below_on (below_alloc (below_alloc (Below.refl _ _) _) _) u0
    obtain ⟨rfl, hh⟩ | ⟨rfl, hh⟩ | ⟨rfl, hh⟩ | ⟨rfl, hh⟩ := hi
    · have e2 : (on u0).cell? ⟨w.heap.size + 1 + 1, 2, none⟩ = some (.int .u8 0) := held_cell hh 2
      have f2 : (on u0).frozen? ⟨w.heap.size + 1 + 1, 2, none⟩ = false := held_free hh 2
      have d0 : ∀ v, ((on u0).setCell ⟨w.heap.size + 1 + 1, 2, none⟩ v).cell? ⟨w.heap.size + 1 + 1, 0, none⟩ = some (.int .i64 X) := fun v => held_cell (held_set hh 2 v) 0
      have d1 : ∀ v, ((on u0).setCell ⟨w.heap.size + 1 + 1, 2, none⟩ v).cell? ⟨w.heap.size + 1 + 1, 1, none⟩ = some (.int .i64 Y) := fun v => held_cell (held_set hh 2 v) 1
      have d2 : ∀ v, ((on u0).setCell ⟨w.heap.size + 1 + 1, 2, none⟩ v).cell? ⟨w.heap.size + 1 + 1, 2, none⟩ = some v := fun v => held_cell (held_set hh 2 v) 2
      go_wp2_with fail
      obtain ⟨p, hp, hh2⟩ := stored1 hB hh 2 (.int .u8 0)
      rw [hp]
      clear hp e2 f2 d0 d1 d2 hh hq
      have hq : Below w.heap.size w (on p) := below_on (below_alloc (below_alloc (Below.refl _ _) _) _) p
      have k0 : (on p).cell? ⟨w.heap.size + 1 + 1, 0, none⟩ = some (.int .i64 X) := held_cell hh2 0
      have k1 : (on p).cell? ⟨w.heap.size + 1 + 1, 1, none⟩ = some (.int .i64 Y) := held_cell hh2 1
      have k2 : (on p).cell? ⟨w.heap.size + 1 + 1, 2, none⟩ = some (.int .u8 0) := held_cell hh2 2
      go_wp2_with (first | (go_at_call 43; with_reducible refine (corner_0 X Y _ (hL' _ hq) x1 x2 y1 y2).mono ?_; rintro e wx ⟨rfl, hx⟩; obtain ⟨ux, rfl⟩ := after hx; clear hx) | fail)
      exact ⟨⟨0 + 1, rfl, ⟨_, below_alloc (below_on p.b ux) _⟩, rfl, .inr (.inl ⟨rfl, (heap_alloc_old _ _ (held_lt (held_on ux hh2))).trans (held_on ux hh2)⟩)⟩, by simp [intOf]⟩
    · have e2 : (on u0).cell? ⟨w.heap.size + 1 + 1, 2, none⟩ = some (.int .u8 0) := held_cell hh 2
      have f2 : (on u0).frozen? ⟨w.heap.size + 1 + 1, 2, none⟩ = false := held_free hh 2
      have d0 : ∀ v, ((on u0).setCell ⟨w.heap.size + 1 + 1, 2, none⟩ v).cell? ⟨w.heap.size + 1 + 1, 0, none⟩ = some (.int .i64 X) := fun v => held_cell (held_set hh 2 v) 0
      have d1 : ∀ v, ((on u0).setCell ⟨w.heap.size + 1 + 1, 2, none⟩ v).cell? ⟨w.heap.size + 1 + 1, 1, none⟩ = some (.int .i64 Y) := fun v => held_cell (held_set hh 2 v) 1
      have d2 : ∀ v, ((on u0).setCell ⟨w.heap.size + 1 + 1, 2, none⟩ v).cell? ⟨w.heap.size + 1 + 1, 2, none⟩ = some v := fun v => held_cell (held_set hh 2 v) 2
      go_wp2_with fail
      obtain ⟨p, hp, hh2⟩ := stored1 hB hh 2 (.int .u8 1)
      rw [hp]
      clear hp e2 f2 d0 d1 d2 hh hq
      have hq : Below w.heap.size w (on p) := below_on (below_alloc (below_alloc (Below.refl _ _) _) _) p
      have k0 : (on p).cell? ⟨w.heap.size + 1 + 1, 0, none⟩ = some (.int .i64 X) := held_cell hh2 0
      have k1 : (on p).cell? ⟨w.heap.size + 1 + 1, 1, none⟩ = some (.int .i64 Y) := held_cell hh2 1
      have k2 : (on p).cell? ⟨w.heap.size + 1 + 1, 2, none⟩ = some (.int .u8 1) := held_cell hh2 2
      go_wp2_with (first | (go_at_call 43; with_reducible refine (corner_1 X Y _ (hL' _ hq) x1 x2 y1 y2).mono ?_; rintro e wx ⟨rfl, hx⟩; obtain ⟨ux, rfl⟩ := after hx; clear hx) | fail)
      exact ⟨⟨1 + 1, rfl, ⟨_, below_alloc (below_on p.b ux) _⟩, rfl, .inr (.inr (.inl ⟨rfl, (heap_alloc_old _ _ (held_lt (held_on ux hh2))).trans (held_on ux hh2)⟩))⟩, by simp [intOf]⟩
    · have e2 : (on u0).cell? ⟨w.heap.size + 1 + 1, 2, none⟩ = some (.int .u8 1) := held_cell hh 2
      have f2 : (on u0).frozen? ⟨w.heap.size + 1 + 1, 2, none⟩ = false := held_free hh 2
      have d0 : ∀ v, ((on u0).setCell ⟨w.heap.size + 1 + 1, 2, none⟩ v).cell? ⟨w.heap.size + 1 + 1, 0, none⟩ = some (.int .i64 X) := fun v => held_cell (held_set hh 2 v) 0
      have d1 : ∀ v, ((on u0).setCell ⟨w.heap.size + 1 + 1, 2, none⟩ v).cell? ⟨w.heap.size + 1 + 1, 1, none⟩ = some (.int .i64 Y) := fun v => held_cell (held_set hh 2 v) 1
      have d2 : ∀ v, ((on u0).setCell ⟨w.heap.size + 1 + 1, 2, none⟩ v).cell? ⟨w.heap.size + 1 + 1, 2, none⟩ = some v := fun v => held_cell (held_set hh 2 v) 2
      go_wp2_with fail
      obtain ⟨p, hp, hh2⟩ := stored1 hB hh 2 (.int .u8 2)
      rw [hp]
      clear hp e2 f2 d0 d1 d2 hh hq
      have hq : Below w.heap.size w (on p) := below_on (below_alloc (below_alloc (Below.refl _ _) _) _) p
      have k0 : (on p).cell? ⟨w.heap.size + 1 + 1, 0, none⟩ = some (.int .i64 X) := held_cell hh2 0
      have k1 : (on p).cell? ⟨w.heap.size + 1 + 1, 1, none⟩ = some (.int .i64 Y) := held_cell hh2 1
      have k2 : (on p).cell? ⟨w.heap.size + 1 + 1, 2, none⟩ = some (.int .u8 2) := held_cell hh2 2
      go_wp2_with (first | (go_at_call 43; with_reducible refine (corner_2 X Y _ (hL' _ hq) x1 x2 y1 y2).mono ?_; rintro e wx ⟨rfl, hx⟩; obtain ⟨ux, rfl⟩ := after hx; clear hx) | fail)
      exact ⟨⟨2 + 1, rfl, ⟨_, below_alloc (below_on p.b ux) _⟩, rfl, .inr (.inr (.inr (⟨rfl, (heap_alloc_old _ _ (held_lt (held_on ux hh2))).trans (held_on ux hh2)⟩)))⟩, by simp [intOf]⟩
    · have e2 : (on u0).cell? ⟨w.heap.size + 1 + 1, 2, none⟩ = some (.int .u8 2) := held_cell hh 2
      have f2 : (on u0).frozen? ⟨w.heap.size + 1 + 1, 2, none⟩ = false := held_free hh 2
      have d0 : ∀ v, ((on u0).setCell ⟨w.heap.size + 1 + 1, 2, none⟩ v).cell? ⟨w.heap.size + 1 + 1, 0, none⟩ = some (.int .i64 X) := fun v => held_cell (held_set hh 2 v) 0
      have d1 : ∀ v, ((on u0).setCell ⟨w.heap.size + 1 + 1, 2, none⟩ v).cell? ⟨w.heap.size + 1 + 1, 1, none⟩ = some (.int .i64 Y) := fun v => held_cell (held_set hh 2 v) 1
      have d2 : ∀ v, ((on u0).setCell ⟨w.heap.size + 1 + 1, 2, none⟩ v).cell? ⟨w.heap.size + 1 + 1, 2, none⟩ = some v := fun v => held_cell (held_set hh 2 v) 2
      go_wp2_with fail
      obtain ⟨p, hp, hh2⟩ := stored1 hB hh 2 (.int .u8 3)
      rw [hp]
      clear hp e2 f2 d0 d1 d2 hh hq
      have hq : Below w.heap.size w (on p) := below_on (below_alloc (below_alloc (Below.refl _ _) _) _) p
      have k0 : (on p).cell? ⟨w.heap.size + 1 + 1, 0, none⟩ = some (.int .i64 X) := held_cell hh2 0
      have k1 : (on p).cell? ⟨w.heap.size + 1 + 1, 1, none⟩ = some (.int .i64 Y) := held_cell hh2 1
      have k2 : (on p).cell? ⟨w.heap.size + 1 + 1, 2, none⟩ = some (.int .u8 3) := held_cell hh2 2
      go_wp2_with (first | (go_at_call 43; with_reducible refine (corner_3 X Y _ (hL' _ hq) x1 x2 y1 y2).mono ?_; rintro e wx ⟨rfl, hx⟩; obtain ⟨ux, rfl⟩ := after hx; clear hx) | fail)
      exact bodyPost_ret (v := cl X Y 3) (by simp [results, Tryd.results66, go_sem, k0, k1, k2]) rfl ⟨rfl, (by repeat first | (with_reducible exact hq) | (with_reducible refine below_on ?_ _) | (with_reducible refine below_alloc ?_ _) | (with_reducible refine below_set ?_ (by simp; try omega) _))⟩

end Go.Proofs.YtgkiliijefkcaaaDoor
