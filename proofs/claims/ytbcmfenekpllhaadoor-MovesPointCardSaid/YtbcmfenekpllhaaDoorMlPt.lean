/-
  Says: MovesPoint answers true at every input, where the package-level variables stand as they were laid.
-/
import Derived.Test.YtbcmfenekpllhaaDoorMv12
import Derived.Test.YtbcmfenekpllhaaDoorMv5
import Derived.Test.YtbcmfenekpllhaaDoorMv6
import Derived.Test.YtbcmfenekpllhaaDoorMr3
import Derived.Test.YtbcmfenekpllhaaDoorMvz
import Derived.Deep.RegionHeld3
import Derived.RowKit3
import Derived.Test.YtbcmfenekpllhaaDoorRfA
import Derived.Test.YtbcmfenekpllhaaDoorMr1
set_option linter.unusedVariables false
set_option linter.unusedSimpArgs false
namespace Go.Proofs.YtbcmfenekpllhaaDoor
open Go Go.RowKit

attribute [local go_sem] World.cell?_alloc_some frozen?_alloc_cells fz0 fz1 fz2 fz3 fz4 fz5

theorem sq_le (a n : Int) (h1 : -n ≤ a) (h2 : a ≤ n) : 0 ≤ a * a ∧ a * a ≤ n * n := by
  refine ⟨?_, ?_⟩
  · rcases Int.le_total 0 a with h | h
    · exact Int.mul_nonneg h h
    · exact Int.mul_nonneg_of_nonpos_of_nonpos h h
  · rcases Int.le_total 0 a with h | h
    · exact Int.mul_le_mul h2 h2 h (by omega)
    · rw [← Int.neg_mul_neg]; exact Int.mul_le_mul (by omega) (by omega) (by omega) (by omega)
theorem mv_sq (t x y : Int) (b1 : 0 ≤ t) (b2 : t ≤ 7) : mvx t x y * mvx t x y + mvy t x y * mvy t x y = x * x + y * y := by
  obtain rfl | rfl | rfl | rfl | rfl | rfl | rfl | rfl : t = 0 ∨ t = 1 ∨ t = 2 ∨ t = 3 ∨ t = 4 ∨ t = 5 ∨ t = 6 ∨ t = 7 := by omega
  · simp only [mvx0, mvy0, Int.neg_mul_neg]; try omega
  · simp only [mvx1, mvy1, Int.neg_mul_neg]; try omega
  · simp only [mvx2, mvy2, Int.neg_mul_neg]; try omega
  · simp only [mvx3, mvy3, Int.neg_mul_neg]; try omega
  · simp only [mvx4, mvy4, Int.neg_mul_neg]; try omega
  · simp only [mvx5, mvy5, Int.neg_mul_neg]; try omega
  · simp only [mvx6, mvy6, Int.neg_mul_neg]; try omega
  · simp only [mvx7, mvy7, Int.neg_mul_neg]; try omega

set_option maxRecDepth 100000 in
set_option maxHeartbeats 8000000 in
theorem mpt_bad1 (t X Y x y : Int) (w : World) (hS : Std w) (h : 7 < t ∨ X < -16384 ∨ 16384 < X ∨ Y < -16384 ∨ 16384 < Y ∨ (X + Y) % 2 ≠ 0) : Calls Tryd.prog 8 #[mv t X Y, pt x y] w fun e w' => e = .returned (.bool true) ∧ Below w.heap.size w w' := by
  have hS' : ∀ W, Below w.heap.size w W → Std W := fun W h => std_below hS h
  have H : Hid (7 < t ∨ X < -16384 ∨ 16384 < X ∨ Y < -16384 ∨ 16384 < Y ∨ (X + Y) % 2 ≠ 0) := h
  clear h
  go_enter Tryd.func8, Tryd.ntmps8
  go_wp2_with fail
  have hB0 : Below w.heap.size w ((w.alloc (.cells #[.int .u8 t, .int .i64 (X), .int .i64 (Y)] 51)).alloc (.cells #[.int .i64 (x), .int .i64 (y)] 31)) := (by repeat first | (with_reducible exact Below.refl _ _) | (with_reducible refine below_on ?_ _) | (with_reducible refine below_alloc ?_ _) | (with_reducible refine below_set ?_ (by simp; try omega) _))
  have b00 : ((w.alloc (.cells #[.int .u8 t, .int .i64 (X), .int .i64 (Y)] 51)).alloc (.cells #[.int .i64 (x), .int .i64 (y)] 31)).cell? ⟨w.heap.size, 0, none⟩ = some (.int .u8 t) := by simp [go_sem]
  have b01 : ((w.alloc (.cells #[.int .u8 t, .int .i64 (X), .int .i64 (Y)] 51)).alloc (.cells #[.int .i64 (x), .int .i64 (y)] 31)).cell? ⟨w.heap.size, 1, none⟩ = some (.int .i64 (X)) := by simp [go_sem]
  have b02 : ((w.alloc (.cells #[.int .u8 t, .int .i64 (X), .int .i64 (Y)] 51)).alloc (.cells #[.int .i64 (x), .int .i64 (y)] 31)).cell? ⟨w.heap.size, 2, none⟩ = some (.int .i64 (Y)) := by simp [go_sem]
  have b10 : ((w.alloc (.cells #[.int .u8 t, .int .i64 (X), .int .i64 (Y)] 51)).alloc (.cells #[.int .i64 (x), .int .i64 (y)] 31)).cell? ⟨w.heap.size + 1, 0, none⟩ = some (.int .i64 (x)) := by simp [go_sem]
  have b11 : ((w.alloc (.cells #[.int .u8 t, .int .i64 (X), .int .i64 (Y)] 51)).alloc (.cells #[.int .i64 (x), .int .i64 (y)] 31)).cell? ⟨w.heap.size + 1, 1, none⟩ = some (.int .i64 (y)) := by simp [go_sem]
  generalize ((w.alloc (.cells #[.int .u8 t, .int .i64 (X), .int .i64 (Y)] 51)).alloc (.cells #[.int .i64 (x), .int .i64 (y)] 31)) = W0 at *
  go_wp2_with (first | (go_at_call 29; with_reducible refine (mpoint_bad1 t X Y x y _ H.out).mono ?_; rintro e wx ⟨rfl, hx⟩; obtain ⟨ux, rfl⟩ := after hx; clear hx) | fail)
  have hR : Below (W0).heap.size (W0) ((on ux).alloc (.cells #[.int .i64 (0), .int .i64 (0)] 31)) := by repeat first | (with_reducible exact Below.refl _ _) | (with_reducible refine below_on ?_ _) | (with_reducible refine below_alloc ?_ _)
  have b00' : ((on ux).alloc (.cells #[.int .i64 (0), .int .i64 (0)] 31)).cell? ⟨w.heap.size, 0, none⟩ = some (.int .u8 t) := (hR.cell (World.block_lt_of_cell? _ _ b00)).trans b00
  have b01' : ((on ux).alloc (.cells #[.int .i64 (0), .int .i64 (0)] 31)).cell? ⟨w.heap.size, 1, none⟩ = some (.int .i64 (X)) := (hR.cell (World.block_lt_of_cell? _ _ b01)).trans b01
  have b02' : ((on ux).alloc (.cells #[.int .i64 (0), .int .i64 (0)] 31)).cell? ⟨w.heap.size, 2, none⟩ = some (.int .i64 (Y)) := (hR.cell (World.block_lt_of_cell? _ _ b02)).trans b02
  have b10' : ((on ux).alloc (.cells #[.int .i64 (0), .int .i64 (0)] 31)).cell? ⟨w.heap.size + 1, 0, none⟩ = some (.int .i64 (x)) := (hR.cell (World.block_lt_of_cell? _ _ b10)).trans b10
  have b11' : ((on ux).alloc (.cells #[.int .i64 (0), .int .i64 (0)] 31)).cell? ⟨w.heap.size + 1, 1, none⟩ = some (.int .i64 (y)) := (hR.cell (World.block_lt_of_cell? _ _ b11)).trans b11
  have B100 : ((on ux).alloc (.cells #[.int .i64 (0), .int .i64 (0)] 31)).cell? ⟨(on ux).heap.size, 0, none⟩ = some (.int .i64 (0)) := by simp [go_sem]
  have B101 : ((on ux).alloc (.cells #[.int .i64 (0), .int .i64 (0)] 31)).cell? ⟨(on ux).heap.size, 1, none⟩ = some (.int .i64 (0)) := by simp [go_sem]
  have hB1 : Below w.heap.size w ((on ux).alloc (.cells #[.int .i64 (0), .int .i64 (0)] 31)) := by repeat first | (with_reducible exact hB0) | (with_reducible refine below_on ?_ _) | (with_reducible refine below_alloc ?_ _)
  clear hR b00 b01 b02 b10 b11  hB0
  generalize ((on ux).alloc (.cells #[.int .i64 (0), .int .i64 (0)] 31)) = W1 at *
  generalize (on ux).heap.size = B1 at *
  clear ux
  go_wp2_with (first | (go_at_call 35; with_reducible refine (mvalid_no t X Y _ H.out).mono ?_; rintro e wx ⟨rfl, hx⟩; obtain ⟨ux, rfl⟩ := after hx; clear hx) | (go_at_call 28; with_reducible refine (lives2_ok _ (hS' _ (by repeat first | (with_reducible exact hB1) | (with_reducible refine below_on ?_ _) | (with_reducible refine below_alloc ?_ _) | (with_reducible refine below_set ?_ (by simp; try omega) _)))).mono ?_; rintro e wx ⟨rfl, hx⟩; obtain ⟨ux, rfl⟩ := after hx; clear hx) | fail)
  go_ret
  exact ⟨rfl, (by repeat first | (with_reducible exact hB1) | (with_reducible refine below_on ?_ _) | (with_reducible refine below_alloc ?_ _) | (with_reducible refine below_set ?_ (by simp; try omega) _))⟩

set_option maxRecDepth 100000 in
set_option maxHeartbeats 8000000 in
theorem mpt_bad2 (t X Y x y : Int) (w : World) (hS : Std w) (a1 : 0 ≤ t) (a2 : t ≤ 7) (a3 : -16384 ≤ X) (a4 : X ≤ 16384) (a5 : -16384 ≤ Y) (a6 : Y ≤ 16384) (a7 : (X + Y) % 2 = 0) (h : x < -65536 ∨ 65536 < x ∨ y < -65536 ∨ 65536 < y) : Calls Tryd.prog 8 #[mv t X Y, pt x y] w fun e w' => e = .returned (.bool true) ∧ Below w.heap.size w w' := by
  have hS' : ∀ W, Below w.heap.size w W → Std W := fun W h => std_below hS h
  have HA : Hid ((X + Y) % 2 = 0) := a7
  clear a7
  have H : Hid (x < -65536 ∨ 65536 < x ∨ y < -65536 ∨ 65536 < y) := h
  clear h
  go_enter Tryd.func8, Tryd.ntmps8
  go_wp2_with fail
  have hB0 : Below w.heap.size w ((w.alloc (.cells #[.int .u8 t, .int .i64 (X), .int .i64 (Y)] 51)).alloc (.cells #[.int .i64 (x), .int .i64 (y)] 31)) := (by repeat first | (with_reducible exact Below.refl _ _) | (with_reducible refine below_on ?_ _) | (with_reducible refine below_alloc ?_ _) | (with_reducible refine below_set ?_ (by simp; try omega) _))
  have b00 : ((w.alloc (.cells #[.int .u8 t, .int .i64 (X), .int .i64 (Y)] 51)).alloc (.cells #[.int .i64 (x), .int .i64 (y)] 31)).cell? ⟨w.heap.size, 0, none⟩ = some (.int .u8 t) := by simp [go_sem]
  have b01 : ((w.alloc (.cells #[.int .u8 t, .int .i64 (X), .int .i64 (Y)] 51)).alloc (.cells #[.int .i64 (x), .int .i64 (y)] 31)).cell? ⟨w.heap.size, 1, none⟩ = some (.int .i64 (X)) := by simp [go_sem]
  have b02 : ((w.alloc (.cells #[.int .u8 t, .int .i64 (X), .int .i64 (Y)] 51)).alloc (.cells #[.int .i64 (x), .int .i64 (y)] 31)).cell? ⟨w.heap.size, 2, none⟩ = some (.int .i64 (Y)) := by simp [go_sem]
  have b10 : ((w.alloc (.cells #[.int .u8 t, .int .i64 (X), .int .i64 (Y)] 51)).alloc (.cells #[.int .i64 (x), .int .i64 (y)] 31)).cell? ⟨w.heap.size + 1, 0, none⟩ = some (.int .i64 (x)) := by simp [go_sem]
  have b11 : ((w.alloc (.cells #[.int .u8 t, .int .i64 (X), .int .i64 (Y)] 51)).alloc (.cells #[.int .i64 (x), .int .i64 (y)] 31)).cell? ⟨w.heap.size + 1, 1, none⟩ = some (.int .i64 (y)) := by simp [go_sem]
  generalize ((w.alloc (.cells #[.int .u8 t, .int .i64 (X), .int .i64 (Y)] 51)).alloc (.cells #[.int .i64 (x), .int .i64 (y)] 31)) = W0 at *
  go_wp2_with (first | (go_at_call 29; with_reducible refine (mpoint_bad2 t X Y x y _ a1 a2 a3 a4 a5 a6 HA.out H.out).mono ?_; rintro e wx ⟨rfl, hx⟩; obtain ⟨ux, rfl⟩ := after hx; clear hx) | fail)
  have hR : Below (W0).heap.size (W0) ((on ux).alloc (.cells #[.int .i64 (0), .int .i64 (0)] 31)) := by repeat first | (with_reducible exact Below.refl _ _) | (with_reducible refine below_on ?_ _) | (with_reducible refine below_alloc ?_ _)
  have b00' : ((on ux).alloc (.cells #[.int .i64 (0), .int .i64 (0)] 31)).cell? ⟨w.heap.size, 0, none⟩ = some (.int .u8 t) := (hR.cell (World.block_lt_of_cell? _ _ b00)).trans b00
  have b01' : ((on ux).alloc (.cells #[.int .i64 (0), .int .i64 (0)] 31)).cell? ⟨w.heap.size, 1, none⟩ = some (.int .i64 (X)) := (hR.cell (World.block_lt_of_cell? _ _ b01)).trans b01
  have b02' : ((on ux).alloc (.cells #[.int .i64 (0), .int .i64 (0)] 31)).cell? ⟨w.heap.size, 2, none⟩ = some (.int .i64 (Y)) := (hR.cell (World.block_lt_of_cell? _ _ b02)).trans b02
  have b10' : ((on ux).alloc (.cells #[.int .i64 (0), .int .i64 (0)] 31)).cell? ⟨w.heap.size + 1, 0, none⟩ = some (.int .i64 (x)) := (hR.cell (World.block_lt_of_cell? _ _ b10)).trans b10
  have b11' : ((on ux).alloc (.cells #[.int .i64 (0), .int .i64 (0)] 31)).cell? ⟨w.heap.size + 1, 1, none⟩ = some (.int .i64 (y)) := (hR.cell (World.block_lt_of_cell? _ _ b11)).trans b11
  have B100 : ((on ux).alloc (.cells #[.int .i64 (0), .int .i64 (0)] 31)).cell? ⟨(on ux).heap.size, 0, none⟩ = some (.int .i64 (0)) := by simp [go_sem]
  have B101 : ((on ux).alloc (.cells #[.int .i64 (0), .int .i64 (0)] 31)).cell? ⟨(on ux).heap.size, 1, none⟩ = some (.int .i64 (0)) := by simp [go_sem]
  have hB1 : Below w.heap.size w ((on ux).alloc (.cells #[.int .i64 (0), .int .i64 (0)] 31)) := by repeat first | (with_reducible exact hB0) | (with_reducible refine below_on ?_ _) | (with_reducible refine below_alloc ?_ _)
  clear hR b00 b01 b02 b10 b11  hB0
  generalize ((on ux).alloc (.cells #[.int .i64 (0), .int .i64 (0)] 31)) = W1 at *
  generalize (on ux).heap.size = B1 at *
  clear ux
  go_wp2_with (first | (go_at_call 35; with_reducible refine (mvalid_yes t X Y _ a1 a2 a3 a4 a5 a6 HA.out).mono ?_; rintro e wx ⟨rfl, hx⟩; obtain ⟨ux, rfl⟩ := after hx; clear hx) | (go_at_call 39; with_reducible refine (inside_no x y _ H.out).mono ?_; rintro e wx ⟨rfl, hx⟩; obtain ⟨ux, rfl⟩ := after hx; clear hx) | (go_at_call 28; with_reducible refine (lives2_ok _ (hS' _ (by repeat first | (with_reducible exact hB1) | (with_reducible refine below_on ?_ _) | (with_reducible refine below_alloc ?_ _) | (with_reducible refine below_set ?_ (by simp; try omega) _)))).mono ?_; rintro e wx ⟨rfl, hx⟩; obtain ⟨ux, rfl⟩ := after hx; clear hx) | fail)
  go_ret
  exact ⟨rfl, (by repeat first | (with_reducible exact hB1) | (with_reducible refine below_on ?_ _) | (with_reducible refine below_alloc ?_ _) | (with_reducible refine below_set ?_ (by simp; try omega) _))⟩

set_option maxRecDepth 100000 in
set_option maxHeartbeats 8000000 in
theorem mpt_far (t X Y x y : Int) (w : World) (hS : Std w) (a1 : 0 ≤ t) (a2 : t ≤ 7) (a3 : -16384 ≤ X) (a4 : X ≤ 16384) (a5 : -16384 ≤ Y) (a6 : Y ≤ 16384) (a7 : (X + Y) % 2 = 0) (p1 : -65536 ≤ x) (p2 : x ≤ 65536) (p3 : -65536 ≤ y) (p4 : y ≤ 65536) (hq : mvx t x y + 2 * X < -65536 ∨ 65536 < mvx t x y + 2 * X ∨ mvy t x y + 2 * Y < -65536 ∨ 65536 < mvy t x y + 2 * Y) : Calls Tryd.prog 8 #[mv t X Y, pt x y] w fun e w' => e = .returned (.bool true) ∧ Below w.heap.size w w' := by
  have hS' : ∀ W, Below w.heap.size w W → Std W := fun W h => std_below hS h
  have HA : Hid ((X + Y) % 2 = 0) := a7
  clear a7
  have HQ : Hid (mvx t x y + 2 * X < -65536 ∨ 65536 < mvx t x y + 2 * X ∨ mvy t x y + 2 * Y < -65536 ∨ 65536 < mvy t x y + 2 * Y) := hq
  clear hq
  go_enter Tryd.func8, Tryd.ntmps8
  go_wp2_with fail
  have hB0 : Below w.heap.size w ((w.alloc (.cells #[.int .u8 t, .int .i64 (X), .int .i64 (Y)] 51)).alloc (.cells #[.int .i64 (x), .int .i64 (y)] 31)) := (by repeat first | (with_reducible exact Below.refl _ _) | (with_reducible refine below_on ?_ _) | (with_reducible refine below_alloc ?_ _) | (with_reducible refine below_set ?_ (by simp; try omega) _))
  have b00 : ((w.alloc (.cells #[.int .u8 t, .int .i64 (X), .int .i64 (Y)] 51)).alloc (.cells #[.int .i64 (x), .int .i64 (y)] 31)).cell? ⟨w.heap.size, 0, none⟩ = some (.int .u8 t) := by simp [go_sem]
  have b01 : ((w.alloc (.cells #[.int .u8 t, .int .i64 (X), .int .i64 (Y)] 51)).alloc (.cells #[.int .i64 (x), .int .i64 (y)] 31)).cell? ⟨w.heap.size, 1, none⟩ = some (.int .i64 (X)) := by simp [go_sem]
  have b02 : ((w.alloc (.cells #[.int .u8 t, .int .i64 (X), .int .i64 (Y)] 51)).alloc (.cells #[.int .i64 (x), .int .i64 (y)] 31)).cell? ⟨w.heap.size, 2, none⟩ = some (.int .i64 (Y)) := by simp [go_sem]
  have b10 : ((w.alloc (.cells #[.int .u8 t, .int .i64 (X), .int .i64 (Y)] 51)).alloc (.cells #[.int .i64 (x), .int .i64 (y)] 31)).cell? ⟨w.heap.size + 1, 0, none⟩ = some (.int .i64 (x)) := by simp [go_sem]
  have b11 : ((w.alloc (.cells #[.int .u8 t, .int .i64 (X), .int .i64 (Y)] 51)).alloc (.cells #[.int .i64 (x), .int .i64 (y)] 31)).cell? ⟨w.heap.size + 1, 1, none⟩ = some (.int .i64 (y)) := by simp [go_sem]
  generalize ((w.alloc (.cells #[.int .u8 t, .int .i64 (X), .int .i64 (Y)] 51)).alloc (.cells #[.int .i64 (x), .int .i64 (y)] 31)) = W0 at *
  go_wp2_with (first | (go_at_call 29; with_reducible refine (mpoint_far t X Y x y _ (hS' _ (by repeat first | (with_reducible exact hB0) | (with_reducible refine below_on ?_ _) | (with_reducible refine below_alloc ?_ _) | (with_reducible refine below_set ?_ (by simp; try omega) _))).turns a1 a2 a3 a4 a5 a6 HA.out p1 p2 p3 p4 HQ.out).mono ?_; rintro e wx ⟨rfl, hx⟩; obtain ⟨ux, rfl⟩ := after hx; clear hx) | fail)
  have hR : Below (W0).heap.size (W0) ((on ux).alloc (.cells #[.int .i64 (0), .int .i64 (0)] 31)) := by repeat first | (with_reducible exact Below.refl _ _) | (with_reducible refine below_on ?_ _) | (with_reducible refine below_alloc ?_ _)
  have b00' : ((on ux).alloc (.cells #[.int .i64 (0), .int .i64 (0)] 31)).cell? ⟨w.heap.size, 0, none⟩ = some (.int .u8 t) := (hR.cell (World.block_lt_of_cell? _ _ b00)).trans b00
  have b01' : ((on ux).alloc (.cells #[.int .i64 (0), .int .i64 (0)] 31)).cell? ⟨w.heap.size, 1, none⟩ = some (.int .i64 (X)) := (hR.cell (World.block_lt_of_cell? _ _ b01)).trans b01
  have b02' : ((on ux).alloc (.cells #[.int .i64 (0), .int .i64 (0)] 31)).cell? ⟨w.heap.size, 2, none⟩ = some (.int .i64 (Y)) := (hR.cell (World.block_lt_of_cell? _ _ b02)).trans b02
  have b10' : ((on ux).alloc (.cells #[.int .i64 (0), .int .i64 (0)] 31)).cell? ⟨w.heap.size + 1, 0, none⟩ = some (.int .i64 (x)) := (hR.cell (World.block_lt_of_cell? _ _ b10)).trans b10
  have b11' : ((on ux).alloc (.cells #[.int .i64 (0), .int .i64 (0)] 31)).cell? ⟨w.heap.size + 1, 1, none⟩ = some (.int .i64 (y)) := (hR.cell (World.block_lt_of_cell? _ _ b11)).trans b11
  have B100 : ((on ux).alloc (.cells #[.int .i64 (0), .int .i64 (0)] 31)).cell? ⟨(on ux).heap.size, 0, none⟩ = some (.int .i64 (0)) := by simp [go_sem]
  have B101 : ((on ux).alloc (.cells #[.int .i64 (0), .int .i64 (0)] 31)).cell? ⟨(on ux).heap.size, 1, none⟩ = some (.int .i64 (0)) := by simp [go_sem]
  have hB1 : Below w.heap.size w ((on ux).alloc (.cells #[.int .i64 (0), .int .i64 (0)] 31)) := by repeat first | (with_reducible exact hB0) | (with_reducible refine below_on ?_ _) | (with_reducible refine below_alloc ?_ _)
  clear hR b00 b01 b02 b10 b11  hB0
  generalize ((on ux).alloc (.cells #[.int .i64 (0), .int .i64 (0)] 31)) = W1 at *
  generalize (on ux).heap.size = B1 at *
  clear ux
  go_wp2_with (first | (go_at_call 35; with_reducible refine (mvalid_yes t X Y _ a1 a2 a3 a4 a5 a6 HA.out).mono ?_; rintro e wx ⟨rfl, hx⟩; obtain ⟨ux, rfl⟩ := after hx; clear hx) | (go_at_call 39; with_reducible refine (inside_yes x y _ p1 p2 p3 p4).mono ?_; rintro e wx ⟨rfl, hx⟩; obtain ⟨ux, rfl⟩ := after hx; clear hx) | fail)
  go_wp2_with (first | (go_at_call 40; with_reducible refine (rpoint_any t X Y x y _ a1 a2 (by omega) (by omega) (by omega) (by omega) (by omega) (by omega) (by omega) (by omega)).mono ?_; rintro e wx ⟨rfl, hx⟩; obtain ⟨ux, rfl⟩ := after hx; clear hx) | fail)
  have hR : Below (W1).heap.size (W1) ((on ux).alloc (.cells #[.int .i64 (mvx t x y + 2 * X), .int .i64 (mvy t x y + 2 * Y)] 31)) := by repeat first | (with_reducible exact Below.refl _ _) | (with_reducible refine below_on ?_ _) | (with_reducible refine below_alloc ?_ _)
  have b00'' : ((on ux).alloc (.cells #[.int .i64 (mvx t x y + 2 * X), .int .i64 (mvy t x y + 2 * Y)] 31)).cell? ⟨w.heap.size, 0, none⟩ = some (.int .u8 t) := (hR.cell (World.block_lt_of_cell? _ _ b00')).trans b00'
  have b01'' : ((on ux).alloc (.cells #[.int .i64 (mvx t x y + 2 * X), .int .i64 (mvy t x y + 2 * Y)] 31)).cell? ⟨w.heap.size, 1, none⟩ = some (.int .i64 (X)) := (hR.cell (World.block_lt_of_cell? _ _ b01')).trans b01'
  have b02'' : ((on ux).alloc (.cells #[.int .i64 (mvx t x y + 2 * X), .int .i64 (mvy t x y + 2 * Y)] 31)).cell? ⟨w.heap.size, 2, none⟩ = some (.int .i64 (Y)) := (hR.cell (World.block_lt_of_cell? _ _ b02')).trans b02'
  have b10'' : ((on ux).alloc (.cells #[.int .i64 (mvx t x y + 2 * X), .int .i64 (mvy t x y + 2 * Y)] 31)).cell? ⟨w.heap.size + 1, 0, none⟩ = some (.int .i64 (x)) := (hR.cell (World.block_lt_of_cell? _ _ b10')).trans b10'
  have b11'' : ((on ux).alloc (.cells #[.int .i64 (mvx t x y + 2 * X), .int .i64 (mvy t x y + 2 * Y)] 31)).cell? ⟨w.heap.size + 1, 1, none⟩ = some (.int .i64 (y)) := (hR.cell (World.block_lt_of_cell? _ _ b11')).trans b11'
  have B100' : ((on ux).alloc (.cells #[.int .i64 (mvx t x y + 2 * X), .int .i64 (mvy t x y + 2 * Y)] 31)).cell? ⟨B1, 0, none⟩ = some (.int .i64 (0)) := (hR.cell (World.block_lt_of_cell? _ _ B100)).trans B100
  have B101' : ((on ux).alloc (.cells #[.int .i64 (mvx t x y + 2 * X), .int .i64 (mvy t x y + 2 * Y)] 31)).cell? ⟨B1, 1, none⟩ = some (.int .i64 (0)) := (hR.cell (World.block_lt_of_cell? _ _ B101)).trans B101
  have B200 : ((on ux).alloc (.cells #[.int .i64 (mvx t x y + 2 * X), .int .i64 (mvy t x y + 2 * Y)] 31)).cell? ⟨(on ux).heap.size, 0, none⟩ = some (.int .i64 (mvx t x y + 2 * X)) := by simp [go_sem]
  have B201 : ((on ux).alloc (.cells #[.int .i64 (mvx t x y + 2 * X), .int .i64 (mvy t x y + 2 * Y)] 31)).cell? ⟨(on ux).heap.size, 1, none⟩ = some (.int .i64 (mvy t x y + 2 * Y)) := by simp [go_sem]
  have hB2 : Below w.heap.size w ((on ux).alloc (.cells #[.int .i64 (mvx t x y + 2 * X), .int .i64 (mvy t x y + 2 * Y)] 31)) := by repeat first | (with_reducible exact hB1) | (with_reducible refine below_on ?_ _) | (with_reducible refine below_alloc ?_ _)
  clear hR b00' b01' b02' b10' b11' B100 B101  hB1
  generalize ((on ux).alloc (.cells #[.int .i64 (mvx t x y + 2 * X), .int .i64 (mvy t x y + 2 * Y)] 31)) = W2 at *
  generalize (on ux).heap.size = B2 at *
  clear ux
  go_wp2_with (first | (go_at_call 39; with_reducible refine (inside_no (mvx t x y + 2 * X) (mvy t x y + 2 * Y) _ HQ.out).mono ?_; rintro e wx ⟨rfl, hx⟩; obtain ⟨ux, rfl⟩ := after hx; clear hx) | (go_at_call 28; with_reducible refine (lives2_ok _ (hS' _ (by repeat first | (with_reducible exact hB2) | (with_reducible refine below_on ?_ _) | (with_reducible refine below_alloc ?_ _) | (with_reducible refine below_set ?_ (by simp; try omega) _)))).mono ?_; rintro e wx ⟨rfl, hx⟩; obtain ⟨ux, rfl⟩ := after hx; clear hx) | fail)
  go_ret
  exact ⟨rfl, (by repeat first | (with_reducible exact hB2) | (with_reducible refine below_on ?_ _) | (with_reducible refine below_alloc ?_ _) | (with_reducible refine below_set ?_ (by simp; try omega) _))⟩

set_option maxRecDepth 100000 in
set_option maxHeartbeats 8000000 in
theorem mpt_ok (t X Y x y : Int) (w : World) (hS : Std w) (a1 : 0 ≤ t) (a2 : t ≤ 7) (a3 : -16384 ≤ X) (a4 : X ≤ 16384) (a5 : -16384 ≤ Y) (a6 : Y ≤ 16384) (a7 : (X + Y) % 2 = 0) (p1 : -65536 ≤ x) (p2 : x ≤ 65536) (p3 : -65536 ≤ y) (p4 : y ≤ 65536) (q1 : -65536 ≤ (mvx t x y + 2 * X)) (q2 : (mvx t x y + 2 * X) ≤ 65536) (q3 : -65536 ≤ (mvy t x y + 2 * Y)) (q4 : (mvy t x y + 2 * Y) ≤ 65536) : Calls Tryd.prog 8 #[mv t X Y, pt x y] w fun e w' => e = .returned (.bool true) ∧ Below w.heap.size w w' := by
  have hS' : ∀ W, Below w.heap.size w W → Std W := fun W h => std_below hS h
  obtain ⟨A, hA⟩ : ∃ A, A = mvx t x y := ⟨_, rfl⟩
  obtain ⟨B, hB⟩ : ∃ B, B = mvy t x y := ⟨_, rfl⟩
  have sq := mv_sq t x y a1 a2
  have pr := mv_par t x y a1 a2
  have ra := mvx_range 65536 t x y a1 a2 p1 p2 p3 p4
  have rb := mvy_range 65536 t x y a1 a2 p1 p2 p3 p4
  have z1 := mvx_zero t a1 a2
  have z2 := mvy_zero t a1 a2
  have QP : ∀ W, Std W → Calls Tryd.prog 29 #[mv t X Y, pt x y] W fun e w' => e = .returned (.tuple #[pt (A + 2 * X) (B + 2 * Y), .int .i64 0]) ∧ Below W.heap.size W w' := fun W h => by
    rw [hA, hB]; exact mpoint_ok t X Y x y W h.turns a1 a2 a3 a4 a5 a6 a7 p1 p2 p3 p4 q1 q2 q3 q4
  have RP : ∀ W, Calls Tryd.prog 40 #[mv t X Y, pt x y] W fun e w' => e = .returned (pt (A + 2 * X) (B + 2 * Y)) ∧ Below W.heap.size W w' := fun W => by
    rw [hA, hB]; exact rpoint_any t X Y x y W a1 a2 (by omega) (by omega) (by omega) (by omega) (by omega) (by omega) (by omega) (by omega)
  have RO : ∀ W, Calls Tryd.prog 40 #[mv t X Y, pt 0 0] W fun e w' => e = .returned (pt (2 * X) (2 * Y)) ∧ Below W.heap.size W w' := fun W => by
    have := rpoint_any t X Y 0 0 W a1 a2 (by omega) (by omega) (by omega) (by omega) (by omega) (by omega) (by omega) (by omega)
    rwa [z1, z2, Int.zero_add, Int.zero_add] at this
  rw [← hA] at sq pr ra
  rw [← hB] at sq pr rb
  rw [← hA] at q1 q2
  rw [← hB] at q3 q4
  clear hA hB z1 z2
  have sA := sq_le A 65536 ra.1 ra.2
  have sB := sq_le B 65536 rb.1 rb.2
  have sx := sq_le x 65536 p1 p2
  have sy := sq_le y 65536 p3 p4
  have eS : (A * A + B * B == x * x + y * y) = true := eqt sq
  clear sq
  obtain ⟨sA1, sA2⟩ := sA
  obtain ⟨sB1, sB2⟩ := sB
  obtain ⟨sx1, sx2⟩ := sx
  obtain ⟨sy1, sy2⟩ := sy
  obtain ⟨ra1, ra2⟩ := ra
  obtain ⟨rb1, rb2⟩ := rb
  have tp : (A + 2 * X + (B + 2 * Y) - x - y).tmod 2 = 0 := tm_even _ (by omega)
  have HPR : Hid ((A + B) % 2 = (x + y) % 2) := pr
  clear pr
  have HA : Hid ((X + Y) % 2 = 0) := a7
  clear a7
  go_enter Tryd.func8, Tryd.ntmps8
  go_wp2_with fail
  have hB0 : Below w.heap.size w ((w.alloc (.cells #[.int .u8 t, .int .i64 (X), .int .i64 (Y)] 51)).alloc (.cells #[.int .i64 (x), .int .i64 (y)] 31)) := (by repeat first | (with_reducible exact Below.refl _ _) | (with_reducible refine below_on ?_ _) | (with_reducible refine below_alloc ?_ _) | (with_reducible refine below_set ?_ (by simp; try omega) _))
  have b00 : ((w.alloc (.cells #[.int .u8 t, .int .i64 (X), .int .i64 (Y)] 51)).alloc (.cells #[.int .i64 (x), .int .i64 (y)] 31)).cell? ⟨w.heap.size, 0, none⟩ = some (.int .u8 t) := by simp [go_sem]
  have b01 : ((w.alloc (.cells #[.int .u8 t, .int .i64 (X), .int .i64 (Y)] 51)).alloc (.cells #[.int .i64 (x), .int .i64 (y)] 31)).cell? ⟨w.heap.size, 1, none⟩ = some (.int .i64 (X)) := by simp [go_sem]
  have b02 : ((w.alloc (.cells #[.int .u8 t, .int .i64 (X), .int .i64 (Y)] 51)).alloc (.cells #[.int .i64 (x), .int .i64 (y)] 31)).cell? ⟨w.heap.size, 2, none⟩ = some (.int .i64 (Y)) := by simp [go_sem]
  have b10 : ((w.alloc (.cells #[.int .u8 t, .int .i64 (X), .int .i64 (Y)] 51)).alloc (.cells #[.int .i64 (x), .int .i64 (y)] 31)).cell? ⟨w.heap.size + 1, 0, none⟩ = some (.int .i64 (x)) := by simp [go_sem]
  have b11 : ((w.alloc (.cells #[.int .u8 t, .int .i64 (X), .int .i64 (Y)] 51)).alloc (.cells #[.int .i64 (x), .int .i64 (y)] 31)).cell? ⟨w.heap.size + 1, 1, none⟩ = some (.int .i64 (y)) := by simp [go_sem]
  generalize ((w.alloc (.cells #[.int .u8 t, .int .i64 (X), .int .i64 (Y)] 51)).alloc (.cells #[.int .i64 (x), .int .i64 (y)] 31)) = W0 at *
  go_wp2_with (first | (go_at_call 29; with_reducible refine (QP _ (hS' _ (by repeat first | (with_reducible exact hB0) | (with_reducible refine below_on ?_ _) | (with_reducible refine below_alloc ?_ _) | (with_reducible refine below_set ?_ (by simp; try omega) _)))).mono ?_; rintro e wx ⟨rfl, hx⟩; obtain ⟨ux, rfl⟩ := after hx; clear hx) | fail)
  have hR : Below (W0).heap.size (W0) ((on ux).alloc (.cells #[.int .i64 (A + 2 * X), .int .i64 (B + 2 * Y)] 31)) := by repeat first | (with_reducible exact Below.refl _ _) | (with_reducible refine below_on ?_ _) | (with_reducible refine below_alloc ?_ _)
  have b00' : ((on ux).alloc (.cells #[.int .i64 (A + 2 * X), .int .i64 (B + 2 * Y)] 31)).cell? ⟨w.heap.size, 0, none⟩ = some (.int .u8 t) := (hR.cell (World.block_lt_of_cell? _ _ b00)).trans b00
  have b01' : ((on ux).alloc (.cells #[.int .i64 (A + 2 * X), .int .i64 (B + 2 * Y)] 31)).cell? ⟨w.heap.size, 1, none⟩ = some (.int .i64 (X)) := (hR.cell (World.block_lt_of_cell? _ _ b01)).trans b01
  have b02' : ((on ux).alloc (.cells #[.int .i64 (A + 2 * X), .int .i64 (B + 2 * Y)] 31)).cell? ⟨w.heap.size, 2, none⟩ = some (.int .i64 (Y)) := (hR.cell (World.block_lt_of_cell? _ _ b02)).trans b02
  have b10' : ((on ux).alloc (.cells #[.int .i64 (A + 2 * X), .int .i64 (B + 2 * Y)] 31)).cell? ⟨w.heap.size + 1, 0, none⟩ = some (.int .i64 (x)) := (hR.cell (World.block_lt_of_cell? _ _ b10)).trans b10
  have b11' : ((on ux).alloc (.cells #[.int .i64 (A + 2 * X), .int .i64 (B + 2 * Y)] 31)).cell? ⟨w.heap.size + 1, 1, none⟩ = some (.int .i64 (y)) := (hR.cell (World.block_lt_of_cell? _ _ b11)).trans b11
  have B100 : ((on ux).alloc (.cells #[.int .i64 (A + 2 * X), .int .i64 (B + 2 * Y)] 31)).cell? ⟨(on ux).heap.size, 0, none⟩ = some (.int .i64 (A + 2 * X)) := by simp [go_sem]
  have B101 : ((on ux).alloc (.cells #[.int .i64 (A + 2 * X), .int .i64 (B + 2 * Y)] 31)).cell? ⟨(on ux).heap.size, 1, none⟩ = some (.int .i64 (B + 2 * Y)) := by simp [go_sem]
  have hB1 : Below w.heap.size w ((on ux).alloc (.cells #[.int .i64 (A + 2 * X), .int .i64 (B + 2 * Y)] 31)) := by repeat first | (with_reducible exact hB0) | (with_reducible refine below_on ?_ _) | (with_reducible refine below_alloc ?_ _)
  clear hR b00 b01 b02 b10 b11  hB0
  generalize ((on ux).alloc (.cells #[.int .i64 (A + 2 * X), .int .i64 (B + 2 * Y)] 31)) = W1 at *
  generalize (on ux).heap.size = B1 at *
  clear ux
  go_wp2_with (first | (go_at_call 35; with_reducible refine (mvalid_yes t X Y _ a1 a2 a3 a4 a5 a6 HA.out).mono ?_; rintro e wx ⟨rfl, hx⟩; obtain ⟨ux, rfl⟩ := after hx; clear hx) | (go_at_call 39; with_reducible refine (inside_yes x y _ p1 p2 p3 p4).mono ?_; rintro e wx ⟨rfl, hx⟩; obtain ⟨ux, rfl⟩ := after hx; clear hx) | fail)
  go_wp2_with (first | (go_at_call 40; with_reducible refine (RP _).mono ?_; rintro e wx ⟨rfl, hx⟩; obtain ⟨ux, rfl⟩ := after hx; clear hx) | fail)
  have hR : Below (W1).heap.size (W1) ((on ux).alloc (.cells #[.int .i64 (A + 2 * X), .int .i64 (B + 2 * Y)] 31)) := by repeat first | (with_reducible exact Below.refl _ _) | (with_reducible refine below_on ?_ _) | (with_reducible refine below_alloc ?_ _)
  have b00'' : ((on ux).alloc (.cells #[.int .i64 (A + 2 * X), .int .i64 (B + 2 * Y)] 31)).cell? ⟨w.heap.size, 0, none⟩ = some (.int .u8 t) := (hR.cell (World.block_lt_of_cell? _ _ b00')).trans b00'
  have b01'' : ((on ux).alloc (.cells #[.int .i64 (A + 2 * X), .int .i64 (B + 2 * Y)] 31)).cell? ⟨w.heap.size, 1, none⟩ = some (.int .i64 (X)) := (hR.cell (World.block_lt_of_cell? _ _ b01')).trans b01'
  have b02'' : ((on ux).alloc (.cells #[.int .i64 (A + 2 * X), .int .i64 (B + 2 * Y)] 31)).cell? ⟨w.heap.size, 2, none⟩ = some (.int .i64 (Y)) := (hR.cell (World.block_lt_of_cell? _ _ b02')).trans b02'
  have b10'' : ((on ux).alloc (.cells #[.int .i64 (A + 2 * X), .int .i64 (B + 2 * Y)] 31)).cell? ⟨w.heap.size + 1, 0, none⟩ = some (.int .i64 (x)) := (hR.cell (World.block_lt_of_cell? _ _ b10')).trans b10'
  have b11'' : ((on ux).alloc (.cells #[.int .i64 (A + 2 * X), .int .i64 (B + 2 * Y)] 31)).cell? ⟨w.heap.size + 1, 1, none⟩ = some (.int .i64 (y)) := (hR.cell (World.block_lt_of_cell? _ _ b11')).trans b11'
  have B100' : ((on ux).alloc (.cells #[.int .i64 (A + 2 * X), .int .i64 (B + 2 * Y)] 31)).cell? ⟨B1, 0, none⟩ = some (.int .i64 (A + 2 * X)) := (hR.cell (World.block_lt_of_cell? _ _ B100)).trans B100
  have B101' : ((on ux).alloc (.cells #[.int .i64 (A + 2 * X), .int .i64 (B + 2 * Y)] 31)).cell? ⟨B1, 1, none⟩ = some (.int .i64 (B + 2 * Y)) := (hR.cell (World.block_lt_of_cell? _ _ B101)).trans B101
  have B200 : ((on ux).alloc (.cells #[.int .i64 (A + 2 * X), .int .i64 (B + 2 * Y)] 31)).cell? ⟨(on ux).heap.size, 0, none⟩ = some (.int .i64 (A + 2 * X)) := by simp [go_sem]
  have B201 : ((on ux).alloc (.cells #[.int .i64 (A + 2 * X), .int .i64 (B + 2 * Y)] 31)).cell? ⟨(on ux).heap.size, 1, none⟩ = some (.int .i64 (B + 2 * Y)) := by simp [go_sem]
  have hB2 : Below w.heap.size w ((on ux).alloc (.cells #[.int .i64 (A + 2 * X), .int .i64 (B + 2 * Y)] 31)) := by repeat first | (with_reducible exact hB1) | (with_reducible refine below_on ?_ _) | (with_reducible refine below_alloc ?_ _)
  clear hR b00' b01' b02' b10' b11' B100 B101  hB1
  generalize ((on ux).alloc (.cells #[.int .i64 (A + 2 * X), .int .i64 (B + 2 * Y)] 31)) = W2 at *
  generalize (on ux).heap.size = B2 at *
  clear ux
  go_wp2_with (first | (go_at_call 39; with_reducible refine (inside_yes (A + 2 * X) (B + 2 * Y) _ q1 q2 q3 q4).mono ?_; rintro e wx ⟨rfl, hx⟩; obtain ⟨ux, rfl⟩ := after hx; clear hx) | fail)
  go_wp2_with (first | (go_at_call 40; with_reducible refine (RO _).mono ?_; rintro e wx ⟨rfl, hx⟩; obtain ⟨ux, rfl⟩ := after hx; clear hx) | fail)
  have hR : Below (W2).heap.size (W2) ((on ux).alloc (.cells #[.int .i64 (2 * X), .int .i64 (2 * Y)] 31)) := by repeat first | (with_reducible exact Below.refl _ _) | (with_reducible refine below_on ?_ _) | (with_reducible refine below_alloc ?_ _)
  have b00''' : ((on ux).alloc (.cells #[.int .i64 (2 * X), .int .i64 (2 * Y)] 31)).cell? ⟨w.heap.size, 0, none⟩ = some (.int .u8 t) := (hR.cell (World.block_lt_of_cell? _ _ b00'')).trans b00''
  have b01''' : ((on ux).alloc (.cells #[.int .i64 (2 * X), .int .i64 (2 * Y)] 31)).cell? ⟨w.heap.size, 1, none⟩ = some (.int .i64 (X)) := (hR.cell (World.block_lt_of_cell? _ _ b01'')).trans b01''
  have b02''' : ((on ux).alloc (.cells #[.int .i64 (2 * X), .int .i64 (2 * Y)] 31)).cell? ⟨w.heap.size, 2, none⟩ = some (.int .i64 (Y)) := (hR.cell (World.block_lt_of_cell? _ _ b02'')).trans b02''
  have b10''' : ((on ux).alloc (.cells #[.int .i64 (2 * X), .int .i64 (2 * Y)] 31)).cell? ⟨w.heap.size + 1, 0, none⟩ = some (.int .i64 (x)) := (hR.cell (World.block_lt_of_cell? _ _ b10'')).trans b10''
  have b11''' : ((on ux).alloc (.cells #[.int .i64 (2 * X), .int .i64 (2 * Y)] 31)).cell? ⟨w.heap.size + 1, 1, none⟩ = some (.int .i64 (y)) := (hR.cell (World.block_lt_of_cell? _ _ b11'')).trans b11''
  have B100'' : ((on ux).alloc (.cells #[.int .i64 (2 * X), .int .i64 (2 * Y)] 31)).cell? ⟨B1, 0, none⟩ = some (.int .i64 (A + 2 * X)) := (hR.cell (World.block_lt_of_cell? _ _ B100')).trans B100'
  have B101'' : ((on ux).alloc (.cells #[.int .i64 (2 * X), .int .i64 (2 * Y)] 31)).cell? ⟨B1, 1, none⟩ = some (.int .i64 (B + 2 * Y)) := (hR.cell (World.block_lt_of_cell? _ _ B101')).trans B101'
  have B200' : ((on ux).alloc (.cells #[.int .i64 (2 * X), .int .i64 (2 * Y)] 31)).cell? ⟨B2, 0, none⟩ = some (.int .i64 (A + 2 * X)) := (hR.cell (World.block_lt_of_cell? _ _ B200)).trans B200
  have B201' : ((on ux).alloc (.cells #[.int .i64 (2 * X), .int .i64 (2 * Y)] 31)).cell? ⟨B2, 1, none⟩ = some (.int .i64 (B + 2 * Y)) := (hR.cell (World.block_lt_of_cell? _ _ B201)).trans B201
  have B300 : ((on ux).alloc (.cells #[.int .i64 (2 * X), .int .i64 (2 * Y)] 31)).cell? ⟨(on ux).heap.size, 0, none⟩ = some (.int .i64 (2 * X)) := by simp [go_sem]
  have B301 : ((on ux).alloc (.cells #[.int .i64 (2 * X), .int .i64 (2 * Y)] 31)).cell? ⟨(on ux).heap.size, 1, none⟩ = some (.int .i64 (2 * Y)) := by simp [go_sem]
  have hB3 : Below w.heap.size w ((on ux).alloc (.cells #[.int .i64 (2 * X), .int .i64 (2 * Y)] 31)) := by repeat first | (with_reducible exact hB2) | (with_reducible refine below_on ?_ _) | (with_reducible refine below_alloc ?_ _)
  clear hR b00'' b01'' b02'' b10'' b11'' B100' B101' B200 B201  hB2
  generalize ((on ux).alloc (.cells #[.int .i64 (2 * X), .int .i64 (2 * Y)] 31)) = W3 at *
  generalize (on ux).heap.size = B3 at *
  clear ux
  refine region_later (by kernel_rfl) (by kernel_rfl) ?_
  repeat (go_big_quiet_step (fail))
  refine wpQuiet_nil ?_
  rintro _ ⟨u9, rfl⟩
  go_wp2_with (first | (go_at_call 28; with_reducible refine (lives2_ok _ (hS' _ (by repeat first | (with_reducible exact hB3) | (with_reducible refine below_on ?_ _) | (with_reducible refine below_alloc ?_ _) | (with_reducible refine below_set ?_ (by simp; try omega) _)))).mono ?_; rintro e wx ⟨rfl, hx⟩; obtain ⟨ux, rfl⟩ := after hx; clear hx) | fail)
  go_ret
  exact ⟨rfl, (by repeat first | (with_reducible exact hB3) | (with_reducible refine below_on ?_ _) | (with_reducible refine below_alloc ?_ _) | (with_reducible refine below_set ?_ (by simp; try omega) _))⟩

theorem movespoint_law (t X Y x y : Int) (w : World) (hS : Std w) (a1 : 0 ≤ t) : Calls Tryd.prog 8 #[mv t X Y, pt x y] w fun e w' => e = .returned (.bool true) ∧ Below w.heap.size w w' := by
  by_cases a : t ≤ 7 ∧ -16384 ≤ X ∧ X ≤ 16384 ∧ -16384 ≤ Y ∧ Y ≤ 16384 ∧ (X + Y) % 2 = 0
  · obtain ⟨a2, a3, a4, a5, a6, a7⟩ := a
    by_cases p : -65536 ≤ x ∧ x ≤ 65536 ∧ -65536 ≤ y ∧ y ≤ 65536
    · obtain ⟨p1, p2, p3, p4⟩ := p
      by_cases q : -65536 ≤ mvx t x y + 2 * X ∧ mvx t x y + 2 * X ≤ 65536 ∧ -65536 ≤ mvy t x y + 2 * Y ∧ mvy t x y + 2 * Y ≤ 65536
      · obtain ⟨q1, q2, q3, q4⟩ := q
        exact mpt_ok t X Y x y w hS a1 a2 a3 a4 a5 a6 a7 p1 p2 p3 p4 q1 q2 q3 q4
      · exact mpt_far t X Y x y w hS a1 a2 a3 a4 a5 a6 a7 p1 p2 p3 p4 (by omega)
    · exact mpt_bad2 t X Y x y w hS a1 a2 a3 a4 a5 a6 a7 (by omega)
  · exact mpt_bad1 t X Y x y w hS (by omega)

end Go.Proofs.YtbcmfenekpllhaaDoor
