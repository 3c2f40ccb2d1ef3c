/-
  Says: the examples of the chapter on moves hold.
-/
import Derived.Test.YtbcmfenekpllhaaDoorMv11
import Derived.Deep.RegionHeld3
set_option linter.unusedVariables false
set_option linter.unusedSimpArgs false
namespace Go.Proofs.YtbcmfenekpllhaaDoor
open Go Go.RowKit

attribute [local go_sem] World.cell?_alloc_some frozen?_alloc_cells fz0 fz1 fz2 fz3 fz4 fz5

set_option maxRecDepth 100000 in
set_option maxHeartbeats 8000000 in
theorem lives2_ok (w : World) (hS : Std w) : Calls Tryd.prog 28 #[] w fun e w' => e = .returned (.bool true) ∧ Below w.heap.size w w' := by
  have hS' : ∀ W, Below w.heap.size w W → Std W := fun W h => std_below hS h
  have hB0 : Below w.heap.size w w := Below.refl _ _
  go_enter Tryd.func28, Tryd.ntmps28
  go_wp2_with (first | (go_at_call 57; with_reducible refine (in_13 _).mono ?_; rintro e wx ⟨rfl, hx⟩; obtain ⟨ux, rfl⟩ := after hx; clear hx) | (go_at_call 57; with_reducible refine (in_23 _).mono ?_; rintro e wx ⟨rfl, hx⟩; obtain ⟨ux, rfl⟩ := after hx; clear hx) | (go_at_call 57; with_reducible refine (in_33 _).mono ?_; rintro e wx ⟨rfl, hx⟩; obtain ⟨ux, rfl⟩ := after hx; clear hx) | (go_at_call 57; with_reducible refine (in_43 _).mono ?_; rintro e wx ⟨rfl, hx⟩; obtain ⟨ux, rfl⟩ := after hx; clear hx) | (go_at_call 57; with_reducible refine (in_10 _).mono ?_; rintro e wx ⟨rfl, hx⟩; obtain ⟨ux, rfl⟩ := after hx; clear hx) | (go_at_call 57; with_reducible refine (in_12 _).mono ?_; rintro e wx ⟨rfl, hx⟩; obtain ⟨ux, rfl⟩ := after hx; clear hx) | (go_at_call 58; with_reducible refine (move_any _ _ _ _).mono ?_; rintro e wx ⟨rfl, hx⟩; obtain ⟨ux, rfl⟩ := after hx; clear hx) | fail)
  go_wp2_with (first | (go_at_call 30; with_reducible refine (liv_c1 _ (hS' _ (by repeat first | (with_reducible exact hB0) | (with_reducible refine below_on ?_ _) | (with_reducible refine below_alloc ?_ _) | (with_reducible refine below_set ?_ (by simp; try omega) _)))).mono ?_; rintro e wx ⟨rfl, hx⟩; obtain ⟨ux, rfl⟩ := after hx; clear hx) | fail)
  have hR : Below (w).heap.size (w) ((on ux).alloc (.cells #[.int .u8 0, .int .i64 4, .int .i64 0] 51)) := by repeat first | (with_reducible exact Below.refl _ _) | (with_reducible refine below_on ?_ _) | (with_reducible refine below_alloc ?_ _)
  have B100 : ((on ux).alloc (.cells #[.int .u8 0, .int .i64 4, .int .i64 0] 51)).cell? ⟨(on ux).heap.size, 0, none⟩ = some (.int .u8 0) := by simp [go_sem]
  have B101 : ((on ux).alloc (.cells #[.int .u8 0, .int .i64 4, .int .i64 0] 51)).cell? ⟨(on ux).heap.size, 1, none⟩ = some (.int .i64 4) := by simp [go_sem]
  have B102 : ((on ux).alloc (.cells #[.int .u8 0, .int .i64 4, .int .i64 0] 51)).cell? ⟨(on ux).heap.size, 2, none⟩ = some (.int .i64 0) := by simp [go_sem]
  have hB1 : Below w.heap.size w ((on ux).alloc (.cells #[.int .u8 0, .int .i64 4, .int .i64 0] 51)) := by repeat first | (with_reducible exact hB0) | (with_reducible refine below_on ?_ _) | (with_reducible refine below_alloc ?_ _)
  clear hR   hB0
  generalize ((on ux).alloc (.cells #[.int .u8 0, .int .i64 4, .int .i64 0] 51)) = W1 at *
  generalize (on ux).heap.size = B1 at *
  clear ux
  go_wp2_with (first | (go_at_call 57; with_reducible refine (in_10 _).mono ?_; rintro e wx ⟨rfl, hx⟩; obtain ⟨ux, rfl⟩ := after hx; clear hx) | (go_at_call 57; with_reducible refine (in_20 _).mono ?_; rintro e wx ⟨rfl, hx⟩; obtain ⟨ux, rfl⟩ := after hx; clear hx) | fail)
  go_wp2_with (first | (go_at_call 30; with_reducible refine (liv_c2 _ (hS' _ (by repeat first | (with_reducible exact hB1) | (with_reducible refine below_on ?_ _) | (with_reducible refine below_alloc ?_ _) | (with_reducible refine below_set ?_ (by simp; try omega) _)))).mono ?_; rintro e wx ⟨rfl, hx⟩; obtain ⟨ux, rfl⟩ := after hx; clear hx) | fail)
  have hR : Below (W1).heap.size (W1) ((on ux).alloc (.cells #[.int .u8 2, .int .i64 0, .int .i64 0] 51)) := by repeat first | (with_reducible exact Below.refl _ _) | (with_reducible refine below_on ?_ _) | (with_reducible refine below_alloc ?_ _)
  have B100' : ((on ux).alloc (.cells #[.int .u8 2, .int .i64 0, .int .i64 0] 51)).cell? ⟨B1, 0, none⟩ = some (.int .u8 0) := (hR.cell (World.block_lt_of_cell? _ _ B100)).trans B100
  have B101' : ((on ux).alloc (.cells #[.int .u8 2, .int .i64 0, .int .i64 0] 51)).cell? ⟨B1, 1, none⟩ = some (.int .i64 4) := (hR.cell (World.block_lt_of_cell? _ _ B101)).trans B101
  have B102' : ((on ux).alloc (.cells #[.int .u8 2, .int .i64 0, .int .i64 0] 51)).cell? ⟨B1, 2, none⟩ = some (.int .i64 0) := (hR.cell (World.block_lt_of_cell? _ _ B102)).trans B102
  have B200 : ((on ux).alloc (.cells #[.int .u8 2, .int .i64 0, .int .i64 0] 51)).cell? ⟨(on ux).heap.size, 0, none⟩ = some (.int .u8 2) := by simp [go_sem]
  have B201 : ((on ux).alloc (.cells #[.int .u8 2, .int .i64 0, .int .i64 0] 51)).cell? ⟨(on ux).heap.size, 1, none⟩ = some (.int .i64 0) := by simp [go_sem]
  have B202 : ((on ux).alloc (.cells #[.int .u8 2, .int .i64 0, .int .i64 0] 51)).cell? ⟨(on ux).heap.size, 2, none⟩ = some (.int .i64 0) := by simp [go_sem]
  have hB2 : Below w.heap.size w ((on ux).alloc (.cells #[.int .u8 2, .int .i64 0, .int .i64 0] 51)) := by repeat first | (with_reducible exact hB1) | (with_reducible refine below_on ?_ _) | (with_reducible refine below_alloc ?_ _)
  clear hR B100 B101 B102  hB1
  generalize ((on ux).alloc (.cells #[.int .u8 2, .int .i64 0, .int .i64 0] 51)) = W2 at *
  generalize (on ux).heap.size = B2 at *
  clear ux
  go_wp2_with (first | (go_at_call 57; with_reducible refine (in_10 _).mono ?_; rintro e wx ⟨rfl, hx⟩; obtain ⟨ux, rfl⟩ := after hx; clear hx) | (go_at_call 57; with_reducible refine (in_30 _).mono ?_; rintro e wx ⟨rfl, hx⟩; obtain ⟨ux, rfl⟩ := after hx; clear hx) | fail)
  go_wp2_with (first | (go_at_call 30; with_reducible refine (liv_c3 _ (hS' _ (by repeat first | (with_reducible exact hB2) | (with_reducible refine below_on ?_ _) | (with_reducible refine below_alloc ?_ _) | (with_reducible refine below_set ?_ (by simp; try omega) _)))).mono ?_; rintro e wx ⟨rfl, hx⟩; obtain ⟨ux, rfl⟩ := after hx; clear hx) | fail)
  have hR : Below (W2).heap.size (W2) ((on ux).alloc (.cells #[.int .u8 1, .int .i64 0, .int .i64 0] 51)) := by repeat first | (with_reducible exact Below.refl _ _) | (with_reducible refine below_on ?_ _) | (with_reducible refine below_alloc ?_ _)
  have B100'' : ((on ux).alloc (.cells #[.int .u8 1, .int .i64 0, .int .i64 0] 51)).cell? ⟨B1, 0, none⟩ = some (.int .u8 0) := (hR.cell (World.block_lt_of_cell? _ _ B100')).trans B100'
  have B101'' : ((on ux).alloc (.cells #[.int .u8 1, .int .i64 0, .int .i64 0] 51)).cell? ⟨B1, 1, none⟩ = some (.int .i64 4) := (hR.cell (World.block_lt_of_cell? _ _ B101')).trans B101'
  have B102'' : ((on ux).alloc (.cells #[.int .u8 1, .int .i64 0, .int .i64 0] 51)).cell? ⟨B1, 2, none⟩ = some (.int .i64 0) := (hR.cell (World.block_lt_of_cell? _ _ B102')).trans B102'
  have B200' : ((on ux).alloc (.cells #[.int .u8 1, .int .i64 0, .int .i64 0] 51)).cell? ⟨B2, 0, none⟩ = some (.int .u8 2) := (hR.cell (World.block_lt_of_cell? _ _ B200)).trans B200
  have B201' : ((on ux).alloc (.cells #[.int .u8 1, .int .i64 0, .int .i64 0] 51)).cell? ⟨B2, 1, none⟩ = some (.int .i64 0) := (hR.cell (World.block_lt_of_cell? _ _ B201)).trans B201
  have B202' : ((on ux).alloc (.cells #[.int .u8 1, .int .i64 0, .int .i64 0] 51)).cell? ⟨B2, 2, none⟩ = some (.int .i64 0) := (hR.cell (World.block_lt_of_cell? _ _ B202)).trans B202
  have B300 : ((on ux).alloc (.cells #[.int .u8 1, .int .i64 0, .int .i64 0] 51)).cell? ⟨(on ux).heap.size, 0, none⟩ = some (.int .u8 1) := by simp [go_sem]
  have B301 : ((on ux).alloc (.cells #[.int .u8 1, .int .i64 0, .int .i64 0] 51)).cell? ⟨(on ux).heap.size, 1, none⟩ = some (.int .i64 0) := by simp [go_sem]
  have B302 : ((on ux).alloc (.cells #[.int .u8 1, .int .i64 0, .int .i64 0] 51)).cell? ⟨(on ux).heap.size, 2, none⟩ = some (.int .i64 0) := by simp [go_sem]
  have hB3 : Below w.heap.size w ((on ux).alloc (.cells #[.int .u8 1, .int .i64 0, .int .i64 0] 51)) := by repeat first | (with_reducible exact hB2) | (with_reducible refine below_on ?_ _) | (with_reducible refine below_alloc ?_ _)
  clear hR B100' B101' B102' B200 B201 B202  hB2
  generalize ((on ux).alloc (.cells #[.int .u8 1, .int .i64 0, .int .i64 0] 51)) = W3 at *
  generalize (on ux).heap.size = B3 at *
  clear ux
  go_wp2_with (first | (go_at_call 58; with_reducible refine (move_any _ _ _ _).mono ?_; rintro e wx ⟨rfl, hx⟩; obtain ⟨ux, rfl⟩ := after hx; clear hx) | fail)
  go_wp2_with (first | (go_at_call 37; with_reducible refine (liv_c4 _ (hS' _ (by repeat first | (with_reducible exact hB3) | (with_reducible refine below_on ?_ _) | (with_reducible refine below_alloc ?_ _) | (with_reducible refine below_set ?_ (by simp; try omega) _)))).mono ?_; rintro e wx ⟨rfl, hx⟩; obtain ⟨ux, rfl⟩ := after hx; clear hx) | fail)
  have hR : Below (W3).heap.size (W3) ((on ux).alloc (.cells #[.int .u8 3, .int .i64 (-4), .int .i64 2] 51)) := by repeat first | (with_reducible exact Below.refl _ _) | (with_reducible refine below_on ?_ _) | (with_reducible refine below_alloc ?_ _)
  have B100''' : ((on ux).alloc (.cells #[.int .u8 3, .int .i64 (-4), .int .i64 2] 51)).cell? ⟨B1, 0, none⟩ = some (.int .u8 0) := (hR.cell (World.block_lt_of_cell? _ _ B100'')).trans B100''
  have B101''' : ((on ux).alloc (.cells #[.int .u8 3, .int .i64 (-4), .int .i64 2] 51)).cell? ⟨B1, 1, none⟩ = some (.int .i64 4) := (hR.cell (World.block_lt_of_cell? _ _ B101'')).trans B101''
  have B102''' : ((on ux).alloc (.cells #[.int .u8 3, .int .i64 (-4), .int .i64 2] 51)).cell? ⟨B1, 2, none⟩ = some (.int .i64 0) := (hR.cell (World.block_lt_of_cell? _ _ B102'')).trans B102''
  have B200'' : ((on ux).alloc (.cells #[.int .u8 3, .int .i64 (-4), .int .i64 2] 51)).cell? ⟨B2, 0, none⟩ = some (.int .u8 2) := (hR.cell (World.block_lt_of_cell? _ _ B200')).trans B200'
  have B201'' : ((on ux).alloc (.cells #[.int .u8 3, .int .i64 (-4), .int .i64 2] 51)).cell? ⟨B2, 1, none⟩ = some (.int .i64 0) := (hR.cell (World.block_lt_of_cell? _ _ B201')).trans B201'
  have B202'' : ((on ux).alloc (.cells #[.int .u8 3, .int .i64 (-4), .int .i64 2] 51)).cell? ⟨B2, 2, none⟩ = some (.int .i64 0) := (hR.cell (World.block_lt_of_cell? _ _ B202')).trans B202'
  have B300' : ((on ux).alloc (.cells #[.int .u8 3, .int .i64 (-4), .int .i64 2] 51)).cell? ⟨B3, 0, none⟩ = some (.int .u8 1) := (hR.cell (World.block_lt_of_cell? _ _ B300)).trans B300
  have B301' : ((on ux).alloc (.cells #[.int .u8 3, .int .i64 (-4), .int .i64 2] 51)).cell? ⟨B3, 1, none⟩ = some (.int .i64 0) := (hR.cell (World.block_lt_of_cell? _ _ B301)).trans B301
  have B302' : ((on ux).alloc (.cells #[.int .u8 3, .int .i64 (-4), .int .i64 2] 51)).cell? ⟨B3, 2, none⟩ = some (.int .i64 0) := (hR.cell (World.block_lt_of_cell? _ _ B302)).trans B302
  have B400 : ((on ux).alloc (.cells #[.int .u8 3, .int .i64 (-4), .int .i64 2] 51)).cell? ⟨(on ux).heap.size, 0, none⟩ = some (.int .u8 3) := by simp [go_sem]
  have B401 : ((on ux).alloc (.cells #[.int .u8 3, .int .i64 (-4), .int .i64 2] 51)).cell? ⟨(on ux).heap.size, 1, none⟩ = some (.int .i64 (-4)) := by simp [go_sem]
  have B402 : ((on ux).alloc (.cells #[.int .u8 3, .int .i64 (-4), .int .i64 2] 51)).cell? ⟨(on ux).heap.size, 2, none⟩ = some (.int .i64 2) := by simp [go_sem]
  have hB4 : Below w.heap.size w ((on ux).alloc (.cells #[.int .u8 3, .int .i64 (-4), .int .i64 2] 51)) := by repeat first | (with_reducible exact hB3) | (with_reducible refine below_on ?_ _) | (with_reducible refine below_alloc ?_ _)
  clear hR B100'' B101'' B102'' B200' B201' B202' B300 B301 B302  hB3
  generalize ((on ux).alloc (.cells #[.int .u8 3, .int .i64 (-4), .int .i64 2] 51)) = W4 at *
  generalize (on ux).heap.size = B4 at *
  clear ux
  go_wp2_with (first | (go_at_call 58; with_reducible refine (move_any _ _ _ _).mono ?_; rintro e wx ⟨rfl, hx⟩; obtain ⟨ux, rfl⟩ := after hx; clear hx) | fail)
  go_wp2_with (first | (go_at_call 29; with_reducible refine (liv_c5 _ (hS' _ (by repeat first | (with_reducible exact hB4) | (with_reducible refine below_on ?_ _) | (with_reducible refine below_alloc ?_ _) | (with_reducible refine below_set ?_ (by simp; try omega) _)))).mono ?_; rintro e wx ⟨rfl, hx⟩; obtain ⟨ux, rfl⟩ := after hx; clear hx) | fail)
  have hR : Below (W4).heap.size (W4) ((on ux).alloc (.cells #[.int .i64 3, .int .i64 11] 31)) := by repeat first | (with_reducible exact Below.refl _ _) | (with_reducible refine below_on ?_ _) | (with_reducible refine below_alloc ?_ _)
  have B100'''' : ((on ux).alloc (.cells #[.int .i64 3, .int .i64 11] 31)).cell? ⟨B1, 0, none⟩ = some (.int .u8 0) := (hR.cell (World.block_lt_of_cell? _ _ B100''')).trans B100'''
  have B101'''' : ((on ux).alloc (.cells #[.int .i64 3, .int .i64 11] 31)).cell? ⟨B1, 1, none⟩ = some (.int .i64 4) := (hR.cell (World.block_lt_of_cell? _ _ B101''')).trans B101'''
  have B102'''' : ((on ux).alloc (.cells #[.int .i64 3, .int .i64 11] 31)).cell? ⟨B1, 2, none⟩ = some (.int .i64 0) := (hR.cell (World.block_lt_of_cell? _ _ B102''')).trans B102'''
  have B200''' : ((on ux).alloc (.cells #[.int .i64 3, .int .i64 11] 31)).cell? ⟨B2, 0, none⟩ = some (.int .u8 2) := (hR.cell (World.block_lt_of_cell? _ _ B200'')).trans B200''
  have B201''' : ((on ux).alloc (.cells #[.int .i64 3, .int .i64 11] 31)).cell? ⟨B2, 1, none⟩ = some (.int .i64 0) := (hR.cell (World.block_lt_of_cell? _ _ B201'')).trans B201''
  have B202''' : ((on ux).alloc (.cells #[.int .i64 3, .int .i64 11] 31)).cell? ⟨B2, 2, none⟩ = some (.int .i64 0) := (hR.cell (World.block_lt_of_cell? _ _ B202'')).trans B202''
  have B300'' : ((on ux).alloc (.cells #[.int .i64 3, .int .i64 11] 31)).cell? ⟨B3, 0, none⟩ = some (.int .u8 1) := (hR.cell (World.block_lt_of_cell? _ _ B300')).trans B300'
  have B301'' : ((on ux).alloc (.cells #[.int .i64 3, .int .i64 11] 31)).cell? ⟨B3, 1, none⟩ = some (.int .i64 0) := (hR.cell (World.block_lt_of_cell? _ _ B301')).trans B301'
  have B302'' : ((on ux).alloc (.cells #[.int .i64 3, .int .i64 11] 31)).cell? ⟨B3, 2, none⟩ = some (.int .i64 0) := (hR.cell (World.block_lt_of_cell? _ _ B302')).trans B302'
  have B400' : ((on ux).alloc (.cells #[.int .i64 3, .int .i64 11] 31)).cell? ⟨B4, 0, none⟩ = some (.int .u8 3) := (hR.cell (World.block_lt_of_cell? _ _ B400)).trans B400
  have B401' : ((on ux).alloc (.cells #[.int .i64 3, .int .i64 11] 31)).cell? ⟨B4, 1, none⟩ = some (.int .i64 (-4)) := (hR.cell (World.block_lt_of_cell? _ _ B401)).trans B401
  have B402' : ((on ux).alloc (.cells #[.int .i64 3, .int .i64 11] 31)).cell? ⟨B4, 2, none⟩ = some (.int .i64 2) := (hR.cell (World.block_lt_of_cell? _ _ B402)).trans B402
  have B500 : ((on ux).alloc (.cells #[.int .i64 3, .int .i64 11] 31)).cell? ⟨(on ux).heap.size, 0, none⟩ = some (.int .i64 3) := by simp [go_sem]
  have B501 : ((on ux).alloc (.cells #[.int .i64 3, .int .i64 11] 31)).cell? ⟨(on ux).heap.size, 1, none⟩ = some (.int .i64 11) := by simp [go_sem]
  have hB5 : Below w.heap.size w ((on ux).alloc (.cells #[.int .i64 3, .int .i64 11] 31)) := by repeat first | (with_reducible exact hB4) | (with_reducible refine below_on ?_ _) | (with_reducible refine below_alloc ?_ _)
  clear hR B100''' B101''' B102''' B200'' B201'' B202'' B300' B301' B302' B400 B401 B402  hB4
  generalize ((on ux).alloc (.cells #[.int .i64 3, .int .i64 11] 31)) = W5 at *
  generalize (on ux).heap.size = B5 at *
  clear ux
  go_wp2_with (first | (go_at_call 58; with_reducible refine (move_any _ _ _ _).mono ?_; rintro e wx ⟨rfl, hx⟩; obtain ⟨ux, rfl⟩ := after hx; clear hx) | fail)
  go_wp2_with (first | (go_at_call 59; with_reducible refine (liv_c6 _ (hS' _ (by repeat first | (with_reducible exact hB5) | (with_reducible refine below_on ?_ _) | (with_reducible refine below_alloc ?_ _) | (with_reducible refine below_set ?_ (by simp; try omega) _)))).mono ?_; rintro e wx ⟨rfl, hx⟩; obtain ⟨ux, rfl⟩ := after hx; clear hx) | fail)
  have hR : Below (W5).heap.size (W5) ((on ux).alloc (.cells #[.int .u8 2, .int .i64 5] 24)) := by repeat first | (with_reducible exact Below.refl _ _) | (with_reducible refine below_on ?_ _) | (with_reducible refine below_alloc ?_ _)
  have B100''''' : ((on ux).alloc (.cells #[.int .u8 2, .int .i64 5] 24)).cell? ⟨B1, 0, none⟩ = some (.int .u8 0) := (hR.cell (World.block_lt_of_cell? _ _ B100'''')).trans B100''''
  have B101''''' : ((on ux).alloc (.cells #[.int .u8 2, .int .i64 5] 24)).cell? ⟨B1, 1, none⟩ = some (.int .i64 4) := (hR.cell (World.block_lt_of_cell? _ _ B101'''')).trans B101''''
  have B102''''' : ((on ux).alloc (.cells #[.int .u8 2, .int .i64 5] 24)).cell? ⟨B1, 2, none⟩ = some (.int .i64 0) := (hR.cell (World.block_lt_of_cell? _ _ B102'''')).trans B102''''
  have B200'''' : ((on ux).alloc (.cells #[.int .u8 2, .int .i64 5] 24)).cell? ⟨B2, 0, none⟩ = some (.int .u8 2) := (hR.cell (World.block_lt_of_cell? _ _ B200''')).trans B200'''
  have B201'''' : ((on ux).alloc (.cells #[.int .u8 2, .int .i64 5] 24)).cell? ⟨B2, 1, none⟩ = some (.int .i64 0) := (hR.cell (World.block_lt_of_cell? _ _ B201''')).trans B201'''
  have B202'''' : ((on ux).alloc (.cells #[.int .u8 2, .int .i64 5] 24)).cell? ⟨B2, 2, none⟩ = some (.int .i64 0) := (hR.cell (World.block_lt_of_cell? _ _ B202''')).trans B202'''
  have B300''' : ((on ux).alloc (.cells #[.int .u8 2, .int .i64 5] 24)).cell? ⟨B3, 0, none⟩ = some (.int .u8 1) := (hR.cell (World.block_lt_of_cell? _ _ B300'')).trans B300''
  have B301''' : ((on ux).alloc (.cells #[.int .u8 2, .int .i64 5] 24)).cell? ⟨B3, 1, none⟩ = some (.int .i64 0) := (hR.cell (World.block_lt_of_cell? _ _ B301'')).trans B301''
  have B302''' : ((on ux).alloc (.cells #[.int .u8 2, .int .i64 5] 24)).cell? ⟨B3, 2, none⟩ = some (.int .i64 0) := (hR.cell (World.block_lt_of_cell? _ _ B302'')).trans B302''
  have B400'' : ((on ux).alloc (.cells #[.int .u8 2, .int .i64 5] 24)).cell? ⟨B4, 0, none⟩ = some (.int .u8 3) := (hR.cell (World.block_lt_of_cell? _ _ B400')).trans B400'
  have B401'' : ((on ux).alloc (.cells #[.int .u8 2, .int .i64 5] 24)).cell? ⟨B4, 1, none⟩ = some (.int .i64 (-4)) := (hR.cell (World.block_lt_of_cell? _ _ B401')).trans B401'
  have B402'' : ((on ux).alloc (.cells #[.int .u8 2, .int .i64 5] 24)).cell? ⟨B4, 2, none⟩ = some (.int .i64 2) := (hR.cell (World.block_lt_of_cell? _ _ B402')).trans B402'
  have B500' : ((on ux).alloc (.cells #[.int .u8 2, .int .i64 5] 24)).cell? ⟨B5, 0, none⟩ = some (.int .i64 3) := (hR.cell (World.block_lt_of_cell? _ _ B500)).trans B500
  have B501' : ((on ux).alloc (.cells #[.int .u8 2, .int .i64 5] 24)).cell? ⟨B5, 1, none⟩ = some (.int .i64 11) := (hR.cell (World.block_lt_of_cell? _ _ B501)).trans B501
  have B600 : ((on ux).alloc (.cells #[.int .u8 2, .int .i64 5] 24)).cell? ⟨(on ux).heap.size, 0, none⟩ = some (.int .u8 2) := by simp [go_sem]
  have B601 : ((on ux).alloc (.cells #[.int .u8 2, .int .i64 5] 24)).cell? ⟨(on ux).heap.size, 1, none⟩ = some (.int .i64 5) := by simp [go_sem]
  have hB6 : Below w.heap.size w ((on ux).alloc (.cells #[.int .u8 2, .int .i64 5] 24)) := by repeat first | (with_reducible exact hB5) | (with_reducible refine below_on ?_ _) | (with_reducible refine below_alloc ?_ _)
  clear hR B100'''' B101'''' B102'''' B200''' B201''' B202''' B300'' B301'' B302'' B400' B401' B402' B500 B501  hB5
  generalize ((on ux).alloc (.cells #[.int .u8 2, .int .i64 5] 24)) = W6 at *
  generalize (on ux).heap.size = B6 at *
  clear ux
  go_wp2_with (first | (go_at_call 58; with_reducible refine (move_any _ _ _ _).mono ?_; rintro e wx ⟨rfl, hx⟩; obtain ⟨ux, rfl⟩ := after hx; clear hx) | fail)
  go_wp2_with (first | (go_at_call 59; with_reducible refine (liv_c7 _ (hS' _ (by repeat first | (with_reducible exact hB6) | (with_reducible refine below_on ?_ _) | (with_reducible refine below_alloc ?_ _) | (with_reducible refine below_set ?_ (by simp; try omega) _)))).mono ?_; rintro e wx ⟨rfl, hx⟩; obtain ⟨ux, rfl⟩ := after hx; clear hx) | fail)
  have hR : Below (W6).heap.size (W6) ((on ux).alloc (.cells #[.int .u8 4, .int .i64 3] 24)) := by repeat first | (with_reducible exact Below.refl _ _) | (with_reducible refine below_on ?_ _) | (with_reducible refine below_alloc ?_ _)
  have B100'''''' : ((on ux).alloc (.cells #[.int .u8 4, .int .i64 3] 24)).cell? ⟨B1, 0, none⟩ = some (.int .u8 0) := (hR.cell (World.block_lt_of_cell? _ _ B100''''')).trans B100'''''
  have B101'''''' : ((on ux).alloc (.cells #[.int .u8 4, .int .i64 3] 24)).cell? ⟨B1, 1, none⟩ = some (.int .i64 4) := (hR.cell (World.block_lt_of_cell? _ _ B101''''')).trans B101'''''
  have B102'''''' : ((on ux).alloc (.cells #[.int .u8 4, .int .i64 3] 24)).cell? ⟨B1, 2, none⟩ = some (.int .i64 0) := (hR.cell (World.block_lt_of_cell? _ _ B102''''')).trans B102'''''
  have B200''''' : ((on ux).alloc (.cells #[.int .u8 4, .int .i64 3] 24)).cell? ⟨B2, 0, none⟩ = some (.int .u8 2) := (hR.cell (World.block_lt_of_cell? _ _ B200'''')).trans B200''''
  have B201''''' : ((on ux).alloc (.cells #[.int .u8 4, .int .i64 3] 24)).cell? ⟨B2, 1, none⟩ = some (.int .i64 0) := (hR.cell (World.block_lt_of_cell? _ _ B201'''')).trans B201''''
  have B202''''' : ((on ux).alloc (.cells #[.int .u8 4, .int .i64 3] 24)).cell? ⟨B2, 2, none⟩ = some (.int .i64 0) := (hR.cell (World.block_lt_of_cell? _ _ B202'''')).trans B202''''
  have B300'''' : ((on ux).alloc (.cells #[.int .u8 4, .int .i64 3] 24)).cell? ⟨B3, 0, none⟩ = some (.int .u8 1) := (hR.cell (World.block_lt_of_cell? _ _ B300''')).trans B300'''
  have B301'''' : ((on ux).alloc (.cells #[.int .u8 4, .int .i64 3] 24)).cell? ⟨B3, 1, none⟩ = some (.int .i64 0) := (hR.cell (World.block_lt_of_cell? _ _ B301''')).trans B301'''
  have B302'''' : ((on ux).alloc (.cells #[.int .u8 4, .int .i64 3] 24)).cell? ⟨B3, 2, none⟩ = some (.int .i64 0) := (hR.cell (World.block_lt_of_cell? _ _ B302''')).trans B302'''
  have B400''' : ((on ux).alloc (.cells #[.int .u8 4, .int .i64 3] 24)).cell? ⟨B4, 0, none⟩ = some (.int .u8 3) := (hR.cell (World.block_lt_of_cell? _ _ B400'')).trans B400''
  have B401''' : ((on ux).alloc (.cells #[.int .u8 4, .int .i64 3] 24)).cell? ⟨B4, 1, none⟩ = some (.int .i64 (-4)) := (hR.cell (World.block_lt_of_cell? _ _ B401'')).trans B401''
  have B402''' : ((on ux).alloc (.cells #[.int .u8 4, .int .i64 3] 24)).cell? ⟨B4, 2, none⟩ = some (.int .i64 2) := (hR.cell (World.block_lt_of_cell? _ _ B402'')).trans B402''
  have B500'' : ((on ux).alloc (.cells #[.int .u8 4, .int .i64 3] 24)).cell? ⟨B5, 0, none⟩ = some (.int .i64 3) := (hR.cell (World.block_lt_of_cell? _ _ B500')).trans B500'
  have B501'' : ((on ux).alloc (.cells #[.int .u8 4, .int .i64 3] 24)).cell? ⟨B5, 1, none⟩ = some (.int .i64 11) := (hR.cell (World.block_lt_of_cell? _ _ B501')).trans B501'
  have B600' : ((on ux).alloc (.cells #[.int .u8 4, .int .i64 3] 24)).cell? ⟨B6, 0, none⟩ = some (.int .u8 2) := (hR.cell (World.block_lt_of_cell? _ _ B600)).trans B600
  have B601' : ((on ux).alloc (.cells #[.int .u8 4, .int .i64 3] 24)).cell? ⟨B6, 1, none⟩ = some (.int .i64 5) := (hR.cell (World.block_lt_of_cell? _ _ B601)).trans B601
  have B700 : ((on ux).alloc (.cells #[.int .u8 4, .int .i64 3] 24)).cell? ⟨(on ux).heap.size, 0, none⟩ = some (.int .u8 4) := by simp [go_sem]
  have B701 : ((on ux).alloc (.cells #[.int .u8 4, .int .i64 3] 24)).cell? ⟨(on ux).heap.size, 1, none⟩ = some (.int .i64 3) := by simp [go_sem]
  have hB7 : Below w.heap.size w ((on ux).alloc (.cells #[.int .u8 4, .int .i64 3] 24)) := by repeat first | (with_reducible exact hB6) | (with_reducible refine below_on ?_ _) | (with_reducible refine below_alloc ?_ _)
  clear hR B100''''' B101''''' B102''''' B200'''' B201'''' B202'''' B300''' B301''' B302''' B400'' B401'' B402'' B500' B501' B600 B601  hB6
  generalize ((on ux).alloc (.cells #[.int .u8 4, .int .i64 3] 24)) = W7 at *
  generalize (on ux).heap.size = B7 at *
  clear ux
  go_wp2_with (first | (go_at_call 44; with_reducible refine (liv_c8 _ (hS' _ (by repeat first | (with_reducible exact hB7) | (with_reducible refine below_on ?_ _) | (with_reducible refine below_alloc ?_ _) | (with_reducible refine below_set ?_ (by simp; try omega) _)))).mono ?_; rintro e wx ⟨rfl, hx⟩; obtain ⟨ux, rfl⟩ := after hx; clear hx) | fail)
  have hR : Below (W7).heap.size (W7) ((on ux).alloc (.cells #[.int .u8 0, .int .i64 0, .int .i64 0] 51)) := by repeat first | (with_reducible exact Below.refl _ _) | (with_reducible refine below_on ?_ _) | (with_reducible refine below_alloc ?_ _)
  have B100''''''' : ((on ux).alloc (.cells #[.int .u8 0, .int .i64 0, .int .i64 0] 51)).cell? ⟨B1, 0, none⟩ = some (.int .u8 0) := (hR.cell (World.block_lt_of_cell? _ _ B100'''''')).trans B100''''''
  have B101''''''' : ((on ux).alloc (.cells #[.int .u8 0, .int .i64 0, .int .i64 0] 51)).cell? ⟨B1, 1, none⟩ = some (.int .i64 4) := (hR.cell (World.block_lt_of_cell? _ _ B101'''''')).trans B101''''''
  have B102''''''' : ((on ux).alloc (.cells #[.int .u8 0, .int .i64 0, .int .i64 0] 51)).cell? ⟨B1, 2, none⟩ = some (.int .i64 0) := (hR.cell (World.block_lt_of_cell? _ _ B102'''''')).trans B102''''''
  have B200'''''' : ((on ux).alloc (.cells #[.int .u8 0, .int .i64 0, .int .i64 0] 51)).cell? ⟨B2, 0, none⟩ = some (.int .u8 2) := (hR.cell (World.block_lt_of_cell? _ _ B200''''')).trans B200'''''
  have B201'''''' : ((on ux).alloc (.cells #[.int .u8 0, .int .i64 0, .int .i64 0] 51)).cell? ⟨B2, 1, none⟩ = some (.int .i64 0) := (hR.cell (World.block_lt_of_cell? _ _ B201''''')).trans B201'''''
  have B202'''''' : ((on ux).alloc (.cells #[.int .u8 0, .int .i64 0, .int .i64 0] 51)).cell? ⟨B2, 2, none⟩ = some (.int .i64 0) := (hR.cell (World.block_lt_of_cell? _ _ B202''''')).trans B202'''''
  have B300''''' : ((on ux).alloc (.cells #[.int .u8 0, .int .i64 0, .int .i64 0] 51)).cell? ⟨B3, 0, none⟩ = some (.int .u8 1) := (hR.cell (World.block_lt_of_cell? _ _ B300'''')).trans B300''''
  have B301''''' : ((on ux).alloc (.cells #[.int .u8 0, .int .i64 0, .int .i64 0] 51)).cell? ⟨B3, 1, none⟩ = some (.int .i64 0) := (hR.cell (World.block_lt_of_cell? _ _ B301'''')).trans B301''''
  have B302''''' : ((on ux).alloc (.cells #[.int .u8 0, .int .i64 0, .int .i64 0] 51)).cell? ⟨B3, 2, none⟩ = some (.int .i64 0) := (hR.cell (World.block_lt_of_cell? _ _ B302'''')).trans B302''''
  have B400'''' : ((on ux).alloc (.cells #[.int .u8 0, .int .i64 0, .int .i64 0] 51)).cell? ⟨B4, 0, none⟩ = some (.int .u8 3) := (hR.cell (World.block_lt_of_cell? _ _ B400''')).trans B400'''
  have B401'''' : ((on ux).alloc (.cells #[.int .u8 0, .int .i64 0, .int .i64 0] 51)).cell? ⟨B4, 1, none⟩ = some (.int .i64 (-4)) := (hR.cell (World.block_lt_of_cell? _ _ B401''')).trans B401'''
  have B402'''' : ((on ux).alloc (.cells #[.int .u8 0, .int .i64 0, .int .i64 0] 51)).cell? ⟨B4, 2, none⟩ = some (.int .i64 2) := (hR.cell (World.block_lt_of_cell? _ _ B402''')).trans B402'''
  have B500''' : ((on ux).alloc (.cells #[.int .u8 0, .int .i64 0, .int .i64 0] 51)).cell? ⟨B5, 0, none⟩ = some (.int .i64 3) := (hR.cell (World.block_lt_of_cell? _ _ B500'')).trans B500''
  have B501''' : ((on ux).alloc (.cells #[.int .u8 0, .int .i64 0, .int .i64 0] 51)).cell? ⟨B5, 1, none⟩ = some (.int .i64 11) := (hR.cell (World.block_lt_of_cell? _ _ B501'')).trans B501''
  have B600'' : ((on ux).alloc (.cells #[.int .u8 0, .int .i64 0, .int .i64 0] 51)).cell? ⟨B6, 0, none⟩ = some (.int .u8 2) := (hR.cell (World.block_lt_of_cell? _ _ B600')).trans B600'
  have B601'' : ((on ux).alloc (.cells #[.int .u8 0, .int .i64 0, .int .i64 0] 51)).cell? ⟨B6, 1, none⟩ = some (.int .i64 5) := (hR.cell (World.block_lt_of_cell? _ _ B601')).trans B601'
  have B700' : ((on ux).alloc (.cells #[.int .u8 0, .int .i64 0, .int .i64 0] 51)).cell? ⟨B7, 0, none⟩ = some (.int .u8 4) := (hR.cell (World.block_lt_of_cell? _ _ B700)).trans B700
  have B701' : ((on ux).alloc (.cells #[.int .u8 0, .int .i64 0, .int .i64 0] 51)).cell? ⟨B7, 1, none⟩ = some (.int .i64 3) := (hR.cell (World.block_lt_of_cell? _ _ B701)).trans B701
  have B800 : ((on ux).alloc (.cells #[.int .u8 0, .int .i64 0, .int .i64 0] 51)).cell? ⟨(on ux).heap.size, 0, none⟩ = some (.int .u8 0) := by simp [go_sem]
  have B801 : ((on ux).alloc (.cells #[.int .u8 0, .int .i64 0, .int .i64 0] 51)).cell? ⟨(on ux).heap.size, 1, none⟩ = some (.int .i64 0) := by simp [go_sem]
  have B802 : ((on ux).alloc (.cells #[.int .u8 0, .int .i64 0, .int .i64 0] 51)).cell? ⟨(on ux).heap.size, 2, none⟩ = some (.int .i64 0) := by simp [go_sem]
  have hB8 : Below w.heap.size w ((on ux).alloc (.cells #[.int .u8 0, .int .i64 0, .int .i64 0] 51)) := by repeat first | (with_reducible exact hB7) | (with_reducible refine below_on ?_ _) | (with_reducible refine below_alloc ?_ _)
  clear hR B100'''''' B101'''''' B102'''''' B200''''' B201''''' B202''''' B300'''' B301'''' B302'''' B400''' B401''' B402''' B500'' B501'' B600' B601' B700 B701  hB7
  generalize ((on ux).alloc (.cells #[.int .u8 0, .int .i64 0, .int .i64 0] 51)) = W8 at *
  generalize (on ux).heap.size = B8 at *
  clear ux
  go_wp2_with (first | (go_at_call 58; with_reducible refine (move_any _ _ _ _).mono ?_; rintro e wx ⟨rfl, hx⟩; obtain ⟨ux, rfl⟩ := after hx; clear hx) | fail)
  go_wp2_with (first | (go_at_call 30; with_reducible refine (liv_c9 _ (hS' _ (by repeat first | (with_reducible exact hB8) | (with_reducible refine below_on ?_ _) | (with_reducible refine below_alloc ?_ _) | (with_reducible refine below_set ?_ (by simp; try omega) _)))).mono ?_; rintro e wx ⟨rfl, hx⟩; obtain ⟨ux, rfl⟩ := after hx; clear hx) | fail)
  have hR : Below (W8).heap.size (W8) ((on ux).alloc (.cells #[.int .u8 0, .int .i64 0, .int .i64 0] 51)) := by repeat first | (with_reducible exact Below.refl _ _) | (with_reducible refine below_on ?_ _) | (with_reducible refine below_alloc ?_ _)
  have B100'''''''' : ((on ux).alloc (.cells #[.int .u8 0, .int .i64 0, .int .i64 0] 51)).cell? ⟨B1, 0, none⟩ = some (.int .u8 0) := (hR.cell (World.block_lt_of_cell? _ _ B100''''''')).trans B100'''''''
  have B101'''''''' : ((on ux).alloc (.cells #[.int .u8 0, .int .i64 0, .int .i64 0] 51)).cell? ⟨B1, 1, none⟩ = some (.int .i64 4) := (hR.cell (World.block_lt_of_cell? _ _ B101''''''')).trans B101'''''''
  have B102'''''''' : ((on ux).alloc (.cells #[.int .u8 0, .int .i64 0, .int .i64 0] 51)).cell? ⟨B1, 2, none⟩ = some (.int .i64 0) := (hR.cell (World.block_lt_of_cell? _ _ B102''''''')).trans B102'''''''
  have B200''''''' : ((on ux).alloc (.cells #[.int .u8 0, .int .i64 0, .int .i64 0] 51)).cell? ⟨B2, 0, none⟩ = some (.int .u8 2) := (hR.cell (World.block_lt_of_cell? _ _ B200'''''')).trans B200''''''
  have B201''''''' : ((on ux).alloc (.cells #[.int .u8 0, .int .i64 0, .int .i64 0] 51)).cell? ⟨B2, 1, none⟩ = some (.int .i64 0) := (hR.cell (World.block_lt_of_cell? _ _ B201'''''')).trans B201''''''
  have B202''''''' : ((on ux).alloc (.cells #[.int .u8 0, .int .i64 0, .int .i64 0] 51)).cell? ⟨B2, 2, none⟩ = some (.int .i64 0) := (hR.cell (World.block_lt_of_cell? _ _ B202'''''')).trans B202''''''
  have B300'''''' : ((on ux).alloc (.cells #[.int .u8 0, .int .i64 0, .int .i64 0] 51)).cell? ⟨B3, 0, none⟩ = some (.int .u8 1) := (hR.cell (World.block_lt_of_cell? _ _ B300''''')).trans B300'''''
  have B301'''''' : ((on ux).alloc (.cells #[.int .u8 0, .int .i64 0, .int .i64 0] 51)).cell? ⟨B3, 1, none⟩ = some (.int .i64 0) := (hR.cell (World.block_lt_of_cell? _ _ B301''''')).trans B301'''''
  have B302'''''' : ((on ux).alloc (.cells #[.int .u8 0, .int .i64 0, .int .i64 0] 51)).cell? ⟨B3, 2, none⟩ = some (.int .i64 0) := (hR.cell (World.block_lt_of_cell? _ _ B302''''')).trans B302'''''
  have B400''''' : ((on ux).alloc (.cells #[.int .u8 0, .int .i64 0, .int .i64 0] 51)).cell? ⟨B4, 0, none⟩ = some (.int .u8 3) := (hR.cell (World.block_lt_of_cell? _ _ B400'''')).trans B400''''
  have B401''''' : ((on ux).alloc (.cells #[.int .u8 0, .int .i64 0, .int .i64 0] 51)).cell? ⟨B4, 1, none⟩ = some (.int .i64 (-4)) := (hR.cell (World.block_lt_of_cell? _ _ B401'''')).trans B401''''
  have B402''''' : ((on ux).alloc (.cells #[.int .u8 0, .int .i64 0, .int .i64 0] 51)).cell? ⟨B4, 2, none⟩ = some (.int .i64 2) := (hR.cell (World.block_lt_of_cell? _ _ B402'''')).trans B402''''
  have B500'''' : ((on ux).alloc (.cells #[.int .u8 0, .int .i64 0, .int .i64 0] 51)).cell? ⟨B5, 0, none⟩ = some (.int .i64 3) := (hR.cell (World.block_lt_of_cell? _ _ B500''')).trans B500'''
  have B501'''' : ((on ux).alloc (.cells #[.int .u8 0, .int .i64 0, .int .i64 0] 51)).cell? ⟨B5, 1, none⟩ = some (.int .i64 11) := (hR.cell (World.block_lt_of_cell? _ _ B501''')).trans B501'''
  have B600''' : ((on ux).alloc (.cells #[.int .u8 0, .int .i64 0, .int .i64 0] 51)).cell? ⟨B6, 0, none⟩ = some (.int .u8 2) := (hR.cell (World.block_lt_of_cell? _ _ B600'')).trans B600''
  have B601''' : ((on ux).alloc (.cells #[.int .u8 0, .int .i64 0, .int .i64 0] 51)).cell? ⟨B6, 1, none⟩ = some (.int .i64 5) := (hR.cell (World.block_lt_of_cell? _ _ B601'')).trans B601''
  have B700'' : ((on ux).alloc (.cells #[.int .u8 0, .int .i64 0, .int .i64 0] 51)).cell? ⟨B7, 0, none⟩ = some (.int .u8 4) := (hR.cell (World.block_lt_of_cell? _ _ B700')).trans B700'
  have B701'' : ((on ux).alloc (.cells #[.int .u8 0, .int .i64 0, .int .i64 0] 51)).cell? ⟨B7, 1, none⟩ = some (.int .i64 3) := (hR.cell (World.block_lt_of_cell? _ _ B701')).trans B701'
  have B800' : ((on ux).alloc (.cells #[.int .u8 0, .int .i64 0, .int .i64 0] 51)).cell? ⟨B8, 0, none⟩ = some (.int .u8 0) := (hR.cell (World.block_lt_of_cell? _ _ B800)).trans B800
  have B801' : ((on ux).alloc (.cells #[.int .u8 0, .int .i64 0, .int .i64 0] 51)).cell? ⟨B8, 1, none⟩ = some (.int .i64 0) := (hR.cell (World.block_lt_of_cell? _ _ B801)).trans B801
  have B802' : ((on ux).alloc (.cells #[.int .u8 0, .int .i64 0, .int .i64 0] 51)).cell? ⟨B8, 2, none⟩ = some (.int .i64 0) := (hR.cell (World.block_lt_of_cell? _ _ B802)).trans B802
  have B900 : ((on ux).alloc (.cells #[.int .u8 0, .int .i64 0, .int .i64 0] 51)).cell? ⟨(on ux).heap.size, 0, none⟩ = some (.int .u8 0) := by simp [go_sem]
  have B901 : ((on ux).alloc (.cells #[.int .u8 0, .int .i64 0, .int .i64 0] 51)).cell? ⟨(on ux).heap.size, 1, none⟩ = some (.int .i64 0) := by simp [go_sem]
  have B902 : ((on ux).alloc (.cells #[.int .u8 0, .int .i64 0, .int .i64 0] 51)).cell? ⟨(on ux).heap.size, 2, none⟩ = some (.int .i64 0) := by simp [go_sem]
  have hB9 : Below w.heap.size w ((on ux).alloc (.cells #[.int .u8 0, .int .i64 0, .int .i64 0] 51)) := by repeat first | (with_reducible exact hB8) | (with_reducible refine below_on ?_ _) | (with_reducible refine below_alloc ?_ _)
  clear hR B100''''''' B101''''''' B102''''''' B200'''''' B201'''''' B202'''''' B300''''' B301''''' B302''''' B400'''' B401'''' B402'''' B500''' B501''' B600'' B601'' B700' B701' B800 B801 B802  hB8
  generalize ((on ux).alloc (.cells #[.int .u8 0, .int .i64 0, .int .i64 0] 51)) = W9 at *
  generalize (on ux).heap.size = B9 at *
  clear ux
  refine region_later (by kernel_rfl) (by kernel_rfl) ?_
  repeat (go_big_quiet_step ((first | (go_at_call 58; with_reducible exact Calls.later (move_any _ _ _ _)) | (go_at_call 34; with_reducible exact Calls.later (mcheck_bad 0 1 0 _ (by omega))) | (go_at_call 32; with_reducible exact Calls.later (ident_any _)))))
  refine wpQuiet_nil ?_
  rintro _ ⟨u9, rfl⟩
  go_wp2
  go_ret
  exact ⟨rfl, (by repeat first | (with_reducible exact hB9) | (with_reducible refine below_on ?_ _) | (with_reducible refine below_alloc ?_ _) | (with_reducible refine below_set ?_ (by simp; try omega) _))⟩

end Go.Proofs.YtbcmfenekpllhaaDoor
