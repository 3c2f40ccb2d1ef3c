/-
  Says: MovesOf answers true at every input, where the package-level variables stand as they were laid.
-/
import Derived.Test.YtbcmfenekpllhaaDoorMv12
import Derived.Test.YtbcmfenekpllhaaDoorMv5
import Derived.Test.YtbcmfenekpllhaaDoorMv6
import Derived.Test.YtbcmfenekpllhaaDoorMr3
import Derived.Test.YtbcmfenekpllhaaDoorMvz
import Derived.Deep.RegionHeld3
import Derived.RowKit3
set_option linter.unusedVariables false
set_option linter.unusedSimpArgs false
namespace Go.Proofs.YtbcmfenekpllhaaDoor
open Go Go.RowKit

attribute [local go_sem] World.cell?_alloc_some frozen?_alloc_cells fz0 fz1 fz2 fz3 fz4 fz5

set_option maxRecDepth 100000 in
set_option maxHeartbeats 8000000 in
theorem mof_law1 (c x y : Int) (w : World) (hS : Std w) (h3 : -4096 ≤ c) (h4 : c ≤ 4096) (p1 : -128 ≤ x) (p2 : x ≤ 127) (p3 : -128 ≤ y) (p4 : y ≤ 127) : Calls Tryd.prog 5 #[ln 1 c, .int .i8 x, .int .i8 y] w fun e w' => e = .returned (.bool true) ∧ Below w.heap.size w w' := by
  have hS' : ∀ W, Below w.heap.size w W → Std W := fun W h => std_below hS h
  have PQ : ∀ W, Std W → Calls Tryd.prog 29 #[mv 4 (2 * c) (0), pt x y] W fun e w' => e = .returned (.tuple #[pt (2 * (2 * c) - x) (y), .int .i64 0]) ∧ Below W.heap.size W w' := fun W h => by
    refine (mpoint_ok 4 (2 * c) (0) x y W h.turns (by omega) (by omega) (by omega) (by omega) (by omega) (by omega) (by omega) (by omega) (by omega) (by omega) (by omega) (by rw [mvx4]; omega) (by rw [mvx4]; omega) (by rw [mvy4]; omega) (by rw [mvy4]; omega)).mono fun e w' h => ⟨h.1.trans ?_, h.2⟩
    rw [show mvx 4 x y + 2 * (2 * c) = 2 * (2 * c) - x by rw [mvx4] <;> omega, show mvy 4 x y + 2 * (0) = y by rw [mvy4] <;> omega]
  have TT : ∀ W, Std W → Calls Tryd.prog 30 #[mv 4 (2 * c) (0), mv 4 (2 * c) (0)] W fun e w' => e = .returned (.tuple #[mv 0 0 0, .int .i64 0]) ∧ Below W.heap.size W w' := fun W h => by
    refine (then_ok 4 (2 * c) (0) 4 (2 * c) (0) W h.turns (by omega) (by omega) (by omega) (by omega) (by omega) (by omega) (by omega) (by omega) (by omega) (by omega) (by omega) (by omega) (by omega) (by omega) (by rw [mvx4]; omega) (by rw [mvx4]; omega) (by rw [mvy4]; omega) (by rw [mvy4]; omega)).mono fun e w' h => ⟨h.1.trans ?_, h.2⟩
    rw [mulT44, show mvx 4 (2 * c) (0) + (2 * c) = 0 by rw [mvx4]; omega, show mvy 4 (2 * c) (0) + (0) = 0 by rw [mvy4]; omega]
  go_enter Tryd.func5, Tryd.ntmps5
  go_wp2_with fail
  have hB0 : Below w.heap.size w (w.alloc (.cells #[.int .u8 1, .int .i64 c] 24)) := (by repeat first | (with_reducible exact Below.refl _ _) | (with_reducible refine below_on ?_ _) | (with_reducible refine below_alloc ?_ _) | (with_reducible refine below_set ?_ (by simp; try omega) _))
  have b00 : (w.alloc (.cells #[.int .u8 1, .int .i64 c] 24)).cell? ⟨w.heap.size, 0, none⟩ = some (.int .u8 1) := by simp [go_sem]
  have b01 : (w.alloc (.cells #[.int .u8 1, .int .i64 c] 24)).cell? ⟨w.heap.size, 1, none⟩ = some (.int .i64 c) := by simp [go_sem]
  generalize (w.alloc (.cells #[.int .u8 1, .int .i64 c] 24)) = W0 at *
  go_wp2_with (first | (go_at_call 27; with_reducible refine (mof_1 c _ h3 h4).mono ?_; rintro e wx ⟨rfl, hx⟩; obtain ⟨ux, rfl⟩ := after hx; clear hx) | fail)
  have hR : Below (W0).heap.size (W0) ((on ux).alloc (.cells #[.int .u8 4, .int .i64 (2 * c), .int .i64 (0)] 51)) := by repeat first | (with_reducible exact Below.refl _ _) | (with_reducible refine below_on ?_ _) | (with_reducible refine below_alloc ?_ _)
  have b00' : ((on ux).alloc (.cells #[.int .u8 4, .int .i64 (2 * c), .int .i64 (0)] 51)).cell? ⟨w.heap.size, 0, none⟩ = some (.int .u8 1) := (hR.cell (World.block_lt_of_cell? _ _ b00)).trans b00
  have b01' : ((on ux).alloc (.cells #[.int .u8 4, .int .i64 (2 * c), .int .i64 (0)] 51)).cell? ⟨w.heap.size, 1, none⟩ = some (.int .i64 c) := (hR.cell (World.block_lt_of_cell? _ _ b01)).trans b01
  have B100 : ((on ux).alloc (.cells #[.int .u8 4, .int .i64 (2 * c), .int .i64 (0)] 51)).cell? ⟨(on ux).heap.size, 0, none⟩ = some (.int .u8 4) := by simp [go_sem]
  have B101 : ((on ux).alloc (.cells #[.int .u8 4, .int .i64 (2 * c), .int .i64 (0)] 51)).cell? ⟨(on ux).heap.size, 1, none⟩ = some (.int .i64 (2 * c)) := by simp [go_sem]
  have B102 : ((on ux).alloc (.cells #[.int .u8 4, .int .i64 (2 * c), .int .i64 (0)] 51)).cell? ⟨(on ux).heap.size, 2, none⟩ = some (.int .i64 (0)) := by simp [go_sem]
  have hB1 : Below w.heap.size w ((on ux).alloc (.cells #[.int .u8 4, .int .i64 (2 * c), .int .i64 (0)] 51)) := by repeat first | (with_reducible exact hB0) | (with_reducible refine below_on ?_ _) | (with_reducible refine below_alloc ?_ _)
  clear hR b00 b01  hB0
  generalize ((on ux).alloc (.cells #[.int .u8 4, .int .i64 (2 * c), .int .i64 (0)] 51)) = W1 at *
  generalize (on ux).heap.size = B1 at *
  clear ux
  go_wp2_with (first | (go_at_call 13; with_reducible refine (valid_yes 1 c _ (by omega) (by omega) h3 h4).mono ?_; rintro e wx ⟨rfl, hx⟩; obtain ⟨ux, rfl⟩ := after hx; clear hx) | fail)
  have hR : Below (W1).heap.size (W1) ((on ux).alloc (.cells #[.int .i64 (x), .int .i64 (y)] 31)) := by repeat first | (with_reducible exact Below.refl _ _) | (with_reducible refine below_on ?_ _) | (with_reducible refine below_alloc ?_ _)
  have b00'' : ((on ux).alloc (.cells #[.int .i64 (x), .int .i64 (y)] 31)).cell? ⟨w.heap.size, 0, none⟩ = some (.int .u8 1) := (hR.cell (World.block_lt_of_cell? _ _ b00')).trans b00'
  have b01'' : ((on ux).alloc (.cells #[.int .i64 (x), .int .i64 (y)] 31)).cell? ⟨w.heap.size, 1, none⟩ = some (.int .i64 c) := (hR.cell (World.block_lt_of_cell? _ _ b01')).trans b01'
  have B100' : ((on ux).alloc (.cells #[.int .i64 (x), .int .i64 (y)] 31)).cell? ⟨B1, 0, none⟩ = some (.int .u8 4) := (hR.cell (World.block_lt_of_cell? _ _ B100)).trans B100
  have B101' : ((on ux).alloc (.cells #[.int .i64 (x), .int .i64 (y)] 31)).cell? ⟨B1, 1, none⟩ = some (.int .i64 (2 * c)) := (hR.cell (World.block_lt_of_cell? _ _ B101)).trans B101
  have B102' : ((on ux).alloc (.cells #[.int .i64 (x), .int .i64 (y)] 31)).cell? ⟨B1, 2, none⟩ = some (.int .i64 (0)) := (hR.cell (World.block_lt_of_cell? _ _ B102)).trans B102
  have B200 : ((on ux).alloc (.cells #[.int .i64 (x), .int .i64 (y)] 31)).cell? ⟨(on ux).heap.size, 0, none⟩ = some (.int .i64 (x)) := by simp [go_sem]
  have B201 : ((on ux).alloc (.cells #[.int .i64 (x), .int .i64 (y)] 31)).cell? ⟨(on ux).heap.size, 1, none⟩ = some (.int .i64 (y)) := by simp [go_sem]
  have hB2 : Below w.heap.size w ((on ux).alloc (.cells #[.int .i64 (x), .int .i64 (y)] 31)) := by repeat first | (with_reducible exact hB1) | (with_reducible refine below_on ?_ _) | (with_reducible refine below_alloc ?_ _)
  clear hR b00' b01' B100 B101 B102  hB1
  generalize ((on ux).alloc (.cells #[.int .i64 (x), .int .i64 (y)] 31)) = W2 at *
  generalize (on ux).heap.size = B2 at *
  clear ux
  go_wp2_with (first | (go_at_call 29; with_reducible refine (PQ _ (hS' _ (by repeat first | (with_reducible exact hB2) | (with_reducible refine below_on ?_ _) | (with_reducible refine below_alloc ?_ _) | (with_reducible refine below_set ?_ (by simp; try omega) _)))).mono ?_; rintro e wx ⟨rfl, hx⟩; obtain ⟨ux, rfl⟩ := after hx; clear hx) | fail)
  have hR : Below (W2).heap.size (W2) ((on ux).alloc (.cells #[.int .i64 (2 * (2 * c) - x), .int .i64 (y)] 31)) := by repeat first | (with_reducible exact Below.refl _ _) | (with_reducible refine below_on ?_ _) | (with_reducible refine below_alloc ?_ _)
  have b00''' : ((on ux).alloc (.cells #[.int .i64 (2 * (2 * c) - x), .int .i64 (y)] 31)).cell? ⟨w.heap.size, 0, none⟩ = some (.int .u8 1) := (hR.cell (World.block_lt_of_cell? _ _ b00'')).trans b00''
  have b01''' : ((on ux).alloc (.cells #[.int .i64 (2 * (2 * c) - x), .int .i64 (y)] 31)).cell? ⟨w.heap.size, 1, none⟩ = some (.int .i64 c) := (hR.cell (World.block_lt_of_cell? _ _ b01'')).trans b01''
  have B100'' : ((on ux).alloc (.cells #[.int .i64 (2 * (2 * c) - x), .int .i64 (y)] 31)).cell? ⟨B1, 0, none⟩ = some (.int .u8 4) := (hR.cell (World.block_lt_of_cell? _ _ B100')).trans B100'
  have B101'' : ((on ux).alloc (.cells #[.int .i64 (2 * (2 * c) - x), .int .i64 (y)] 31)).cell? ⟨B1, 1, none⟩ = some (.int .i64 (2 * c)) := (hR.cell (World.block_lt_of_cell? _ _ B101')).trans B101'
  have B102'' : ((on ux).alloc (.cells #[.int .i64 (2 * (2 * c) - x), .int .i64 (y)] 31)).cell? ⟨B1, 2, none⟩ = some (.int .i64 (0)) := (hR.cell (World.block_lt_of_cell? _ _ B102')).trans B102'
  have B200' : ((on ux).alloc (.cells #[.int .i64 (2 * (2 * c) - x), .int .i64 (y)] 31)).cell? ⟨B2, 0, none⟩ = some (.int .i64 (x)) := (hR.cell (World.block_lt_of_cell? _ _ B200)).trans B200
  have B201' : ((on ux).alloc (.cells #[.int .i64 (2 * (2 * c) - x), .int .i64 (y)] 31)).cell? ⟨B2, 1, none⟩ = some (.int .i64 (y)) := (hR.cell (World.block_lt_of_cell? _ _ B201)).trans B201
  have B300 : ((on ux).alloc (.cells #[.int .i64 (2 * (2 * c) - x), .int .i64 (y)] 31)).cell? ⟨(on ux).heap.size, 0, none⟩ = some (.int .i64 (2 * (2 * c) - x)) := by simp [go_sem]
  have B301 : ((on ux).alloc (.cells #[.int .i64 (2 * (2 * c) - x), .int .i64 (y)] 31)).cell? ⟨(on ux).heap.size, 1, none⟩ = some (.int .i64 (y)) := by simp [go_sem]
  have hB3 : Below w.heap.size w ((on ux).alloc (.cells #[.int .i64 (2 * (2 * c) - x), .int .i64 (y)] 31)) := by repeat first | (with_reducible exact hB2) | (with_reducible refine below_on ?_ _) | (with_reducible refine below_alloc ?_ _)
  clear hR b00'' b01'' B100' B101' B102' B200 B201  hB2
  generalize ((on ux).alloc (.cells #[.int .i64 (2 * (2 * c) - x), .int .i64 (y)] 31)) = W3 at *
  generalize (on ux).heap.size = B3 at *
  clear ux
  go_wp2_with (first | (go_at_call 30; with_reducible refine (TT _ (hS' _ (by repeat first | (with_reducible exact hB3) | (with_reducible refine below_on ?_ _) | (with_reducible refine below_alloc ?_ _) | (with_reducible refine below_set ?_ (by simp; try omega) _)))).mono ?_; rintro e wx ⟨rfl, hx⟩; obtain ⟨ux, rfl⟩ := after hx; clear hx) | fail)
  have hR : Below (W3).heap.size (W3) ((on ux).alloc (.cells #[.int .u8 0, .int .i64 (0), .int .i64 (0)] 51)) := by repeat first | (with_reducible exact Below.refl _ _) | (with_reducible refine below_on ?_ _) | (with_reducible refine below_alloc ?_ _)
  have b00'''' : ((on ux).alloc (.cells #[.int .u8 0, .int .i64 (0), .int .i64 (0)] 51)).cell? ⟨w.heap.size, 0, none⟩ = some (.int .u8 1) := (hR.cell (World.block_lt_of_cell? _ _ b00''')).trans b00'''
  have b01'''' : ((on ux).alloc (.cells #[.int .u8 0, .int .i64 (0), .int .i64 (0)] 51)).cell? ⟨w.heap.size, 1, none⟩ = some (.int .i64 c) := (hR.cell (World.block_lt_of_cell? _ _ b01''')).trans b01'''
  have B100''' : ((on ux).alloc (.cells #[.int .u8 0, .int .i64 (0), .int .i64 (0)] 51)).cell? ⟨B1, 0, none⟩ = some (.int .u8 4) := (hR.cell (World.block_lt_of_cell? _ _ B100'')).trans B100''
  have B101''' : ((on ux).alloc (.cells #[.int .u8 0, .int .i64 (0), .int .i64 (0)] 51)).cell? ⟨B1, 1, none⟩ = some (.int .i64 (2 * c)) := (hR.cell (World.block_lt_of_cell? _ _ B101'')).trans B101''
  have B102''' : ((on ux).alloc (.cells #[.int .u8 0, .int .i64 (0), .int .i64 (0)] 51)).cell? ⟨B1, 2, none⟩ = some (.int .i64 (0)) := (hR.cell (World.block_lt_of_cell? _ _ B102'')).trans B102''
  have B200'' : ((on ux).alloc (.cells #[.int .u8 0, .int .i64 (0), .int .i64 (0)] 51)).cell? ⟨B2, 0, none⟩ = some (.int .i64 (x)) := (hR.cell (World.block_lt_of_cell? _ _ B200')).trans B200'
  have B201'' : ((on ux).alloc (.cells #[.int .u8 0, .int .i64 (0), .int .i64 (0)] 51)).cell? ⟨B2, 1, none⟩ = some (.int .i64 (y)) := (hR.cell (World.block_lt_of_cell? _ _ B201')).trans B201'
  have B300' : ((on ux).alloc (.cells #[.int .u8 0, .int .i64 (0), .int .i64 (0)] 51)).cell? ⟨B3, 0, none⟩ = some (.int .i64 (2 * (2 * c) - x)) := (hR.cell (World.block_lt_of_cell? _ _ B300)).trans B300
  have B301' : ((on ux).alloc (.cells #[.int .u8 0, .int .i64 (0), .int .i64 (0)] 51)).cell? ⟨B3, 1, none⟩ = some (.int .i64 (y)) := (hR.cell (World.block_lt_of_cell? _ _ B301)).trans B301
  have B400 : ((on ux).alloc (.cells #[.int .u8 0, .int .i64 (0), .int .i64 (0)] 51)).cell? ⟨(on ux).heap.size, 0, none⟩ = some (.int .u8 0) := by simp [go_sem]
  have B401 : ((on ux).alloc (.cells #[.int .u8 0, .int .i64 (0), .int .i64 (0)] 51)).cell? ⟨(on ux).heap.size, 1, none⟩ = some (.int .i64 (0)) := by simp [go_sem]
  have B402 : ((on ux).alloc (.cells #[.int .u8 0, .int .i64 (0), .int .i64 (0)] 51)).cell? ⟨(on ux).heap.size, 2, none⟩ = some (.int .i64 (0)) := by simp [go_sem]
  have hB4 : Below w.heap.size w ((on ux).alloc (.cells #[.int .u8 0, .int .i64 (0), .int .i64 (0)] 51)) := by repeat first | (with_reducible exact hB3) | (with_reducible refine below_on ?_ _) | (with_reducible refine below_alloc ?_ _)
  clear hR b00''' b01''' B100'' B101'' B102'' B200' B201' B300 B301  hB3
  generalize ((on ux).alloc (.cells #[.int .u8 0, .int .i64 (0), .int .i64 (0)] 51)) = W4 at *
  generalize (on ux).heap.size = B4 at *
  clear ux
  refine region_later (by kernel_rfl) (by kernel_rfl) ?_
  repeat (go_big_quiet_step ((first | (go_at_call 31; with_reducible exact Calls.later (rof_1 c _ h3 h4)) | (go_at_call 16; with_reducible exact Calls.later (rreflect_1 c x y _ (by omega) (by omega) (by omega) (by omega) h3 h4)) | (go_at_call 32; with_reducible exact Calls.later (ident_any _)) | (go_at_call 33; with_reducible exact Calls.later (flips_ok 4 (2 * c) (0) _ (by omega) (by omega) (by omega) (by omega) (by omega) (by omega) (by omega))) | (go_at_call 34; with_reducible exact Calls.later (mcheck_ok 4 (2 * c) (0) _ (by omega) (by omega) (by omega) (by omega) (by omega) (by omega) (by omega))) | (go_at_call 28; with_reducible exact Calls.later (lives2_ok _ (hS' _ (by repeat first | (with_reducible exact hB4) | (with_reducible refine below_on ?_ _) | (with_reducible refine below_alloc ?_ _) | (with_reducible refine below_set ?_ (by simp; try omega) _))))))))
  refine wpQuiet_nil ?_
  rintro _ ⟨u9, rfl⟩
  go_wp2
  go_ret
  exact ⟨rfl, (by repeat first | (with_reducible exact hB4) | (with_reducible refine below_on ?_ _) | (with_reducible refine below_alloc ?_ _) | (with_reducible refine below_set ?_ (by simp; try omega) _))⟩

set_option maxRecDepth 100000 in
set_option maxHeartbeats 8000000 in
theorem mof_law2 (c x y : Int) (w : World) (hS : Std w) (h3 : -4096 ≤ c) (h4 : c ≤ 4096) (p1 : -128 ≤ x) (p2 : x ≤ 127) (p3 : -128 ≤ y) (p4 : y ≤ 127) : Calls Tryd.prog 5 #[ln 2 c, .int .i8 x, .int .i8 y] w fun e w' => e = .returned (.bool true) ∧ Below w.heap.size w w' := by
  have hS' : ∀ W, Below w.heap.size w W → Std W := fun W h => std_below hS h
  have PQ : ∀ W, Std W → Calls Tryd.prog 29 #[mv 6 (0) (2 * c), pt x y] W fun e w' => e = .returned (.tuple #[pt (x) (2 * (2 * c) - y), .int .i64 0]) ∧ Below W.heap.size W w' := fun W h => by
    refine (mpoint_ok 6 (0) (2 * c) x y W h.turns (by omega) (by omega) (by omega) (by omega) (by omega) (by omega) (by omega) (by omega) (by omega) (by omega) (by omega) (by rw [mvx6]; omega) (by rw [mvx6]; omega) (by rw [mvy6]; omega) (by rw [mvy6]; omega)).mono fun e w' h => ⟨h.1.trans ?_, h.2⟩
    rw [show mvx 6 x y + 2 * (0) = x by rw [mvx6] <;> omega, show mvy 6 x y + 2 * (2 * c) = 2 * (2 * c) - y by rw [mvy6] <;> omega]
  have TT : ∀ W, Std W → Calls Tryd.prog 30 #[mv 6 (0) (2 * c), mv 6 (0) (2 * c)] W fun e w' => e = .returned (.tuple #[mv 0 0 0, .int .i64 0]) ∧ Below W.heap.size W w' := fun W h => by
    refine (then_ok 6 (0) (2 * c) 6 (0) (2 * c) W h.turns (by omega) (by omega) (by omega) (by omega) (by omega) (by omega) (by omega) (by omega) (by omega) (by omega) (by omega) (by omega) (by omega) (by omega) (by rw [mvx6]; omega) (by rw [mvx6]; omega) (by rw [mvy6]; omega) (by rw [mvy6]; omega)).mono fun e w' h => ⟨h.1.trans ?_, h.2⟩
    rw [mulT66, show mvx 6 (0) (2 * c) + (0) = 0 by rw [mvx6]; omega, show mvy 6 (0) (2 * c) + (2 * c) = 0 by rw [mvy6]; omega]
  go_enter Tryd.func5, Tryd.ntmps5
  go_wp2_with fail
  have hB0 : Below w.heap.size w (w.alloc (.cells #[.int .u8 2, .int .i64 c] 24)) := (by repeat first | (with_reducible exact Below.refl _ _) | (with_reducible refine below_on ?_ _) | (with_reducible refine below_alloc ?_ _) | (with_reducible refine below_set ?_ (by simp; try omega) _))
  have b00 : (w.alloc (.cells #[.int .u8 2, .int .i64 c] 24)).cell? ⟨w.heap.size, 0, none⟩ = some (.int .u8 2) := by simp [go_sem]
  have b01 : (w.alloc (.cells #[.int .u8 2, .int .i64 c] 24)).cell? ⟨w.heap.size, 1, none⟩ = some (.int .i64 c) := by simp [go_sem]
  generalize (w.alloc (.cells #[.int .u8 2, .int .i64 c] 24)) = W0 at *
  go_wp2_with (first | (go_at_call 27; with_reducible refine (mof_2 c _ h3 h4).mono ?_; rintro e wx ⟨rfl, hx⟩; obtain ⟨ux, rfl⟩ := after hx; clear hx) | fail)
  have hR : Below (W0).heap.size (W0) ((on ux).alloc (.cells #[.int .u8 6, .int .i64 (0), .int .i64 (2 * c)] 51)) := by repeat first | (with_reducible exact Below.refl _ _) | (with_reducible refine below_on ?_ _) | (with_reducible refine below_alloc ?_ _)
  have b00' : ((on ux).alloc (.cells #[.int .u8 6, .int .i64 (0), .int .i64 (2 * c)] 51)).cell? ⟨w.heap.size, 0, none⟩ = some (.int .u8 2) := (hR.cell (World.block_lt_of_cell? _ _ b00)).trans b00
  have b01' : ((on ux).alloc (.cells #[.int .u8 6, .int .i64 (0), .int .i64 (2 * c)] 51)).cell? ⟨w.heap.size, 1, none⟩ = some (.int .i64 c) := (hR.cell (World.block_lt_of_cell? _ _ b01)).trans b01
  have B100 : ((on ux).alloc (.cells #[.int .u8 6, .int .i64 (0), .int .i64 (2 * c)] 51)).cell? ⟨(on ux).heap.size, 0, none⟩ = some (.int .u8 6) := by simp [go_sem]
  have B101 : ((on ux).alloc (.cells #[.int .u8 6, .int .i64 (0), .int .i64 (2 * c)] 51)).cell? ⟨(on ux).heap.size, 1, none⟩ = some (.int .i64 (0)) := by simp [go_sem]
  have B102 : ((on ux).alloc (.cells #[.int .u8 6, .int .i64 (0), .int .i64 (2 * c)] 51)).cell? ⟨(on ux).heap.size, 2, none⟩ = some (.int .i64 (2 * c)) := by simp [go_sem]
  have hB1 : Below w.heap.size w ((on ux).alloc (.cells #[.int .u8 6, .int .i64 (0), .int .i64 (2 * c)] 51)) := by repeat first | (with_reducible exact hB0) | (with_reducible refine below_on ?_ _) | (with_reducible refine below_alloc ?_ _)
  clear hR b00 b01  hB0
  generalize ((on ux).alloc (.cells #[.int .u8 6, .int .i64 (0), .int .i64 (2 * c)] 51)) = W1 at *
  generalize (on ux).heap.size = B1 at *
  clear ux
  go_wp2_with (first | (go_at_call 13; with_reducible refine (valid_yes 2 c _ (by omega) (by omega) h3 h4).mono ?_; rintro e wx ⟨rfl, hx⟩; obtain ⟨ux, rfl⟩ := after hx; clear hx) | fail)
  have hR : Below (W1).heap.size (W1) ((on ux).alloc (.cells #[.int .i64 (x), .int .i64 (y)] 31)) := by repeat first | (with_reducible exact Below.refl _ _) | (with_reducible refine below_on ?_ _) | (with_reducible refine below_alloc ?_ _)
  have b00'' : ((on ux).alloc (.cells #[.int .i64 (x), .int .i64 (y)] 31)).cell? ⟨w.heap.size, 0, none⟩ = some (.int .u8 2) := (hR.cell (World.block_lt_of_cell? _ _ b00')).trans b00'
  have b01'' : ((on ux).alloc (.cells #[.int .i64 (x), .int .i64 (y)] 31)).cell? ⟨w.heap.size, 1, none⟩ = some (.int .i64 c) := (hR.cell (World.block_lt_of_cell? _ _ b01')).trans b01'
  have B100' : ((on ux).alloc (.cells #[.int .i64 (x), .int .i64 (y)] 31)).cell? ⟨B1, 0, none⟩ = some (.int .u8 6) := (hR.cell (World.block_lt_of_cell? _ _ B100)).trans B100
  have B101' : ((on ux).alloc (.cells #[.int .i64 (x), .int .i64 (y)] 31)).cell? ⟨B1, 1, none⟩ = some (.int .i64 (0)) := (hR.cell (World.block_lt_of_cell? _ _ B101)).trans B101
  have B102' : ((on ux).alloc (.cells #[.int .i64 (x), .int .i64 (y)] 31)).cell? ⟨B1, 2, none⟩ = some (.int .i64 (2 * c)) := (hR.cell (World.block_lt_of_cell? _ _ B102)).trans B102
  have B200 : ((on ux).alloc (.cells #[.int .i64 (x), .int .i64 (y)] 31)).cell? ⟨(on ux).heap.size, 0, none⟩ = some (.int .i64 (x)) := by simp [go_sem]
  have B201 : ((on ux).alloc (.cells #[.int .i64 (x), .int .i64 (y)] 31)).cell? ⟨(on ux).heap.size, 1, none⟩ = some (.int .i64 (y)) := by simp [go_sem]
  have hB2 : Below w.heap.size w ((on ux).alloc (.cells #[.int .i64 (x), .int .i64 (y)] 31)) := by repeat first | (with_reducible exact hB1) | (with_reducible refine below_on ?_ _) | (with_reducible refine below_alloc ?_ _)
  clear hR b00' b01' B100 B101 B102  hB1
  generalize ((on ux).alloc (.cells #[.int .i64 (x), .int .i64 (y)] 31)) = W2 at *
  generalize (on ux).heap.size = B2 at *
  clear ux
  go_wp2_with (first | (go_at_call 29; with_reducible refine (PQ _ (hS' _ (by repeat first | (with_reducible exact hB2) | (with_reducible refine below_on ?_ _) | (with_reducible refine below_alloc ?_ _) | (with_reducible refine below_set ?_ (by simp; try omega) _)))).mono ?_; rintro e wx ⟨rfl, hx⟩; obtain ⟨ux, rfl⟩ := after hx; clear hx) | fail)
  have hR : Below (W2).heap.size (W2) ((on ux).alloc (.cells #[.int .i64 (x), .int .i64 (2 * (2 * c) - y)] 31)) := by repeat first | (with_reducible exact Below.refl _ _) | (with_reducible refine below_on ?_ _) | (with_reducible refine below_alloc ?_ _)
  have b00''' : ((on ux).alloc (.cells #[.int .i64 (x), .int .i64 (2 * (2 * c) - y)] 31)).cell? ⟨w.heap.size, 0, none⟩ = some (.int .u8 2) := (hR.cell (World.block_lt_of_cell? _ _ b00'')).trans b00''
  have b01''' : ((on ux).alloc (.cells #[.int .i64 (x), .int .i64 (2 * (2 * c) - y)] 31)).cell? ⟨w.heap.size, 1, none⟩ = some (.int .i64 c) := (hR.cell (World.block_lt_of_cell? _ _ b01'')).trans b01''
  have B100'' : ((on ux).alloc (.cells #[.int .i64 (x), .int .i64 (2 * (2 * c) - y)] 31)).cell? ⟨B1, 0, none⟩ = some (.int .u8 6) := (hR.cell (World.block_lt_of_cell? _ _ B100')).trans B100'
  have B101'' : ((on ux).alloc (.cells #[.int .i64 (x), .int .i64 (2 * (2 * c) - y)] 31)).cell? ⟨B1, 1, none⟩ = some (.int .i64 (0)) := (hR.cell (World.block_lt_of_cell? _ _ B101')).trans B101'
  have B102'' : ((on ux).alloc (.cells #[.int .i64 (x), .int .i64 (2 * (2 * c) - y)] 31)).cell? ⟨B1, 2, none⟩ = some (.int .i64 (2 * c)) := (hR.cell (World.block_lt_of_cell? _ _ B102')).trans B102'
  have B200' : ((on ux).alloc (.cells #[.int .i64 (x), .int .i64 (2 * (2 * c) - y)] 31)).cell? ⟨B2, 0, none⟩ = some (.int .i64 (x)) := (hR.cell (World.block_lt_of_cell? _ _ B200)).trans B200
  have B201' : ((on ux).alloc (.cells #[.int .i64 (x), .int .i64 (2 * (2 * c) - y)] 31)).cell? ⟨B2, 1, none⟩ = some (.int .i64 (y)) := (hR.cell (World.block_lt_of_cell? _ _ B201)).trans B201
  have B300 : ((on ux).alloc (.cells #[.int .i64 (x), .int .i64 (2 * (2 * c) - y)] 31)).cell? ⟨(on ux).heap.size, 0, none⟩ = some (.int .i64 (x)) := by simp [go_sem]
  have B301 : ((on ux).alloc (.cells #[.int .i64 (x), .int .i64 (2 * (2 * c) - y)] 31)).cell? ⟨(on ux).heap.size, 1, none⟩ = some (.int .i64 (2 * (2 * c) - y)) := by simp [go_sem]
  have hB3 : Below w.heap.size w ((on ux).alloc (.cells #[.int .i64 (x), .int .i64 (2 * (2 * c) - y)] 31)) := by repeat first | (with_reducible exact hB2) | (with_reducible refine below_on ?_ _) | (with_reducible refine below_alloc ?_ _)
  clear hR b00'' b01'' B100' B101' B102' B200 B201  hB2
  generalize ((on ux).alloc (.cells #[.int .i64 (x), .int .i64 (2 * (2 * c) - y)] 31)) = W3 at *
  generalize (on ux).heap.size = B3 at *
  clear ux
  go_wp2_with (first | (go_at_call 30; with_reducible refine (TT _ (hS' _ (by repeat first | (with_reducible exact hB3) | (with_reducible refine below_on ?_ _) | (with_reducible refine below_alloc ?_ _) | (with_reducible refine below_set ?_ (by simp; try omega) _)))).mono ?_; rintro e wx ⟨rfl, hx⟩; obtain ⟨ux, rfl⟩ := after hx; clear hx) | fail)
  have hR : Below (W3).heap.size (W3) ((on ux).alloc (.cells #[.int .u8 0, .int .i64 (0), .int .i64 (0)] 51)) := by repeat first | (with_reducible exact Below.refl _ _) | (with_reducible refine below_on ?_ _) | (with_reducible refine below_alloc ?_ _)
  have b00'''' : ((on ux).alloc (.cells #[.int .u8 0, .int .i64 (0), .int .i64 (0)] 51)).cell? ⟨w.heap.size, 0, none⟩ = some (.int .u8 2) := (hR.cell (World.block_lt_of_cell? _ _ b00''')).trans b00'''
  have b01'''' : ((on ux).alloc (.cells #[.int .u8 0, .int .i64 (0), .int .i64 (0)] 51)).cell? ⟨w.heap.size, 1, none⟩ = some (.int .i64 c) := (hR.cell (World.block_lt_of_cell? _ _ b01''')).trans b01'''
  have B100''' : ((on ux).alloc (.cells #[.int .u8 0, .int .i64 (0), .int .i64 (0)] 51)).cell? ⟨B1, 0, none⟩ = some (.int .u8 6) := (hR.cell (World.block_lt_of_cell? _ _ B100'')).trans B100''
  have B101''' : ((on ux).alloc (.cells #[.int .u8 0, .int .i64 (0), .int .i64 (0)] 51)).cell? ⟨B1, 1, none⟩ = some (.int .i64 (0)) := (hR.cell (World.block_lt_of_cell? _ _ B101'')).trans B101''
  have B102''' : ((on ux).alloc (.cells #[.int .u8 0, .int .i64 (0), .int .i64 (0)] 51)).cell? ⟨B1, 2, none⟩ = some (.int .i64 (2 * c)) := (hR.cell (World.block_lt_of_cell? _ _ B102'')).trans B102''
  have B200'' : ((on ux).alloc (.cells #[.int .u8 0, .int .i64 (0), .int .i64 (0)] 51)).cell? ⟨B2, 0, none⟩ = some (.int .i64 (x)) := (hR.cell (World.block_lt_of_cell? _ _ B200')).trans B200'
  have B201'' : ((on ux).alloc (.cells #[.int .u8 0, .int .i64 (0), .int .i64 (0)] 51)).cell? ⟨B2, 1, none⟩ = some (.int .i64 (y)) := (hR.cell (World.block_lt_of_cell? _ _ B201')).trans B201'
  have B300' : ((on ux).alloc (.cells #[.int .u8 0, .int .i64 (0), .int .i64 (0)] 51)).cell? ⟨B3, 0, none⟩ = some (.int .i64 (x)) := (hR.cell (World.block_lt_of_cell? _ _ B300)).trans B300
  have B301' : ((on ux).alloc (.cells #[.int .u8 0, .int .i64 (0), .int .i64 (0)] 51)).cell? ⟨B3, 1, none⟩ = some (.int .i64 (2 * (2 * c) - y)) := (hR.cell (World.block_lt_of_cell? _ _ B301)).trans B301
  have B400 : ((on ux).alloc (.cells #[.int .u8 0, .int .i64 (0), .int .i64 (0)] 51)).cell? ⟨(on ux).heap.size, 0, none⟩ = some (.int .u8 0) := by simp [go_sem]
  have B401 : ((on ux).alloc (.cells #[.int .u8 0, .int .i64 (0), .int .i64 (0)] 51)).cell? ⟨(on ux).heap.size, 1, none⟩ = some (.int .i64 (0)) := by simp [go_sem]
  have B402 : ((on ux).alloc (.cells #[.int .u8 0, .int .i64 (0), .int .i64 (0)] 51)).cell? ⟨(on ux).heap.size, 2, none⟩ = some (.int .i64 (0)) := by simp [go_sem]
  have hB4 : Below w.heap.size w ((on ux).alloc (.cells #[.int .u8 0, .int .i64 (0), .int .i64 (0)] 51)) := by repeat first | (with_reducible exact hB3) | (with_reducible refine below_on ?_ _) | (with_reducible refine below_alloc ?_ _)
  clear hR b00''' b01''' B100'' B101'' B102'' B200' B201' B300 B301  hB3
  generalize ((on ux).alloc (.cells #[.int .u8 0, .int .i64 (0), .int .i64 (0)] 51)) = W4 at *
  generalize (on ux).heap.size = B4 at *
  clear ux
  refine region_later (by kernel_rfl) (by kernel_rfl) ?_
  repeat (go_big_quiet_step ((first | (go_at_call 31; with_reducible exact Calls.later (rof_2 c _ h3 h4)) | (go_at_call 16; with_reducible exact Calls.later (rreflect_2 c x y _ (by omega) (by omega) (by omega) (by omega) h3 h4)) | (go_at_call 32; with_reducible exact Calls.later (ident_any _)) | (go_at_call 33; with_reducible exact Calls.later (flips_ok 6 (0) (2 * c) _ (by omega) (by omega) (by omega) (by omega) (by omega) (by omega) (by omega))) | (go_at_call 34; with_reducible exact Calls.later (mcheck_ok 6 (0) (2 * c) _ (by omega) (by omega) (by omega) (by omega) (by omega) (by omega) (by omega))) | (go_at_call 28; with_reducible exact Calls.later (lives2_ok _ (hS' _ (by repeat first | (with_reducible exact hB4) | (with_reducible refine below_on ?_ _) | (with_reducible refine below_alloc ?_ _) | (with_reducible refine below_set ?_ (by simp; try omega) _))))))))
  refine wpQuiet_nil ?_
  rintro _ ⟨u9, rfl⟩
  go_wp2
  go_ret
  exact ⟨rfl, (by repeat first | (with_reducible exact hB4) | (with_reducible refine below_on ?_ _) | (with_reducible refine below_alloc ?_ _) | (with_reducible refine below_set ?_ (by simp; try omega) _))⟩

set_option maxRecDepth 100000 in
set_option maxHeartbeats 8000000 in
theorem mof_law3 (c x y : Int) (w : World) (hS : Std w) (h3 : -4096 ≤ c) (h4 : c ≤ 4096) (p1 : -128 ≤ x) (p2 : x ≤ 127) (p3 : -128 ≤ y) (p4 : y ≤ 127) : Calls Tryd.prog 5 #[ln 3 c, .int .i8 x, .int .i8 y] w fun e w' => e = .returned (.bool true) ∧ Below w.heap.size w w' := by
  have hS' : ∀ W, Below w.heap.size w W → Std W := fun W h => std_below hS h
  have PQ : ∀ W, Std W → Calls Tryd.prog 29 #[mv 5 (c) (c), pt x y] W fun e w' => e = .returned (.tuple #[pt ((2 * c) - y) ((2 * c) - x), .int .i64 0]) ∧ Below W.heap.size W w' := fun W h => by
    refine (mpoint_ok 5 (c) (c) x y W h.turns (by omega) (by omega) (by omega) (by omega) (by omega) (by omega) (by omega) (by omega) (by omega) (by omega) (by omega) (by rw [mvx5]; omega) (by rw [mvx5]; omega) (by rw [mvy5]; omega) (by rw [mvy5]; omega)).mono fun e w' h => ⟨h.1.trans ?_, h.2⟩
    rw [show mvx 5 x y + 2 * (c) = (2 * c) - y by rw [mvx5] <;> omega, show mvy 5 x y + 2 * (c) = (2 * c) - x by rw [mvy5] <;> omega]
  have TT : ∀ W, Std W → Calls Tryd.prog 30 #[mv 5 (c) (c), mv 5 (c) (c)] W fun e w' => e = .returned (.tuple #[mv 0 0 0, .int .i64 0]) ∧ Below W.heap.size W w' := fun W h => by
    refine (then_ok 5 (c) (c) 5 (c) (c) W h.turns (by omega) (by omega) (by omega) (by omega) (by omega) (by omega) (by omega) (by omega) (by omega) (by omega) (by omega) (by omega) (by omega) (by omega) (by rw [mvx5]; omega) (by rw [mvx5]; omega) (by rw [mvy5]; omega) (by rw [mvy5]; omega)).mono fun e w' h => ⟨h.1.trans ?_, h.2⟩
    rw [mulT55, show mvx 5 (c) (c) + (c) = 0 by rw [mvx5]; omega, show mvy 5 (c) (c) + (c) = 0 by rw [mvy5]; omega]
  go_enter Tryd.func5, Tryd.ntmps5
  go_wp2_with fail
  have hB0 : Below w.heap.size w (w.alloc (.cells #[.int .u8 3, .int .i64 c] 24)) := (by repeat first | (with_reducible exact Below.refl _ _) | (with_reducible refine below_on ?_ _) | (with_reducible refine below_alloc ?_ _) | (with_reducible refine below_set ?_ (by simp; try omega) _))
  have b00 : (w.alloc (.cells #[.int .u8 3, .int .i64 c] 24)).cell? ⟨w.heap.size, 0, none⟩ = some (.int .u8 3) := by simp [go_sem]
  have b01 : (w.alloc (.cells #[.int .u8 3, .int .i64 c] 24)).cell? ⟨w.heap.size, 1, none⟩ = some (.int .i64 c) := by simp [go_sem]
  generalize (w.alloc (.cells #[.int .u8 3, .int .i64 c] 24)) = W0 at *
  go_wp2_with (first | (go_at_call 27; with_reducible refine (mof_3 c _ h3 h4).mono ?_; rintro e wx ⟨rfl, hx⟩; obtain ⟨ux, rfl⟩ := after hx; clear hx) | fail)
  have hR : Below (W0).heap.size (W0) ((on ux).alloc (.cells #[.int .u8 5, .int .i64 (c), .int .i64 (c)] 51)) := by repeat first | (with_reducible exact Below.refl _ _) | (with_reducible refine below_on ?_ _) | (with_reducible refine below_alloc ?_ _)
  have b00' : ((on ux).alloc (.cells #[.int .u8 5, .int .i64 (c), .int .i64 (c)] 51)).cell? ⟨w.heap.size, 0, none⟩ = some (.int .u8 3) := (hR.cell (World.block_lt_of_cell? _ _ b00)).trans b00
  have b01' : ((on ux).alloc (.cells #[.int .u8 5, .int .i64 (c), .int .i64 (c)] 51)).cell? ⟨w.heap.size, 1, none⟩ = some (.int .i64 c) := (hR.cell (World.block_lt_of_cell? _ _ b01)).trans b01
  have B100 : ((on ux).alloc (.cells #[.int .u8 5, .int .i64 (c), .int .i64 (c)] 51)).cell? ⟨(on ux).heap.size, 0, none⟩ = some (.int .u8 5) := by simp [go_sem]
  have B101 : ((on ux).alloc (.cells #[.int .u8 5, .int .i64 (c), .int .i64 (c)] 51)).cell? ⟨(on ux).heap.size, 1, none⟩ = some (.int .i64 (c)) := by simp [go_sem]
  have B102 : ((on ux).alloc (.cells #[.int .u8 5, .int .i64 (c), .int .i64 (c)] 51)).cell? ⟨(on ux).heap.size, 2, none⟩ = some (.int .i64 (c)) := by simp [go_sem]
  have hB1 : Below w.heap.size w ((on ux).alloc (.cells #[.int .u8 5, .int .i64 (c), .int .i64 (c)] 51)) := by repeat first | (with_reducible exact hB0) | (with_reducible refine below_on ?_ _) | (with_reducible refine below_alloc ?_ _)
  clear hR b00 b01  hB0
  generalize ((on ux).alloc (.cells #[.int .u8 5, .int .i64 (c), .int .i64 (c)] 51)) = W1 at *
  generalize (on ux).heap.size = B1 at *
  clear ux
  go_wp2_with (first | (go_at_call 13; with_reducible refine (valid_yes 3 c _ (by omega) (by omega) h3 h4).mono ?_; rintro e wx ⟨rfl, hx⟩; obtain ⟨ux, rfl⟩ := after hx; clear hx) | fail)
  have hR : Below (W1).heap.size (W1) ((on ux).alloc (.cells #[.int .i64 (x), .int .i64 (y)] 31)) := by repeat first | (with_reducible exact Below.refl _ _) | (with_reducible refine below_on ?_ _) | (with_reducible refine below_alloc ?_ _)
  have b00'' : ((on ux).alloc (.cells #[.int .i64 (x), .int .i64 (y)] 31)).cell? ⟨w.heap.size, 0, none⟩ = some (.int .u8 3) := (hR.cell (World.block_lt_of_cell? _ _ b00')).trans b00'
  have b01'' : ((on ux).alloc (.cells #[.int .i64 (x), .int .i64 (y)] 31)).cell? ⟨w.heap.size, 1, none⟩ = some (.int .i64 c) := (hR.cell (World.block_lt_of_cell? _ _ b01')).trans b01'
  have B100' : ((on ux).alloc (.cells #[.int .i64 (x), .int .i64 (y)] 31)).cell? ⟨B1, 0, none⟩ = some (.int .u8 5) := (hR.cell (World.block_lt_of_cell? _ _ B100)).trans B100
  have B101' : ((on ux).alloc (.cells #[.int .i64 (x), .int .i64 (y)] 31)).cell? ⟨B1, 1, none⟩ = some (.int .i64 (c)) := (hR.cell (World.block_lt_of_cell? _ _ B101)).trans B101
  have B102' : ((on ux).alloc (.cells #[.int .i64 (x), .int .i64 (y)] 31)).cell? ⟨B1, 2, none⟩ = some (.int .i64 (c)) := (hR.cell (World.block_lt_of_cell? _ _ B102)).trans B102
  have B200 : ((on ux).alloc (.cells #[.int .i64 (x), .int .i64 (y)] 31)).cell? ⟨(on ux).heap.size, 0, none⟩ = some (.int .i64 (x)) := by simp [go_sem]
  have B201 : ((on ux).alloc (.cells #[.int .i64 (x), .int .i64 (y)] 31)).cell? ⟨(on ux).heap.size, 1, none⟩ = some (.int .i64 (y)) := by simp [go_sem]
  have hB2 : Below w.heap.size w ((on ux).alloc (.cells #[.int .i64 (x), .int .i64 (y)] 31)) := by repeat first | (with_reducible exact hB1) | (with_reducible refine below_on ?_ _) | (with_reducible refine below_alloc ?_ _)
  clear hR b00' b01' B100 B101 B102  hB1
  generalize ((on ux).alloc (.cells #[.int .i64 (x), .int .i64 (y)] 31)) = W2 at *
  generalize (on ux).heap.size = B2 at *
  clear ux
  go_wp2_with (first | (go_at_call 29; with_reducible refine (PQ _ (hS' _ (by repeat first | (with_reducible exact hB2) | (with_reducible refine below_on ?_ _) | (with_reducible refine below_alloc ?_ _) | (with_reducible refine below_set ?_ (by simp; try omega) _)))).mono ?_; rintro e wx ⟨rfl, hx⟩; obtain ⟨ux, rfl⟩ := after hx; clear hx) | fail)
  have hR : Below (W2).heap.size (W2) ((on ux).alloc (.cells #[.int .i64 ((2 * c) - y), .int .i64 ((2 * c) - x)] 31)) := by repeat first | (with_reducible exact Below.refl _ _) | (with_reducible refine below_on ?_ _) | (with_reducible refine below_alloc ?_ _)
  have b00''' : ((on ux).alloc (.cells #[.int .i64 ((2 * c) - y), .int .i64 ((2 * c) - x)] 31)).cell? ⟨w.heap.size, 0, none⟩ = some (.int .u8 3) := (hR.cell (World.block_lt_of_cell? _ _ b00'')).trans b00''
  have b01''' : ((on ux).alloc (.cells #[.int .i64 ((2 * c) - y), .int .i64 ((2 * c) - x)] 31)).cell? ⟨w.heap.size, 1, none⟩ = some (.int .i64 c) := (hR.cell (World.block_lt_of_cell? _ _ b01'')).trans b01''
  have B100'' : ((on ux).alloc (.cells #[.int .i64 ((2 * c) - y), .int .i64 ((2 * c) - x)] 31)).cell? ⟨B1, 0, none⟩ = some (.int .u8 5) := (hR.cell (World.block_lt_of_cell? _ _ B100')).trans B100'
  have B101'' : ((on ux).alloc (.cells #[.int .i64 ((2 * c) - y), .int .i64 ((2 * c) - x)] 31)).cell? ⟨B1, 1, none⟩ = some (.int .i64 (c)) := (hR.cell (World.block_lt_of_cell? _ _ B101')).trans B101'
  have B102'' : ((on ux).alloc (.cells #[.int .i64 ((2 * c) - y), .int .i64 ((2 * c) - x)] 31)).cell? ⟨B1, 2, none⟩ = some (.int .i64 (c)) := (hR.cell (World.block_lt_of_cell? _ _ B102')).trans B102'
  have B200' : ((on ux).alloc (.cells #[.int .i64 ((2 * c) - y), .int .i64 ((2 * c) - x)] 31)).cell? ⟨B2, 0, none⟩ = some (.int .i64 (x)) := (hR.cell (World.block_lt_of_cell? _ _ B200)).trans B200
  have B201' : ((on ux).alloc (.cells #[.int .i64 ((2 * c) - y), .int .i64 ((2 * c) - x)] 31)).cell? ⟨B2, 1, none⟩ = some (.int .i64 (y)) := (hR.cell (World.block_lt_of_cell? _ _ B201)).trans B201
  have B300 : ((on ux).alloc (.cells #[.int .i64 ((2 * c) - y), .int .i64 ((2 * c) - x)] 31)).cell? ⟨(on ux).heap.size, 0, none⟩ = some (.int .i64 ((2 * c) - y)) := by simp [go_sem]
  have B301 : ((on ux).alloc (.cells #[.int .i64 ((2 * c) - y), .int .i64 ((2 * c) - x)] 31)).cell? ⟨(on ux).heap.size, 1, none⟩ = some (.int .i64 ((2 * c) - x)) := by simp [go_sem]
  have hB3 : Below w.heap.size w ((on ux).alloc (.cells #[.int .i64 ((2 * c) - y), .int .i64 ((2 * c) - x)] 31)) := by repeat first | (with_reducible exact hB2) | (with_reducible refine below_on ?_ _) | (with_reducible refine below_alloc ?_ _)
  clear hR b00'' b01'' B100' B101' B102' B200 B201  hB2
  generalize ((on ux).alloc (.cells #[.int .i64 ((2 * c) - y), .int .i64 ((2 * c) - x)] 31)) = W3 at *
  generalize (on ux).heap.size = B3 at *
  clear ux
  go_wp2_with (first | (go_at_call 30; with_reducible refine (TT _ (hS' _ (by repeat first | (with_reducible exact hB3) | (with_reducible refine below_on ?_ _) | (with_reducible refine below_alloc ?_ _) | (with_reducible refine below_set ?_ (by simp; try omega) _)))).mono ?_; rintro e wx ⟨rfl, hx⟩; obtain ⟨ux, rfl⟩ := after hx; clear hx) | fail)
  have hR : Below (W3).heap.size (W3) ((on ux).alloc (.cells #[.int .u8 0, .int .i64 (0), .int .i64 (0)] 51)) := by repeat first | (with_reducible exact Below.refl _ _) | (with_reducible refine below_on ?_ _) | (with_reducible refine below_alloc ?_ _)
  have b00'''' : ((on ux).alloc (.cells #[.int .u8 0, .int .i64 (0), .int .i64 (0)] 51)).cell? ⟨w.heap.size, 0, none⟩ = some (.int .u8 3) := (hR.cell (World.block_lt_of_cell? _ _ b00''')).trans b00'''
  have b01'''' : ((on ux).alloc (.cells #[.int .u8 0, .int .i64 (0), .int .i64 (0)] 51)).cell? ⟨w.heap.size, 1, none⟩ = some (.int .i64 c) := (hR.cell (World.block_lt_of_cell? _ _ b01''')).trans b01'''
  have B100''' : ((on ux).alloc (.cells #[.int .u8 0, .int .i64 (0), .int .i64 (0)] 51)).cell? ⟨B1, 0, none⟩ = some (.int .u8 5) := (hR.cell (World.block_lt_of_cell? _ _ B100'')).trans B100''
  have B101''' : ((on ux).alloc (.cells #[.int .u8 0, .int .i64 (0), .int .i64 (0)] 51)).cell? ⟨B1, 1, none⟩ = some (.int .i64 (c)) := (hR.cell (World.block_lt_of_cell? _ _ B101'')).trans B101''
  have B102''' : ((on ux).alloc (.cells #[.int .u8 0, .int .i64 (0), .int .i64 (0)] 51)).cell? ⟨B1, 2, none⟩ = some (.int .i64 (c)) := (hR.cell (World.block_lt_of_cell? _ _ B102'')).trans B102''
  have B200'' : ((on ux).alloc (.cells #[.int .u8 0, .int .i64 (0), .int .i64 (0)] 51)).cell? ⟨B2, 0, none⟩ = some (.int .i64 (x)) := (hR.cell (World.block_lt_of_cell? _ _ B200')).trans B200'
  have B201'' : ((on ux).alloc (.cells #[.int .u8 0, .int .i64 (0), .int .i64 (0)] 51)).cell? ⟨B2, 1, none⟩ = some (.int .i64 (y)) := (hR.cell (World.block_lt_of_cell? _ _ B201')).trans B201'
  have B300' : ((on ux).alloc (.cells #[.int .u8 0, .int .i64 (0), .int .i64 (0)] 51)).cell? ⟨B3, 0, none⟩ = some (.int .i64 ((2 * c) - y)) := (hR.cell (World.block_lt_of_cell? _ _ B300)).trans B300
  have B301' : ((on ux).alloc (.cells #[.int .u8 0, .int .i64 (0), .int .i64 (0)] 51)).cell? ⟨B3, 1, none⟩ = some (.int .i64 ((2 * c) - x)) := (hR.cell (World.block_lt_of_cell? _ _ B301)).trans B301
  have B400 : ((on ux).alloc (.cells #[.int .u8 0, .int .i64 (0), .int .i64 (0)] 51)).cell? ⟨(on ux).heap.size, 0, none⟩ = some (.int .u8 0) := by simp [go_sem]
  have B401 : ((on ux).alloc (.cells #[.int .u8 0, .int .i64 (0), .int .i64 (0)] 51)).cell? ⟨(on ux).heap.size, 1, none⟩ = some (.int .i64 (0)) := by simp [go_sem]
  have B402 : ((on ux).alloc (.cells #[.int .u8 0, .int .i64 (0), .int .i64 (0)] 51)).cell? ⟨(on ux).heap.size, 2, none⟩ = some (.int .i64 (0)) := by simp [go_sem]
  have hB4 : Below w.heap.size w ((on ux).alloc (.cells #[.int .u8 0, .int .i64 (0), .int .i64 (0)] 51)) := by repeat first | (with_reducible exact hB3) | (with_reducible refine below_on ?_ _) | (with_reducible refine below_alloc ?_ _)
  clear hR b00''' b01''' B100'' B101'' B102'' B200' B201' B300 B301  hB3
  generalize ((on ux).alloc (.cells #[.int .u8 0, .int .i64 (0), .int .i64 (0)] 51)) = W4 at *
  generalize (on ux).heap.size = B4 at *
  clear ux
  refine region_later (by kernel_rfl) (by kernel_rfl) ?_
  repeat (go_big_quiet_step ((first | (go_at_call 31; with_reducible exact Calls.later (rof_3 c _ h3 h4)) | (go_at_call 16; with_reducible exact Calls.later (rreflect_3 c x y _ (by omega) (by omega) (by omega) (by omega) h3 h4)) | (go_at_call 32; with_reducible exact Calls.later (ident_any _)) | (go_at_call 33; with_reducible exact Calls.later (flips_ok 5 (c) (c) _ (by omega) (by omega) (by omega) (by omega) (by omega) (by omega) (by omega))) | (go_at_call 34; with_reducible exact Calls.later (mcheck_ok 5 (c) (c) _ (by omega) (by omega) (by omega) (by omega) (by omega) (by omega) (by omega))) | (go_at_call 28; with_reducible exact Calls.later (lives2_ok _ (hS' _ (by repeat first | (with_reducible exact hB4) | (with_reducible refine below_on ?_ _) | (with_reducible refine below_alloc ?_ _) | (with_reducible refine below_set ?_ (by simp; try omega) _))))))))
  refine wpQuiet_nil ?_
  rintro _ ⟨u9, rfl⟩
  go_wp2
  go_ret
  exact ⟨rfl, (by repeat first | (with_reducible exact hB4) | (with_reducible refine below_on ?_ _) | (with_reducible refine below_alloc ?_ _) | (with_reducible refine below_set ?_ (by simp; try omega) _))⟩

set_option maxRecDepth 100000 in
set_option maxHeartbeats 8000000 in
theorem mof_law4 (c x y : Int) (w : World) (hS : Std w) (h3 : -4096 ≤ c) (h4 : c ≤ 4096) (p1 : -128 ≤ x) (p2 : x ≤ 127) (p3 : -128 ≤ y) (p4 : y ≤ 127) : Calls Tryd.prog 5 #[ln 4 c, .int .i8 x, .int .i8 y] w fun e w' => e = .returned (.bool true) ∧ Below w.heap.size w w' := by
  have hS' : ∀ W, Below w.heap.size w W → Std W := fun W h => std_below hS h
  have PQ : ∀ W, Std W → Calls Tryd.prog 29 #[mv 7 (-c) (c), pt x y] W fun e w' => e = .returned (.tuple #[pt (y - (2 * c)) (x + (2 * c)), .int .i64 0]) ∧ Below W.heap.size W w' := fun W h => by
    refine (mpoint_ok 7 (-c) (c) x y W h.turns (by omega) (by omega) (by omega) (by omega) (by omega) (by omega) (by omega) (by omega) (by omega) (by omega) (by omega) (by rw [mvx7]; omega) (by rw [mvx7]; omega) (by rw [mvy7]; omega) (by rw [mvy7]; omega)).mono fun e w' h => ⟨h.1.trans ?_, h.2⟩
    rw [show mvx 7 x y + 2 * (-c) = y - (2 * c) by rw [mvx7] <;> omega, show mvy 7 x y + 2 * (c) = x + (2 * c) by rw [mvy7] <;> omega]
  have TT : ∀ W, Std W → Calls Tryd.prog 30 #[mv 7 (-c) (c), mv 7 (-c) (c)] W fun e w' => e = .returned (.tuple #[mv 0 0 0, .int .i64 0]) ∧ Below W.heap.size W w' := fun W h => by
    refine (then_ok 7 (-c) (c) 7 (-c) (c) W h.turns (by omega) (by omega) (by omega) (by omega) (by omega) (by omega) (by omega) (by omega) (by omega) (by omega) (by omega) (by omega) (by omega) (by omega) (by rw [mvx7]; omega) (by rw [mvx7]; omega) (by rw [mvy7]; omega) (by rw [mvy7]; omega)).mono fun e w' h => ⟨h.1.trans ?_, h.2⟩
    rw [mulT77, show mvx 7 (-c) (c) + (-c) = 0 by rw [mvx7]; omega, show mvy 7 (-c) (c) + (c) = 0 by rw [mvy7]; omega]
  go_enter Tryd.func5, Tryd.ntmps5
  go_wp2_with fail
  have hB0 : Below w.heap.size w (w.alloc (.cells #[.int .u8 4, .int .i64 c] 24)) := (by repeat first | (with_reducible exact Below.refl _ _) | (with_reducible refine below_on ?_ _) | (with_reducible refine below_alloc ?_ _) | (with_reducible refine below_set ?_ (by simp; try omega) _))
  have b00 : (w.alloc (.cells #[.int .u8 4, .int .i64 c] 24)).cell? ⟨w.heap.size, 0, none⟩ = some (.int .u8 4) := by simp [go_sem]
  have b01 : (w.alloc (.cells #[.int .u8 4, .int .i64 c] 24)).cell? ⟨w.heap.size, 1, none⟩ = some (.int .i64 c) := by simp [go_sem]
  generalize (w.alloc (.cells #[.int .u8 4, .int .i64 c] 24)) = W0 at *
  go_wp2_with (first | (go_at_call 27; with_reducible refine (mof_4 c _ h3 h4).mono ?_; rintro e wx ⟨rfl, hx⟩; obtain ⟨ux, rfl⟩ := after hx; clear hx) | fail)
  have hR : Below (W0).heap.size (W0) ((on ux).alloc (.cells #[.int .u8 7, .int .i64 (-c), .int .i64 (c)] 51)) := by repeat first | (with_reducible exact Below.refl _ _) | (with_reducible refine below_on ?_ _) | (with_reducible refine below_alloc ?_ _)
  have b00' : ((on ux).alloc (.cells #[.int .u8 7, .int .i64 (-c), .int .i64 (c)] 51)).cell? ⟨w.heap.size, 0, none⟩ = some (.int .u8 4) := (hR.cell (World.block_lt_of_cell? _ _ b00)).trans b00
  have b01' : ((on ux).alloc (.cells #[.int .u8 7, .int .i64 (-c), .int .i64 (c)] 51)).cell? ⟨w.heap.size, 1, none⟩ = some (.int .i64 c) := (hR.cell (World.block_lt_of_cell? _ _ b01)).trans b01
  have B100 : ((on ux).alloc (.cells #[.int .u8 7, .int .i64 (-c), .int .i64 (c)] 51)).cell? ⟨(on ux).heap.size, 0, none⟩ = some (.int .u8 7) := by simp [go_sem]
  have B101 : ((on ux).alloc (.cells #[.int .u8 7, .int .i64 (-c), .int .i64 (c)] 51)).cell? ⟨(on ux).heap.size, 1, none⟩ = some (.int .i64 (-c)) := by simp [go_sem]
  have B102 : ((on ux).alloc (.cells #[.int .u8 7, .int .i64 (-c), .int .i64 (c)] 51)).cell? ⟨(on ux).heap.size, 2, none⟩ = some (.int .i64 (c)) := by simp [go_sem]
  have hB1 : Below w.heap.size w ((on ux).alloc (.cells #[.int .u8 7, .int .i64 (-c), .int .i64 (c)] 51)) := by repeat first | (with_reducible exact hB0) | (with_reducible refine below_on ?_ _) | (with_reducible refine below_alloc ?_ _)
  clear hR b00 b01  hB0
  generalize ((on ux).alloc (.cells #[.int .u8 7, .int .i64 (-c), .int .i64 (c)] 51)) = W1 at *
  generalize (on ux).heap.size = B1 at *
  clear ux
  go_wp2_with (first | (go_at_call 13; with_reducible refine (valid_yes 4 c _ (by omega) (by omega) h3 h4).mono ?_; rintro e wx ⟨rfl, hx⟩; obtain ⟨ux, rfl⟩ := after hx; clear hx) | fail)
  have hR : Below (W1).heap.size (W1) ((on ux).alloc (.cells #[.int .i64 (x), .int .i64 (y)] 31)) := by repeat first | (with_reducible exact Below.refl _ _) | (with_reducible refine below_on ?_ _) | (with_reducible refine below_alloc ?_ _)
  have b00'' : ((on ux).alloc (.cells #[.int .i64 (x), .int .i64 (y)] 31)).cell? ⟨w.heap.size, 0, none⟩ = some (.int .u8 4) := (hR.cell (World.block_lt_of_cell? _ _ b00')).trans b00'
  have b01'' : ((on ux).alloc (.cells #[.int .i64 (x), .int .i64 (y)] 31)).cell? ⟨w.heap.size, 1, none⟩ = some (.int .i64 c) := (hR.cell (World.block_lt_of_cell? _ _ b01')).trans b01'
  have B100' : ((on ux).alloc (.cells #[.int .i64 (x), .int .i64 (y)] 31)).cell? ⟨B1, 0, none⟩ = some (.int .u8 7) := (hR.cell (World.block_lt_of_cell? _ _ B100)).trans B100
  have B101' : ((on ux).alloc (.cells #[.int .i64 (x), .int .i64 (y)] 31)).cell? ⟨B1, 1, none⟩ = some (.int .i64 (-c)) := (hR.cell (World.block_lt_of_cell? _ _ B101)).trans B101
  have B102' : ((on ux).alloc (.cells #[.int .i64 (x), .int .i64 (y)] 31)).cell? ⟨B1, 2, none⟩ = some (.int .i64 (c)) := (hR.cell (World.block_lt_of_cell? _ _ B102)).trans B102
  have B200 : ((on ux).alloc (.cells #[.int .i64 (x), .int .i64 (y)] 31)).cell? ⟨(on ux).heap.size, 0, none⟩ = some (.int .i64 (x)) := by simp [go_sem]
  have B201 : ((on ux).alloc (.cells #[.int .i64 (x), .int .i64 (y)] 31)).cell? ⟨(on ux).heap.size, 1, none⟩ = some (.int .i64 (y)) := by simp [go_sem]
  have hB2 : Below w.heap.size w ((on ux).alloc (.cells #[.int .i64 (x), .int .i64 (y)] 31)) := by repeat first | (with_reducible exact hB1) | (with_reducible refine below_on ?_ _) | (with_reducible refine below_alloc ?_ _)
  clear hR b00' b01' B100 B101 B102  hB1
  generalize ((on ux).alloc (.cells #[.int .i64 (x), .int .i64 (y)] 31)) = W2 at *
  generalize (on ux).heap.size = B2 at *
  clear ux
  go_wp2_with (first | (go_at_call 29; with_reducible refine (PQ _ (hS' _ (by repeat first | (with_reducible exact hB2) | (with_reducible refine below_on ?_ _) | (with_reducible refine below_alloc ?_ _) | (with_reducible refine below_set ?_ (by simp; try omega) _)))).mono ?_; rintro e wx ⟨rfl, hx⟩; obtain ⟨ux, rfl⟩ := after hx; clear hx) | fail)
  have hR : Below (W2).heap.size (W2) ((on ux).alloc (.cells #[.int .i64 (y - (2 * c)), .int .i64 (x + (2 * c))] 31)) := by repeat first | (with_reducible exact Below.refl _ _) | (with_reducible refine below_on ?_ _) | (with_reducible refine below_alloc ?_ _)
  have b00''' : ((on ux).alloc (.cells #[.int .i64 (y - (2 * c)), .int .i64 (x + (2 * c))] 31)).cell? ⟨w.heap.size, 0, none⟩ = some (.int .u8 4) := (hR.cell (World.block_lt_of_cell? _ _ b00'')).trans b00''
  have b01''' : ((on ux).alloc (.cells #[.int .i64 (y - (2 * c)), .int .i64 (x + (2 * c))] 31)).cell? ⟨w.heap.size, 1, none⟩ = some (.int .i64 c) := (hR.cell (World.block_lt_of_cell? _ _ b01'')).trans b01''
  have B100'' : ((on ux).alloc (.cells #[.int .i64 (y - (2 * c)), .int .i64 (x + (2 * c))] 31)).cell? ⟨B1, 0, none⟩ = some (.int .u8 7) := (hR.cell (World.block_lt_of_cell? _ _ B100')).trans B100'
  have B101'' : ((on ux).alloc (.cells #[.int .i64 (y - (2 * c)), .int .i64 (x + (2 * c))] 31)).cell? ⟨B1, 1, none⟩ = some (.int .i64 (-c)) := (hR.cell (World.block_lt_of_cell? _ _ B101')).trans B101'
  have B102'' : ((on ux).alloc (.cells #[.int .i64 (y - (2 * c)), .int .i64 (x + (2 * c))] 31)).cell? ⟨B1, 2, none⟩ = some (.int .i64 (c)) := (hR.cell (World.block_lt_of_cell? _ _ B102')).trans B102'
  have B200' : ((on ux).alloc (.cells #[.int .i64 (y - (2 * c)), .int .i64 (x + (2 * c))] 31)).cell? ⟨B2, 0, none⟩ = some (.int .i64 (x)) := (hR.cell (World.block_lt_of_cell? _ _ B200)).trans B200
  have B201' : ((on ux).alloc (.cells #[.int .i64 (y - (2 * c)), .int .i64 (x + (2 * c))] 31)).cell? ⟨B2, 1, none⟩ = some (.int .i64 (y)) := (hR.cell (World.block_lt_of_cell? _ _ B201)).trans B201
  have B300 : ((on ux).alloc (.cells #[.int .i64 (y - (2 * c)), .int .i64 (x + (2 * c))] 31)).cell? ⟨(on ux).heap.size, 0, none⟩ = some (.int .i64 (y - (2 * c))) := by simp [go_sem]
  have B301 : ((on ux).alloc (.cells #[.int .i64 (y - (2 * c)), .int .i64 (x + (2 * c))] 31)).cell? ⟨(on ux).heap.size, 1, none⟩ = some (.int .i64 (x + (2 * c))) := by simp [go_sem]
  have hB3 : Below w.heap.size w ((on ux).alloc (.cells #[.int .i64 (y - (2 * c)), .int .i64 (x + (2 * c))] 31)) := by repeat first | (with_reducible exact hB2) | (with_reducible refine below_on ?_ _) | (with_reducible refine below_alloc ?_ _)
  clear hR b00'' b01'' B100' B101' B102' B200 B201  hB2
  generalize ((on ux).alloc (.cells #[.int .i64 (y - (2 * c)), .int .i64 (x + (2 * c))] 31)) = W3 at *
  generalize (on ux).heap.size = B3 at *
  clear ux
  go_wp2_with (first | (go_at_call 30; with_reducible refine (TT _ (hS' _ (by repeat first | (with_reducible exact hB3) | (with_reducible refine below_on ?_ _) | (with_reducible refine below_alloc ?_ _) | (with_reducible refine below_set ?_ (by simp; try omega) _)))).mono ?_; rintro e wx ⟨rfl, hx⟩; obtain ⟨ux, rfl⟩ := after hx; clear hx) | fail)
  have hR : Below (W3).heap.size (W3) ((on ux).alloc (.cells #[.int .u8 0, .int .i64 (0), .int .i64 (0)] 51)) := by repeat first | (with_reducible exact Below.refl _ _) | (with_reducible refine below_on ?_ _) | (with_reducible refine below_alloc ?_ _)
  have b00'''' : ((on ux).alloc (.cells #[.int .u8 0, .int .i64 (0), .int .i64 (0)] 51)).cell? ⟨w.heap.size, 0, none⟩ = some (.int .u8 4) := (hR.cell (World.block_lt_of_cell? _ _ b00''')).trans b00'''
  have b01'''' : ((on ux).alloc (.cells #[.int .u8 0, .int .i64 (0), .int .i64 (0)] 51)).cell? ⟨w.heap.size, 1, none⟩ = some (.int .i64 c) := (hR.cell (World.block_lt_of_cell? _ _ b01''')).trans b01'''
  have B100''' : ((on ux).alloc (.cells #[.int .u8 0, .int .i64 (0), .int .i64 (0)] 51)).cell? ⟨B1, 0, none⟩ = some (.int .u8 7) := (hR.cell (World.block_lt_of_cell? _ _ B100'')).trans B100''
  have B101''' : ((on ux).alloc (.cells #[.int .u8 0, .int .i64 (0), .int .i64 (0)] 51)).cell? ⟨B1, 1, none⟩ = some (.int .i64 (-c)) := (hR.cell (World.block_lt_of_cell? _ _ B101'')).trans B101''
  have B102''' : ((on ux).alloc (.cells #[.int .u8 0, .int .i64 (0), .int .i64 (0)] 51)).cell? ⟨B1, 2, none⟩ = some (.int .i64 (c)) := (hR.cell (World.block_lt_of_cell? _ _ B102'')).trans B102''
  have B200'' : ((on ux).alloc (.cells #[.int .u8 0, .int .i64 (0), .int .i64 (0)] 51)).cell? ⟨B2, 0, none⟩ = some (.int .i64 (x)) := (hR.cell (World.block_lt_of_cell? _ _ B200')).trans B200'
  have B201'' : ((on ux).alloc (.cells #[.int .u8 0, .int .i64 (0), .int .i64 (0)] 51)).cell? ⟨B2, 1, none⟩ = some (.int .i64 (y)) := (hR.cell (World.block_lt_of_cell? _ _ B201')).trans B201'
  have B300' : ((on ux).alloc (.cells #[.int .u8 0, .int .i64 (0), .int .i64 (0)] 51)).cell? ⟨B3, 0, none⟩ = some (.int .i64 (y - (2 * c))) := (hR.cell (World.block_lt_of_cell? _ _ B300)).trans B300
  have B301' : ((on ux).alloc (.cells #[.int .u8 0, .int .i64 (0), .int .i64 (0)] 51)).cell? ⟨B3, 1, none⟩ = some (.int .i64 (x + (2 * c))) := (hR.cell (World.block_lt_of_cell? _ _ B301)).trans B301
  have B400 : ((on ux).alloc (.cells #[.int .u8 0, .int .i64 (0), .int .i64 (0)] 51)).cell? ⟨(on ux).heap.size, 0, none⟩ = some (.int .u8 0) := by simp [go_sem]
  have B401 : ((on ux).alloc (.cells #[.int .u8 0, .int .i64 (0), .int .i64 (0)] 51)).cell? ⟨(on ux).heap.size, 1, none⟩ = some (.int .i64 (0)) := by simp [go_sem]
  have B402 : ((on ux).alloc (.cells #[.int .u8 0, .int .i64 (0), .int .i64 (0)] 51)).cell? ⟨(on ux).heap.size, 2, none⟩ = some (.int .i64 (0)) := by simp [go_sem]
  have hB4 : Below w.heap.size w ((on ux).alloc (.cells #[.int .u8 0, .int .i64 (0), .int .i64 (0)] 51)) := by repeat first | (with_reducible exact hB3) | (with_reducible refine below_on ?_ _) | (with_reducible refine below_alloc ?_ _)
  clear hR b00''' b01''' B100'' B101'' B102'' B200' B201' B300 B301  hB3
  generalize ((on ux).alloc (.cells #[.int .u8 0, .int .i64 (0), .int .i64 (0)] 51)) = W4 at *
  generalize (on ux).heap.size = B4 at *
  clear ux
  refine region_later (by kernel_rfl) (by kernel_rfl) ?_
  repeat (go_big_quiet_step ((first | (go_at_call 31; with_reducible exact Calls.later (rof_4 c _ h3 h4)) | (go_at_call 16; with_reducible exact Calls.later (rreflect_4 c x y _ (by omega) (by omega) (by omega) (by omega) h3 h4)) | (go_at_call 32; with_reducible exact Calls.later (ident_any _)) | (go_at_call 33; with_reducible exact Calls.later (flips_ok 7 (-c) (c) _ (by omega) (by omega) (by omega) (by omega) (by omega) (by omega) (by omega))) | (go_at_call 34; with_reducible exact Calls.later (mcheck_ok 7 (-c) (c) _ (by omega) (by omega) (by omega) (by omega) (by omega) (by omega) (by omega))) | (go_at_call 28; with_reducible exact Calls.later (lives2_ok _ (hS' _ (by repeat first | (with_reducible exact hB4) | (with_reducible refine below_on ?_ _) | (with_reducible refine below_alloc ?_ _) | (with_reducible refine below_set ?_ (by simp; try omega) _))))))))
  refine wpQuiet_nil ?_
  rintro _ ⟨u9, rfl⟩
  go_wp2
  go_ret
  exact ⟨rfl, (by repeat first | (with_reducible exact hB4) | (with_reducible refine below_on ?_ _) | (with_reducible refine below_alloc ?_ _) | (with_reducible refine below_set ?_ (by simp; try omega) _))⟩

set_option maxRecDepth 100000 in
set_option maxHeartbeats 8000000 in
theorem mof_lawbad (k c x y : Int) (w : World) (hS : Std w) (h : k < 1 ∨ 4 < k ∨ c < -4096 ∨ 4096 < c) : Calls Tryd.prog 5 #[ln k c, .int .i8 x, .int .i8 y] w fun e w' => e = .returned (.bool true) ∧ Below w.heap.size w w' := by
  have hS' : ∀ W, Below w.heap.size w W → Std W := fun W h => std_below hS h
  have H : Hid (k < 1 ∨ 4 < k ∨ c < -4096 ∨ 4096 < c) := h
  clear h
  go_enter Tryd.func5, Tryd.ntmps5
  go_wp2_with fail
  have hB0 : Below w.heap.size w (w.alloc (.cells #[.int .u8 k, .int .i64 c] 24)) := (by repeat first | (with_reducible exact Below.refl _ _) | (with_reducible refine below_on ?_ _) | (with_reducible refine below_alloc ?_ _) | (with_reducible refine below_set ?_ (by simp; try omega) _))
  have b00 : (w.alloc (.cells #[.int .u8 k, .int .i64 c] 24)).cell? ⟨w.heap.size, 0, none⟩ = some (.int .u8 k) := by simp [go_sem]
  have b01 : (w.alloc (.cells #[.int .u8 k, .int .i64 c] 24)).cell? ⟨w.heap.size, 1, none⟩ = some (.int .i64 c) := by simp [go_sem]
  generalize (w.alloc (.cells #[.int .u8 k, .int .i64 c] 24)) = W0 at *
  go_wp2_with (first | (go_at_call 27; with_reducible refine (mof_bad k c _ H.out).mono ?_; rintro e wx ⟨rfl, hx⟩; obtain ⟨ux, rfl⟩ := after hx; clear hx) | fail)
  have hR : Below (W0).heap.size (W0) ((on ux).alloc (.cells #[.int .u8 0, .int .i64 (0), .int .i64 (0)] 51)) := by repeat first | (with_reducible exact Below.refl _ _) | (with_reducible refine below_on ?_ _) | (with_reducible refine below_alloc ?_ _)
  have b00' : ((on ux).alloc (.cells #[.int .u8 0, .int .i64 (0), .int .i64 (0)] 51)).cell? ⟨w.heap.size, 0, none⟩ = some (.int .u8 k) := (hR.cell (World.block_lt_of_cell? _ _ b00)).trans b00
  have b01' : ((on ux).alloc (.cells #[.int .u8 0, .int .i64 (0), .int .i64 (0)] 51)).cell? ⟨w.heap.size, 1, none⟩ = some (.int .i64 c) := (hR.cell (World.block_lt_of_cell? _ _ b01)).trans b01
  have B100 : ((on ux).alloc (.cells #[.int .u8 0, .int .i64 (0), .int .i64 (0)] 51)).cell? ⟨(on ux).heap.size, 0, none⟩ = some (.int .u8 0) := by simp [go_sem]
  have B101 : ((on ux).alloc (.cells #[.int .u8 0, .int .i64 (0), .int .i64 (0)] 51)).cell? ⟨(on ux).heap.size, 1, none⟩ = some (.int .i64 (0)) := by simp [go_sem]
  have B102 : ((on ux).alloc (.cells #[.int .u8 0, .int .i64 (0), .int .i64 (0)] 51)).cell? ⟨(on ux).heap.size, 2, none⟩ = some (.int .i64 (0)) := by simp [go_sem]
  have hB1 : Below w.heap.size w ((on ux).alloc (.cells #[.int .u8 0, .int .i64 (0), .int .i64 (0)] 51)) := by repeat first | (with_reducible exact hB0) | (with_reducible refine below_on ?_ _) | (with_reducible refine below_alloc ?_ _)
  clear hR b00 b01  hB0
  generalize ((on ux).alloc (.cells #[.int .u8 0, .int .i64 (0), .int .i64 (0)] 51)) = W1 at *
  generalize (on ux).heap.size = B1 at *
  clear ux
  go_wp2_with (first | (go_at_call 13; with_reducible refine (valid_no k c _ H.out).mono ?_; rintro e wx ⟨rfl, hx⟩; obtain ⟨ux, rfl⟩ := after hx; clear hx) | (go_at_call 28; with_reducible refine (lives2_ok _ (hS' _ (by repeat first | (with_reducible exact hB1) | (with_reducible refine below_on ?_ _) | (with_reducible refine below_alloc ?_ _) | (with_reducible refine below_set ?_ (by simp; try omega) _)))).mono ?_; rintro e wx ⟨rfl, hx⟩; obtain ⟨ux, rfl⟩ := after hx; clear hx) | fail)
  go_ret
  exact ⟨rfl, (by repeat first | (with_reducible exact hB1) | (with_reducible refine below_on ?_ _) | (with_reducible refine below_alloc ?_ _) | (with_reducible refine below_set ?_ (by simp; try omega) _))⟩

theorem movesof_law (k c x y : Int) (w : World) (hS : Std w) (p1 : -128 ≤ x) (p2 : x ≤ 127) (p3 : -128 ≤ y) (p4 : y ≤ 127) : Calls Tryd.prog 5 #[ln k c, .int .i8 x, .int .i8 y] w fun e w' => e = .returned (.bool true) ∧ Below w.heap.size w w' := by
  by_cases a : 1 ≤ k ∧ k ≤ 4 ∧ -4096 ≤ c ∧ c ≤ 4096
  · obtain ⟨a1, a2, a3, a4⟩ := a
    obtain rfl | rfl | rfl | rfl : k = 1 ∨ k = 2 ∨ k = 3 ∨ k = 4 := by omega
    · exact mof_law1 c x y w hS a3 a4 p1 p2 p3 p4
    · exact mof_law2 c x y w hS a3 a4 p1 p2 p3 p4
    · exact mof_law3 c x y w hS a3 a4 p1 p2 p3 p4
    · exact mof_law4 c x y w hS a3 a4 p1 p2 p3 p4
  · exact mof_lawbad k c x y w hS (by omega)

end Go.Proofs.YtbcmfenekpllhaaDoor
