/-
  Says: MovesInverse answers true at every input, where the package-level variables stand as they were laid.
-/
import Derived.Test.YtbcmfenekpllhaaDoorMv12
import Derived.Test.YtbcmfenekpllhaaDoorMv5
import Derived.Test.YtbcmfenekpllhaaDoorMv6
import Derived.Test.YtbcmfenekpllhaaDoorMr3
import Derived.Test.YtbcmfenekpllhaaDoorMvz
import Derived.Deep.RegionHeld3
import Derived.RowKit3
set_option linter.unusedVariables false
set_option linter.unusedSimpArgs false
namespace Go.Proofs.YtbcmfenekpllhaaDoor
open Go Go.RowKit

attribute [local go_sem] World.cell?_alloc_some frozen?_alloc_cells fz0 fz1 fz2 fz3 fz4 fz5

set_option maxRecDepth 100000 in
set_option maxHeartbeats 8000000 in
theorem minv_bad (t X Y : Int) (w : World) (hS : Std w) (h : 7 < t ∨ X < -16384 ∨ 16384 < X ∨ Y < -16384 ∨ 16384 < Y ∨ (X + Y) % 2 ≠ 0) : Calls Tryd.prog 7 #[mv t X Y] w fun e w' => e = .returned (.bool true) ∧ Below w.heap.size w w' := by
  have hS' : ∀ W, Below w.heap.size w W → Std W := fun W h => std_below hS h
  have H : Hid (7 < t ∨ X < -16384 ∨ 16384 < X ∨ Y < -16384 ∨ 16384 < Y ∨ (X + Y) % 2 ≠ 0) := h
  clear h
  go_enter Tryd.func7, Tryd.ntmps7
  go_wp2_with fail
  have hB0 : Below w.heap.size w (w.alloc (.cells #[.int .u8 t, .int .i64 (X), .int .i64 (Y)] 51)) := (by repeat first | (with_reducible exact Below.refl _ _) | (with_reducible refine below_on ?_ _) | (with_reducible refine below_alloc ?_ _) | (with_reducible refine below_set ?_ (by simp; try omega) _))
  have b00 : (w.alloc (.cells #[.int .u8 t, .int .i64 (X), .int .i64 (Y)] 51)).cell? ⟨w.heap.size, 0, none⟩ = some (.int .u8 t) := by simp [go_sem]
  have b01 : (w.alloc (.cells #[.int .u8 t, .int .i64 (X), .int .i64 (Y)] 51)).cell? ⟨w.heap.size, 1, none⟩ = some (.int .i64 (X)) := by simp [go_sem]
  have b02 : (w.alloc (.cells #[.int .u8 t, .int .i64 (X), .int .i64 (Y)] 51)).cell? ⟨w.heap.size, 2, none⟩ = some (.int .i64 (Y)) := by simp [go_sem]
  generalize (w.alloc (.cells #[.int .u8 t, .int .i64 (X), .int .i64 (Y)] 51)) = W0 at *
  go_wp2_with (first | (go_at_call 37; with_reducible refine (inverse_bad t X Y _ H.out).mono ?_; rintro e wx ⟨rfl, hx⟩; obtain ⟨ux, rfl⟩ := after hx; clear hx) | fail)
  have hR : Below (W0).heap.size (W0) ((on ux).alloc (.cells #[.int .u8 0, .int .i64 (0), .int .i64 (0)] 51)) := by repeat first | (with_reducible exact Below.refl _ _) | (with_reducible refine below_on ?_ _) | (with_reducible refine below_alloc ?_ _)
  have b00' : ((on ux).alloc (.cells #[.int .u8 0, .int .i64 (0), .int .i64 (0)] 51)).cell? ⟨w.heap.size, 0, none⟩ = some (.int .u8 t) := (hR.cell (World.block_lt_of_cell? _ _ b00)).trans b00
  have b01' : ((on ux).alloc (.cells #[.int .u8 0, .int .i64 (0), .int .i64 (0)] 51)).cell? ⟨w.heap.size, 1, none⟩ = some (.int .i64 (X)) := (hR.cell (World.block_lt_of_cell? _ _ b01)).trans b01
  have b02' : ((on ux).alloc (.cells #[.int .u8 0, .int .i64 (0), .int .i64 (0)] 51)).cell? ⟨w.heap.size, 2, none⟩ = some (.int .i64 (Y)) := (hR.cell (World.block_lt_of_cell? _ _ b02)).trans b02
  have B100 : ((on ux).alloc (.cells #[.int .u8 0, .int .i64 (0), .int .i64 (0)] 51)).cell? ⟨(on ux).heap.size, 0, none⟩ = some (.int .u8 0) := by simp [go_sem]
  have B101 : ((on ux).alloc (.cells #[.int .u8 0, .int .i64 (0), .int .i64 (0)] 51)).cell? ⟨(on ux).heap.size, 1, none⟩ = some (.int .i64 (0)) := by simp [go_sem]
  have B102 : ((on ux).alloc (.cells #[.int .u8 0, .int .i64 (0), .int .i64 (0)] 51)).cell? ⟨(on ux).heap.size, 2, none⟩ = some (.int .i64 (0)) := by simp [go_sem]
  have hB1 : Below w.heap.size w ((on ux).alloc (.cells #[.int .u8 0, .int .i64 (0), .int .i64 (0)] 51)) := by repeat first | (with_reducible exact hB0) | (with_reducible refine below_on ?_ _) | (with_reducible refine below_alloc ?_ _)
  clear hR b00 b01 b02  hB0
  generalize ((on ux).alloc (.cells #[.int .u8 0, .int .i64 (0), .int .i64 (0)] 51)) = W1 at *
  generalize (on ux).heap.size = B1 at *
  clear ux
  go_wp2_with (first | (go_at_call 35; with_reducible refine (mvalid_no t X Y _ H.out).mono ?_; rintro e wx ⟨rfl, hx⟩; obtain ⟨ux, rfl⟩ := after hx; clear hx) | (go_at_call 28; with_reducible refine (lives2_ok _ (hS' _ (by repeat first | (with_reducible exact hB1) | (with_reducible refine below_on ?_ _) | (with_reducible refine below_alloc ?_ _) | (with_reducible refine below_set ?_ (by simp; try omega) _)))).mono ?_; rintro e wx ⟨rfl, hx⟩; obtain ⟨ux, rfl⟩ := after hx; clear hx) | fail)
  go_ret
  exact ⟨rfl, (by repeat first | (with_reducible exact hB1) | (with_reducible refine below_on ?_ _) | (with_reducible refine below_alloc ?_ _) | (with_reducible refine below_set ?_ (by simp; try omega) _))⟩

set_option maxRecDepth 100000 in
set_option maxHeartbeats 8000000 in
theorem minv_ok (t X Y : Int) (w : World) (hS : Std w) (a1 : 0 ≤ t) (a2 : t ≤ 7) (a3 : -16384 ≤ X) (a4 : X ≤ 16384) (a5 : -16384 ≤ Y) (a6 : Y ≤ 16384) (a7 : (X + Y) % 2 = 0) : Calls Tryd.prog 7 #[mv t X Y] w fun e w' => e = .returned (.bool true) ∧ Below w.heap.size w w' := by
  have hS' : ∀ W, Below w.heap.size w W → Std W := fun W h => std_below hS h
  have rr := invT_range t a1 a2
  have mi := mulT_inv t a1 a2
  have r1 := mvx_range 16384 (invT t) (-X) (-Y) rr.1 rr.2 (by omega) (by omega) (by omega) (by omega)
  have r2 := mvy_range 16384 (invT t) (-X) (-Y) rr.1 rr.2 (by omega) (by omega) (by omega) (by omega)
  have c7 : ((mvx (invT t) (-X) (-Y)) + (mvy (invT t) (-X) (-Y))) % 2 = 0 := by
    have := mv_par (invT t) (-X) (-Y) rr.1 rr.2
    omega
  have nx := mvx_neg (invT t) X Y rr.1 rr.2
  have ny := mvy_neg (invT t) X Y rr.1 rr.2
  have kx := mvx_comp (invT t) t (-X) (-Y) rr.1 rr.2 a1 a2
  have ky := mvy_comp (invT t) t (-X) (-Y) rr.1 rr.2 a1 a2
  rw [mi.2.1, mvx_id] at kx
  rw [mi.2.1, mvy_id] at ky
  obtain ⟨A, hA⟩ : ∃ A, A = mvx (invT t) (-X) (-Y) := ⟨_, rfl⟩
  obtain ⟨B, hB⟩ : ∃ B, B = mvy (invT t) (-X) (-Y) := ⟨_, rfl⟩
  obtain ⟨r, hr⟩ : ∃ r, r = invT t := ⟨_, rfl⟩
  have IN : ∀ W, Std W → Calls Tryd.prog 37 #[mv t X Y] W fun e w' => e = .returned (.tuple #[mv r A B, .int .i64 0]) ∧ Below W.heap.size W w' := fun W h => by
    rw [hr, hA, hB]; exact inverse_ok t X Y W h.turns a1 a2 a3 a4 a5 a6 a7
  have RI : ∀ W, Calls Tryd.prog 38 #[mv t X Y] W fun e w' => e = .returned (mv r A B) ∧ Below W.heap.size W w' := fun W => by
    have := rinv_any t X Y W a1 a2 (by omega) (by omega) (by omega) (by omega)
    rw [← nx, ← ny] at this
    rw [hr, hA, hB]; exact this
  have T1 : ∀ W, Std W → Calls Tryd.prog 30 #[mv t X Y, mv r A B] W fun e w' => e = .returned (.tuple #[mv 0 0 0, .int .i64 0]) ∧ Below W.heap.size W w' := fun W h => by
    have e1 : mvx (invT t) X Y + mvx (invT t) (-X) (-Y) = 0 := by omega
    have e2 : mvy (invT t) X Y + mvy (invT t) (-X) (-Y) = 0 := by omega
    have := then_ok t X Y (invT t) (mvx (invT t) (-X) (-Y)) (mvy (invT t) (-X) (-Y)) W h.turns a1 a2 a3 a4 a5 a6 a7 rr.1 rr.2 r1.1 r1.2 r2.1 r2.2 c7 (by omega) (by omega) (by omega) (by omega)
    rw [mi.1, e1, e2] at this
    rw [hr, hA, hB]; exact this
  have T2 : ∀ W, Std W → Calls Tryd.prog 30 #[mv r A B, mv t X Y] W fun e w' => e = .returned (.tuple #[mv 0 0 0, .int .i64 0]) ∧ Below W.heap.size W w' := fun W h => by
    have e1 : mvx t (mvx (invT t) (-X) (-Y)) (mvy (invT t) (-X) (-Y)) + X = 0 := by omega
    have e2 : mvy t (mvx (invT t) (-X) (-Y)) (mvy (invT t) (-X) (-Y)) + Y = 0 := by omega
    have := then_ok (invT t) (mvx (invT t) (-X) (-Y)) (mvy (invT t) (-X) (-Y)) t X Y W h.turns rr.1 rr.2 r1.1 r1.2 r2.1 r2.2 c7 a1 a2 a3 a4 a5 a6 a7 (by omega) (by omega) (by omega) (by omega)
    rw [mi.2.1, e1, e2] at this
    rw [hr, hA, hB]; exact this
  clear hr hA hB rr mi r1 r2 c7 nx ny kx ky
  have HA : Hid ((X + Y) % 2 = 0) := a7
  clear a7
  go_enter Tryd.func7, Tryd.ntmps7
  go_wp2_with fail
  have hB0 : Below w.heap.size w (w.alloc (.cells #[.int .u8 t, .int .i64 (X), .int .i64 (Y)] 51)) := (by repeat first | (with_reducible exact Below.refl _ _) | (with_reducible refine below_on ?_ _) | (with_reducible refine below_alloc ?_ _) | (with_reducible refine below_set ?_ (by simp; try omega) _))
  have b00 : (w.alloc (.cells #[.int .u8 t, .int .i64 (X), .int .i64 (Y)] 51)).cell? ⟨w.heap.size, 0, none⟩ = some (.int .u8 t) := by simp [go_sem]
  have b01 : (w.alloc (.cells #[.int .u8 t, .int .i64 (X), .int .i64 (Y)] 51)).cell? ⟨w.heap.size, 1, none⟩ = some (.int .i64 (X)) := by simp [go_sem]
  have b02 : (w.alloc (.cells #[.int .u8 t, .int .i64 (X), .int .i64 (Y)] 51)).cell? ⟨w.heap.size, 2, none⟩ = some (.int .i64 (Y)) := by simp [go_sem]
  generalize (w.alloc (.cells #[.int .u8 t, .int .i64 (X), .int .i64 (Y)] 51)) = W0 at *
  go_wp2_with (first | (go_at_call 37; with_reducible refine (IN _ (hS' _ (by repeat first | (with_reducible exact hB0) | (with_reducible refine below_on ?_ _) | (with_reducible refine below_alloc ?_ _) | (with_reducible refine below_set ?_ (by simp; try omega) _)))).mono ?_; rintro e wx ⟨rfl, hx⟩; obtain ⟨ux, rfl⟩ := after hx; clear hx) | fail)
  have hR : Below (W0).heap.size (W0) ((on ux).alloc (.cells #[.int .u8 r, .int .i64 (A), .int .i64 (B)] 51)) := by repeat first | (with_reducible exact Below.refl _ _) | (with_reducible refine below_on ?_ _) | (with_reducible refine below_alloc ?_ _)
  have b00' : ((on ux).alloc (.cells #[.int .u8 r, .int .i64 (A), .int .i64 (B)] 51)).cell? ⟨w.heap.size, 0, none⟩ = some (.int .u8 t) := (hR.cell (World.block_lt_of_cell? _ _ b00)).trans b00
  have b01' : ((on ux).alloc (.cells #[.int .u8 r, .int .i64 (A), .int .i64 (B)] 51)).cell? ⟨w.heap.size, 1, none⟩ = some (.int .i64 (X)) := (hR.cell (World.block_lt_of_cell? _ _ b01)).trans b01
  have b02' : ((on ux).alloc (.cells #[.int .u8 r, .int .i64 (A), .int .i64 (B)] 51)).cell? ⟨w.heap.size, 2, none⟩ = some (.int .i64 (Y)) := (hR.cell (World.block_lt_of_cell? _ _ b02)).trans b02
  have B100 : ((on ux).alloc (.cells #[.int .u8 r, .int .i64 (A), .int .i64 (B)] 51)).cell? ⟨(on ux).heap.size, 0, none⟩ = some (.int .u8 r) := by simp [go_sem]
  have B101 : ((on ux).alloc (.cells #[.int .u8 r, .int .i64 (A), .int .i64 (B)] 51)).cell? ⟨(on ux).heap.size, 1, none⟩ = some (.int .i64 (A)) := by simp [go_sem]
  have B102 : ((on ux).alloc (.cells #[.int .u8 r, .int .i64 (A), .int .i64 (B)] 51)).cell? ⟨(on ux).heap.size, 2, none⟩ = some (.int .i64 (B)) := by simp [go_sem]
  have hB1 : Below w.heap.size w ((on ux).alloc (.cells #[.int .u8 r, .int .i64 (A), .int .i64 (B)] 51)) := by repeat first | (with_reducible exact hB0) | (with_reducible refine below_on ?_ _) | (with_reducible refine below_alloc ?_ _)
  clear hR b00 b01 b02  hB0
  generalize ((on ux).alloc (.cells #[.int .u8 r, .int .i64 (A), .int .i64 (B)] 51)) = W1 at *
  generalize (on ux).heap.size = B1 at *
  clear ux
  go_wp2_with (first | (go_at_call 35; with_reducible refine (mvalid_yes t X Y _ a1 a2 a3 a4 a5 a6 HA.out).mono ?_; rintro e wx ⟨rfl, hx⟩; obtain ⟨ux, rfl⟩ := after hx; clear hx) | fail)
  go_wp2_with (first | (go_at_call 30; with_reducible refine (T1 _ (hS' _ (by repeat first | (with_reducible exact hB1) | (with_reducible refine below_on ?_ _) | (with_reducible refine below_alloc ?_ _) | (with_reducible refine below_set ?_ (by simp; try omega) _)))).mono ?_; rintro e wx ⟨rfl, hx⟩; obtain ⟨ux, rfl⟩ := after hx; clear hx) | fail)
  have hR : Below (W1).heap.size (W1) ((on ux).alloc (.cells #[.int .u8 0, .int .i64 (0), .int .i64 (0)] 51)) := by repeat first | (with_reducible exact Below.refl _ _) | (with_reducible refine below_on ?_ _) | (with_reducible refine below_alloc ?_ _)
  have b00'' : ((on ux).alloc (.cells #[.int .u8 0, .int .i64 (0), .int .i64 (0)] 51)).cell? ⟨w.heap.size, 0, none⟩ = some (.int .u8 t) := (hR.cell (World.block_lt_of_cell? _ _ b00')).trans b00'
  have b01'' : ((on ux).alloc (.cells #[.int .u8 0, .int .i64 (0), .int .i64 (0)] 51)).cell? ⟨w.heap.size, 1, none⟩ = some (.int .i64 (X)) := (hR.cell (World.block_lt_of_cell? _ _ b01')).trans b01'
  have b02'' : ((on ux).alloc (.cells #[.int .u8 0, .int .i64 (0), .int .i64 (0)] 51)).cell? ⟨w.heap.size, 2, none⟩ = some (.int .i64 (Y)) := (hR.cell (World.block_lt_of_cell? _ _ b02')).trans b02'
  have B100' : ((on ux).alloc (.cells #[.int .u8 0, .int .i64 (0), .int .i64 (0)] 51)).cell? ⟨B1, 0, none⟩ = some (.int .u8 r) := (hR.cell (World.block_lt_of_cell? _ _ B100)).trans B100
  have B101' : ((on ux).alloc (.cells #[.int .u8 0, .int .i64 (0), .int .i64 (0)] 51)).cell? ⟨B1, 1, none⟩ = some (.int .i64 (A)) := (hR.cell (World.block_lt_of_cell? _ _ B101)).trans B101
  have B102' : ((on ux).alloc (.cells #[.int .u8 0, .int .i64 (0), .int .i64 (0)] 51)).cell? ⟨B1, 2, none⟩ = some (.int .i64 (B)) := (hR.cell (World.block_lt_of_cell? _ _ B102)).trans B102
  have B200 : ((on ux).alloc (.cells #[.int .u8 0, .int .i64 (0), .int .i64 (0)] 51)).cell? ⟨(on ux).heap.size, 0, none⟩ = some (.int .u8 0) := by simp [go_sem]
  have B201 : ((on ux).alloc (.cells #[.int .u8 0, .int .i64 (0), .int .i64 (0)] 51)).cell? ⟨(on ux).heap.size, 1, none⟩ = some (.int .i64 (0)) := by simp [go_sem]
  have B202 : ((on ux).alloc (.cells #[.int .u8 0, .int .i64 (0), .int .i64 (0)] 51)).cell? ⟨(on ux).heap.size, 2, none⟩ = some (.int .i64 (0)) := by simp [go_sem]
  have hB2 : Below w.heap.size w ((on ux).alloc (.cells #[.int .u8 0, .int .i64 (0), .int .i64 (0)] 51)) := by repeat first | (with_reducible exact hB1) | (with_reducible refine below_on ?_ _) | (with_reducible refine below_alloc ?_ _)
  clear hR b00' b01' b02' B100 B101 B102  hB1
  generalize ((on ux).alloc (.cells #[.int .u8 0, .int .i64 (0), .int .i64 (0)] 51)) = W2 at *
  generalize (on ux).heap.size = B2 at *
  clear ux
  go_wp2_with (first | (go_at_call 30; with_reducible refine (T2 _ (hS' _ (by repeat first | (with_reducible exact hB2) | (with_reducible refine below_on ?_ _) | (with_reducible refine below_alloc ?_ _) | (with_reducible refine below_set ?_ (by simp; try omega) _)))).mono ?_; rintro e wx ⟨rfl, hx⟩; obtain ⟨ux, rfl⟩ := after hx; clear hx) | fail)
  have hR : Below (W2).heap.size (W2) ((on ux).alloc (.cells #[.int .u8 0, .int .i64 (0), .int .i64 (0)] 51)) := by repeat first | (with_reducible exact Below.refl _ _) | (with_reducible refine below_on ?_ _) | (with_reducible refine below_alloc ?_ _)
  have b00''' : ((on ux).alloc (.cells #[.int .u8 0, .int .i64 (0), .int .i64 (0)] 51)).cell? ⟨w.heap.size, 0, none⟩ = some (.int .u8 t) := (hR.cell (World.block_lt_of_cell? _ _ b00'')).trans b00''
  have b01''' : ((on ux).alloc (.cells #[.int .u8 0, .int .i64 (0), .int .i64 (0)] 51)).cell? ⟨w.heap.size, 1, none⟩ = some (.int .i64 (X)) := (hR.cell (World.block_lt_of_cell? _ _ b01'')).trans b01''
  have b02''' : ((on ux).alloc (.cells #[.int .u8 0, .int .i64 (0), .int .i64 (0)] 51)).cell? ⟨w.heap.size, 2, none⟩ = some (.int .i64 (Y)) := (hR.cell (World.block_lt_of_cell? _ _ b02'')).trans b02''
  have B100'' : ((on ux).alloc (.cells #[.int .u8 0, .int .i64 (0), .int .i64 (0)] 51)).cell? ⟨B1, 0, none⟩ = some (.int .u8 r) := (hR.cell (World.block_lt_of_cell? _ _ B100')).trans B100'
  have B101'' : ((on ux).alloc (.cells #[.int .u8 0, .int .i64 (0), .int .i64 (0)] 51)).cell? ⟨B1, 1, none⟩ = some (.int .i64 (A)) := (hR.cell (World.block_lt_of_cell? _ _ B101')).trans B101'
  have B102'' : ((on ux).alloc (.cells #[.int .u8 0, .int .i64 (0), .int .i64 (0)] 51)).cell? ⟨B1, 2, none⟩ = some (.int .i64 (B)) := (hR.cell (World.block_lt_of_cell? _ _ B102')).trans B102'
  have B200' : ((on ux).alloc (.cells #[.int .u8 0, .int .i64 (0), .int .i64 (0)] 51)).cell? ⟨B2, 0, none⟩ = some (.int .u8 0) := (hR.cell (World.block_lt_of_cell? _ _ B200)).trans B200
  have B201' : ((on ux).alloc (.cells #[.int .u8 0, .int .i64 (0), .int .i64 (0)] 51)).cell? ⟨B2, 1, none⟩ = some (.int .i64 (0)) := (hR.cell (World.block_lt_of_cell? _ _ B201)).trans B201
  have B202' : ((on ux).alloc (.cells #[.int .u8 0, .int .i64 (0), .int .i64 (0)] 51)).cell? ⟨B2, 2, none⟩ = some (.int .i64 (0)) := (hR.cell (World.block_lt_of_cell? _ _ B202)).trans B202
  have B300 : ((on ux).alloc (.cells #[.int .u8 0, .int .i64 (0), .int .i64 (0)] 51)).cell? ⟨(on ux).heap.size, 0, none⟩ = some (.int .u8 0) := by simp [go_sem]
  have B301 : ((on ux).alloc (.cells #[.int .u8 0, .int .i64 (0), .int .i64 (0)] 51)).cell? ⟨(on ux).heap.size, 1, none⟩ = some (.int .i64 (0)) := by simp [go_sem]
  have B302 : ((on ux).alloc (.cells #[.int .u8 0, .int .i64 (0), .int .i64 (0)] 51)).cell? ⟨(on ux).heap.size, 2, none⟩ = some (.int .i64 (0)) := by simp [go_sem]
  have hB3 : Below w.heap.size w ((on ux).alloc (.cells #[.int .u8 0, .int .i64 (0), .int .i64 (0)] 51)) := by repeat first | (with_reducible exact hB2) | (with_reducible refine below_on ?_ _) | (with_reducible refine below_alloc ?_ _)
  clear hR b00'' b01'' b02'' B100' B101' B102' B200 B201 B202  hB2
  generalize ((on ux).alloc (.cells #[.int .u8 0, .int .i64 (0), .int .i64 (0)] 51)) = W3 at *
  generalize (on ux).heap.size = B3 at *
  clear ux
  refine region_later (by kernel_rfl) (by kernel_rfl) ?_
  repeat (go_big_quiet_step ((first | (go_at_call 38; with_reducible exact Calls.later (RI _)) | (go_at_call 32; with_reducible exact Calls.later (ident_any _)) | (go_at_call 28; with_reducible exact Calls.later (lives2_ok _ (hS' _ (by repeat first | (with_reducible exact hB3) | (with_reducible refine below_on ?_ _) | (with_reducible refine below_alloc ?_ _) | (with_reducible refine below_set ?_ (by simp; try omega) _))))))))
  refine wpQuiet_nil ?_
  rintro _ ⟨u9, rfl⟩
  go_wp2
  go_ret
  exact ⟨rfl, (by repeat first | (with_reducible exact hB3) | (with_reducible refine below_on ?_ _) | (with_reducible refine below_alloc ?_ _) | (with_reducible refine below_set ?_ (by simp; try omega) _))⟩

theorem movesinv_law (t X Y : Int) (w : World) (hS : Std w) (a1 : 0 ≤ t) : Calls Tryd.prog 7 #[mv t X Y] w fun e w' => e = .returned (.bool true) ∧ Below w.heap.size w w' := by
  by_cases a : t ≤ 7 ∧ -16384 ≤ X ∧ X ≤ 16384 ∧ -16384 ≤ Y ∧ Y ≤ 16384 ∧ (X + Y) % 2 = 0
  · obtain ⟨a2, a3, a4, a5, a6, a7⟩ := a
    exact minv_ok t X Y w hS a1 a2 a3 a4 a5 a6 a7
  · exact minv_bad t X Y w hS (by omega)

end Go.Proofs.YtbcmfenekpllhaaDoor
