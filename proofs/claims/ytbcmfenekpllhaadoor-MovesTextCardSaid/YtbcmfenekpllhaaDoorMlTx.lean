/-
  Says: MovesText answers true at every input, where the package-level variables stand as they were laid.
-/
import Derived.Test.YtbcmfenekpllhaaDoorMr4
import Derived.Test.YtbcmfenekpllhaaDoorMr1
import Derived.Test.YtbcmfenekpllhaaDoorMv12
import Derived.Test.YtbcmfenekpllhaaDoorMvz
import Derived.Deep.RegionHeld3
import Derived.RowKit3
set_option linter.unusedVariables false
set_option linter.unusedSimpArgs false
namespace Go.Proofs.YtbcmfenekpllhaaDoor
open Go Go.RowKit

attribute [local go_sem] World.cell?_alloc_some frozen?_alloc_cells fz0 fz1 fz2 fz3 fz4 fz5

set_option maxRecDepth 100000 in
set_option maxHeartbeats 8000000 in
theorem mtx_long (t X Y : Int) (s : ByteArray) (w : World) (hl : 30 < (s.size : Int)) : Calls Tryd.prog 11 #[mv t X Y, .string s] w fun e w' => e = .returned (.bool true) ∧ Below w.heap.size w w' := by
  go_enter Tryd.func11, Tryd.ntmps11
  go_wp2_with fail
  go_ret
  exact ⟨rfl, (by repeat first | (with_reducible exact Below.refl _ _) | (with_reducible refine below_on ?_ _) | (with_reducible refine below_alloc ?_ _) | (with_reducible refine below_set ?_ (by simp; try omega) _))⟩

set_option maxRecDepth 100000 in
set_option maxHeartbeats 8000000 in
theorem mtx_1A (t X Y : Int) (s : ByteArray) (p P Q : Int) (w : World) (hS : Std w) (a1 : 0 ≤ t) (a2 : t ≤ 7) (a3 : -16384 ≤ X) (a4 : X ≤ 16384) (a5 : -16384 ≤ Y) (a6 : Y ≤ 16384) (a7 : (X + Y) % 2 = 0) (hl : (s.size : Int) ≤ 30) (b1 : 0 ≤ p) (b2 : p ≤ 7) (b3 : -16384 ≤ P) (b4 : P ≤ 16384) (b5 : -16384 ≤ Q) (b6 : Q ≤ 16384) (b7 : (P + Q) % 2 = 0) (HT : Hid (∀ w, Calls Tryd.prog 43 #[mv p P Q] w fun e w' => e = .returned (.string s) ∧ Below w.heap.size w w')) (HP : Hid (∀ w, Std w → Calls Tryd.prog 44 #[.string s] w fun e w' => e = .returned (.tuple #[mv p P Q, .int .i64 0]) ∧ Below w.heap.size w w')) : Calls Tryd.prog 11 #[mv t X Y, .string s] w fun e w' => e = .returned (.bool true) ∧ Below w.heap.size w w' := by
  have hS' : ∀ W, Below w.heap.size w W → Std W := fun W h => std_below hS h
  have HA : Hid ((X + Y) % 2 = 0) := a7
  clear a7
  have HB : Hid ((P + Q) % 2 = 0) := b7
  clear b7
  go_enter Tryd.func11, Tryd.ntmps11
  go_wp2_with fail
  have hB0 : Below w.heap.size w (w.alloc (.cells #[.int .u8 t, .int .i64 (X), .int .i64 (Y)] 51)) := (by repeat first | (with_reducible exact Below.refl _ _) | (with_reducible refine below_on ?_ _) | (with_reducible refine below_alloc ?_ _) | (with_reducible refine below_set ?_ (by simp; try omega) _))
  have b00 : (w.alloc (.cells #[.int .u8 t, .int .i64 (X), .int .i64 (Y)] 51)).cell? ⟨w.heap.size, 0, none⟩ = some (.int .u8 t) := by simp [go_sem]
  have b01 : (w.alloc (.cells #[.int .u8 t, .int .i64 (X), .int .i64 (Y)] 51)).cell? ⟨w.heap.size, 1, none⟩ = some (.int .i64 (X)) := by simp [go_sem]
  have b02 : (w.alloc (.cells #[.int .u8 t, .int .i64 (X), .int .i64 (Y)] 51)).cell? ⟨w.heap.size, 2, none⟩ = some (.int .i64 (Y)) := by simp [go_sem]
  generalize (w.alloc (.cells #[.int .u8 t, .int .i64 (X), .int .i64 (Y)] 51)) = W0 at *
  go_wp2_with (first | (go_at_call 35; with_reducible refine (mvalid_yes t X Y _ a1 a2 a3 a4 a5 a6 HA.out).mono ?_; rintro e wx ⟨rfl, hx⟩; obtain ⟨ux, rfl⟩ := after hx; clear hx) | (go_at_call 43; with_reducible refine (rtext2_ok t X Y _ a1 a2 a3 a4 a5 a6 HA.out).mono ?_; rintro e wx ⟨rfl, hx⟩; obtain ⟨ux, rfl⟩ := after hx; clear hx) | fail)
  go_wp2_with (first | (go_at_call 44; with_reducible refine (mparse_text t X Y _ (hS' _ (by repeat first | (with_reducible exact hB0) | (with_reducible refine below_on ?_ _) | (with_reducible refine below_alloc ?_ _) | (with_reducible refine below_set ?_ (by simp; try omega) _))) a1 a2 a3 a4 a5 a6 HA.out).mono ?_; rintro e wx ⟨rfl, hx⟩; obtain ⟨ux, rfl⟩ := after hx; clear hx) | fail)
  have hR : Below (W0).heap.size (W0) ((on ux).alloc (.cells #[.int .u8 t, .int .i64 (X), .int .i64 (Y)] 51)) := by repeat first | (with_reducible exact Below.refl _ _) | (with_reducible refine below_on ?_ _) | (with_reducible refine below_alloc ?_ _)
  have b00' : ((on ux).alloc (.cells #[.int .u8 t, .int .i64 (X), .int .i64 (Y)] 51)).cell? ⟨w.heap.size, 0, none⟩ = some (.int .u8 t) := (hR.cell (World.block_lt_of_cell? _ _ b00)).trans b00
  have b01' : ((on ux).alloc (.cells #[.int .u8 t, .int .i64 (X), .int .i64 (Y)] 51)).cell? ⟨w.heap.size, 1, none⟩ = some (.int .i64 (X)) := (hR.cell (World.block_lt_of_cell? _ _ b01)).trans b01
  have b02' : ((on ux).alloc (.cells #[.int .u8 t, .int .i64 (X), .int .i64 (Y)] 51)).cell? ⟨w.heap.size, 2, none⟩ = some (.int .i64 (Y)) := (hR.cell (World.block_lt_of_cell? _ _ b02)).trans b02
  have B100 : ((on ux).alloc (.cells #[.int .u8 t, .int .i64 (X), .int .i64 (Y)] 51)).cell? ⟨(on ux).heap.size, 0, none⟩ = some (.int .u8 t) := by simp [go_sem]
  have B101 : ((on ux).alloc (.cells #[.int .u8 t, .int .i64 (X), .int .i64 (Y)] 51)).cell? ⟨(on ux).heap.size, 1, none⟩ = some (.int .i64 (X)) := by simp [go_sem]
  have B102 : ((on ux).alloc (.cells #[.int .u8 t, .int .i64 (X), .int .i64 (Y)] 51)).cell? ⟨(on ux).heap.size, 2, none⟩ = some (.int .i64 (Y)) := by simp [go_sem]
  have hB1 : Below w.heap.size w ((on ux).alloc (.cells #[.int .u8 t, .int .i64 (X), .int .i64 (Y)] 51)) := by repeat first | (with_reducible exact hB0) | (with_reducible refine below_on ?_ _) | (with_reducible refine below_alloc ?_ _)
  clear hR b00 b01 b02  hB0
  generalize ((on ux).alloc (.cells #[.int .u8 t, .int .i64 (X), .int .i64 (Y)] 51)) = W1 at *
  generalize (on ux).heap.size = B1 at *
  clear ux
  go_wp2_with (first | (go_at_call 45; with_reducible refine (mtext_ok t X Y _ (hS' _ (by repeat first | (with_reducible exact hB1) | (with_reducible refine below_on ?_ _) | (with_reducible refine below_alloc ?_ _) | (with_reducible refine below_set ?_ (by simp; try omega) _))).tab a1 a2 a3 a4 a5 a6 HA.out).mono ?_; rintro e wx ⟨rfl, hx⟩; obtain ⟨ux, rfl⟩ := after hx; clear hx) | fail)
  go_wp2_with (first | (go_at_call 44; with_reducible refine (HP.out _ (hS' _ (by repeat first | (with_reducible exact hB1) | (with_reducible refine below_on ?_ _) | (with_reducible refine below_alloc ?_ _) | (with_reducible refine below_set ?_ (by simp; try omega) _)))).mono ?_; rintro e wx ⟨rfl, hx⟩; obtain ⟨ux, rfl⟩ := after hx; clear hx) | fail)
  have hR : Below (W1).heap.size (W1) ((on ux).alloc (.cells #[.int .u8 p, .int .i64 (P), .int .i64 (Q)] 51)) := by repeat first | (with_reducible exact Below.refl _ _) | (with_reducible refine below_on ?_ _) | (with_reducible refine below_alloc ?_ _)
  have b00'' : ((on ux).alloc (.cells #[.int .u8 p, .int .i64 (P), .int .i64 (Q)] 51)).cell? ⟨w.heap.size, 0, none⟩ = some (.int .u8 t) := (hR.cell (World.block_lt_of_cell? _ _ b00')).trans b00'
  have b01'' : ((on ux).alloc (.cells #[.int .u8 p, .int .i64 (P), .int .i64 (Q)] 51)).cell? ⟨w.heap.size, 1, none⟩ = some (.int .i64 (X)) := (hR.cell (World.block_lt_of_cell? _ _ b01')).trans b01'
  have b02'' : ((on ux).alloc (.cells #[.int .u8 p, .int .i64 (P), .int .i64 (Q)] 51)).cell? ⟨w.heap.size, 2, none⟩ = some (.int .i64 (Y)) := (hR.cell (World.block_lt_of_cell? _ _ b02')).trans b02'
  have B100' : ((on ux).alloc (.cells #[.int .u8 p, .int .i64 (P), .int .i64 (Q)] 51)).cell? ⟨B1, 0, none⟩ = some (.int .u8 t) := (hR.cell (World.block_lt_of_cell? _ _ B100)).trans B100
  have B101' : ((on ux).alloc (.cells #[.int .u8 p, .int .i64 (P), .int .i64 (Q)] 51)).cell? ⟨B1, 1, none⟩ = some (.int .i64 (X)) := (hR.cell (World.block_lt_of_cell? _ _ B101)).trans B101
  have B102' : ((on ux).alloc (.cells #[.int .u8 p, .int .i64 (P), .int .i64 (Q)] 51)).cell? ⟨B1, 2, none⟩ = some (.int .i64 (Y)) := (hR.cell (World.block_lt_of_cell? _ _ B102)).trans B102
  have B200 : ((on ux).alloc (.cells #[.int .u8 p, .int .i64 (P), .int .i64 (Q)] 51)).cell? ⟨(on ux).heap.size, 0, none⟩ = some (.int .u8 p) := by simp [go_sem]
  have B201 : ((on ux).alloc (.cells #[.int .u8 p, .int .i64 (P), .int .i64 (Q)] 51)).cell? ⟨(on ux).heap.size, 1, none⟩ = some (.int .i64 (P)) := by simp [go_sem]
  have B202 : ((on ux).alloc (.cells #[.int .u8 p, .int .i64 (P), .int .i64 (Q)] 51)).cell? ⟨(on ux).heap.size, 2, none⟩ = some (.int .i64 (Q)) := by simp [go_sem]
  have hB2 : Below w.heap.size w ((on ux).alloc (.cells #[.int .u8 p, .int .i64 (P), .int .i64 (Q)] 51)) := by repeat first | (with_reducible exact hB1) | (with_reducible refine below_on ?_ _) | (with_reducible refine below_alloc ?_ _)
  clear hR b00' b01' b02' B100 B101 B102  hB1
  generalize ((on ux).alloc (.cells #[.int .u8 p, .int .i64 (P), .int .i64 (Q)] 51)) = W2 at *
  generalize (on ux).heap.size = B2 at *
  clear ux
  go_wp2_with (first | (go_at_call 35; with_reducible refine (mvalid_yes p P Q _ b1 b2 b3 b4 b5 b6 HB.out).mono ?_; rintro e wx ⟨rfl, hx⟩; obtain ⟨ux, rfl⟩ := after hx; clear hx) | (go_at_call 43; with_reducible refine (HT.out _).mono ?_; rintro e wx ⟨rfl, hx⟩; obtain ⟨ux, rfl⟩ := after hx; clear hx) | (go_at_call 28; with_reducible refine (lives2_ok _ (hS' _ (by repeat first | (with_reducible exact hB2) | (with_reducible refine below_on ?_ _) | (with_reducible refine below_alloc ?_ _) | (with_reducible refine below_set ?_ (by simp; try omega) _)))).mono ?_; rintro e wx ⟨rfl, hx⟩; obtain ⟨ux, rfl⟩ := after hx; clear hx) | fail)
  go_ret
  exact ⟨rfl, (by repeat first | (with_reducible exact hB2) | (with_reducible refine below_on ?_ _) | (with_reducible refine below_alloc ?_ _) | (with_reducible refine below_set ?_ (by simp; try omega) _))⟩

set_option maxRecDepth 100000 in
set_option maxHeartbeats 8000000 in
theorem mtx_1B (t X Y : Int) (s : ByteArray) (w : World) (hS : Std w) (a1 : 0 ≤ t) (a2 : t ≤ 7) (a3 : -16384 ≤ X) (a4 : X ≤ 16384) (a5 : -16384 ≤ Y) (a6 : Y ≤ 16384) (a7 : (X + Y) % 2 = 0) (hl : (s.size : Int) ≤ 30) (HP : Hid (∀ w, Std w → Calls Tryd.prog 44 #[.string s] w fun e w' => e = .returned (.tuple #[mv 0 0 0, .int .i64 4]) ∧ Below w.heap.size w w')) : Calls Tryd.prog 11 #[mv t X Y, .string s] w fun e w' => e = .returned (.bool true) ∧ Below w.heap.size w w' := by
  have hS' : ∀ W, Below w.heap.size w W → Std W := fun W h => std_below hS h
  have HA : Hid ((X + Y) % 2 = 0) := a7
  clear a7
  go_enter Tryd.func11, Tryd.ntmps11
  go_wp2_with fail
  have hB0 : Below w.heap.size w (w.alloc (.cells #[.int .u8 t, .int .i64 (X), .int .i64 (Y)] 51)) := (by repeat first | (with_reducible exact Below.refl _ _) | (with_reducible refine below_on ?_ _) | (with_reducible refine below_alloc ?_ _) | (with_reducible refine below_set ?_ (by simp; try omega) _))
  have b00 : (w.alloc (.cells #[.int .u8 t, .int .i64 (X), .int .i64 (Y)] 51)).cell? ⟨w.heap.size, 0, none⟩ = some (.int .u8 t) := by simp [go_sem]
  have b01 : (w.alloc (.cells #[.int .u8 t, .int .i64 (X), .int .i64 (Y)] 51)).cell? ⟨w.heap.size, 1, none⟩ = some (.int .i64 (X)) := by simp [go_sem]
  have b02 : (w.alloc (.cells #[.int .u8 t, .int .i64 (X), .int .i64 (Y)] 51)).cell? ⟨w.heap.size, 2, none⟩ = some (.int .i64 (Y)) := by simp [go_sem]
  generalize (w.alloc (.cells #[.int .u8 t, .int .i64 (X), .int .i64 (Y)] 51)) = W0 at *
  go_wp2_with (first | (go_at_call 35; with_reducible refine (mvalid_yes t X Y _ a1 a2 a3 a4 a5 a6 HA.out).mono ?_; rintro e wx ⟨rfl, hx⟩; obtain ⟨ux, rfl⟩ := after hx; clear hx) | (go_at_call 43; with_reducible refine (rtext2_ok t X Y _ a1 a2 a3 a4 a5 a6 HA.out).mono ?_; rintro e wx ⟨rfl, hx⟩; obtain ⟨ux, rfl⟩ := after hx; clear hx) | fail)
  go_wp2_with (first | (go_at_call 44; with_reducible refine (mparse_text t X Y _ (hS' _ (by repeat first | (with_reducible exact hB0) | (with_reducible refine below_on ?_ _) | (with_reducible refine below_alloc ?_ _) | (with_reducible refine below_set ?_ (by simp; try omega) _))) a1 a2 a3 a4 a5 a6 HA.out).mono ?_; rintro e wx ⟨rfl, hx⟩; obtain ⟨ux, rfl⟩ := after hx; clear hx) | fail)
  have hR : Below (W0).heap.size (W0) ((on ux).alloc (.cells #[.int .u8 t, .int .i64 (X), .int .i64 (Y)] 51)) := by repeat first | (with_reducible exact Below.refl _ _) | (with_reducible refine below_on ?_ _) | (with_reducible refine below_alloc ?_ _)
  have b00' : ((on ux).alloc (.cells #[.int .u8 t, .int .i64 (X), .int .i64 (Y)] 51)).cell? ⟨w.heap.size, 0, none⟩ = some (.int .u8 t) := (hR.cell (World.block_lt_of_cell? _ _ b00)).trans b00
  have b01' : ((on ux).alloc (.cells #[.int .u8 t, .int .i64 (X), .int .i64 (Y)] 51)).cell? ⟨w.heap.size, 1, none⟩ = some (.int .i64 (X)) := (hR.cell (World.block_lt_of_cell? _ _ b01)).trans b01
  have b02' : ((on ux).alloc (.cells #[.int .u8 t, .int .i64 (X), .int .i64 (Y)] 51)).cell? ⟨w.heap.size, 2, none⟩ = some (.int .i64 (Y)) := (hR.cell (World.block_lt_of_cell? _ _ b02)).trans b02
  have B100 : ((on ux).alloc (.cells #[.int .u8 t, .int .i64 (X), .int .i64 (Y)] 51)).cell? ⟨(on ux).heap.size, 0, none⟩ = some (.int .u8 t) := by simp [go_sem]
  have B101 : ((on ux).alloc (.cells #[.int .u8 t, .int .i64 (X), .int .i64 (Y)] 51)).cell? ⟨(on ux).heap.size, 1, none⟩ = some (.int .i64 (X)) := by simp [go_sem]
  have B102 : ((on ux).alloc (.cells #[.int .u8 t, .int .i64 (X), .int .i64 (Y)] 51)).cell? ⟨(on ux).heap.size, 2, none⟩ = some (.int .i64 (Y)) := by simp [go_sem]
  have hB1 : Below w.heap.size w ((on ux).alloc (.cells #[.int .u8 t, .int .i64 (X), .int .i64 (Y)] 51)) := by repeat first | (with_reducible exact hB0) | (with_reducible refine below_on ?_ _) | (with_reducible refine below_alloc ?_ _)
  clear hR b00 b01 b02  hB0
  generalize ((on ux).alloc (.cells #[.int .u8 t, .int .i64 (X), .int .i64 (Y)] 51)) = W1 at *
  generalize (on ux).heap.size = B1 at *
  clear ux
  go_wp2_with (first | (go_at_call 45; with_reducible refine (mtext_ok t X Y _ (hS' _ (by repeat first | (with_reducible exact hB1) | (with_reducible refine below_on ?_ _) | (with_reducible refine below_alloc ?_ _) | (with_reducible refine below_set ?_ (by simp; try omega) _))).tab a1 a2 a3 a4 a5 a6 HA.out).mono ?_; rintro e wx ⟨rfl, hx⟩; obtain ⟨ux, rfl⟩ := after hx; clear hx) | fail)
  go_wp2_with (first | (go_at_call 44; with_reducible refine (HP.out _ (hS' _ (by repeat first | (with_reducible exact hB1) | (with_reducible refine below_on ?_ _) | (with_reducible refine below_alloc ?_ _) | (with_reducible refine below_set ?_ (by simp; try omega) _)))).mono ?_; rintro e wx ⟨rfl, hx⟩; obtain ⟨ux, rfl⟩ := after hx; clear hx) | fail)
  have hR : Below (W1).heap.size (W1) ((on ux).alloc (.cells #[.int .u8 0, .int .i64 (0), .int .i64 (0)] 51)) := by repeat first | (with_reducible exact Below.refl _ _) | (with_reducible refine below_on ?_ _) | (with_reducible refine below_alloc ?_ _)
  have b00'' : ((on ux).alloc (.cells #[.int .u8 0, .int .i64 (0), .int .i64 (0)] 51)).cell? ⟨w.heap.size, 0, none⟩ = some (.int .u8 t) := (hR.cell (World.block_lt_of_cell? _ _ b00')).trans b00'
  have b01'' : ((on ux).alloc (.cells #[.int .u8 0, .int .i64 (0), .int .i64 (0)] 51)).cell? ⟨w.heap.size, 1, none⟩ = some (.int .i64 (X)) := (hR.cell (World.block_lt_of_cell? _ _ b01')).trans b01'
  have b02'' : ((on ux).alloc (.cells #[.int .u8 0, .int .i64 (0), .int .i64 (0)] 51)).cell? ⟨w.heap.size, 2, none⟩ = some (.int .i64 (Y)) := (hR.cell (World.block_lt_of_cell? _ _ b02')).trans b02'
  have B100' : ((on ux).alloc (.cells #[.int .u8 0, .int .i64 (0), .int .i64 (0)] 51)).cell? ⟨B1, 0, none⟩ = some (.int .u8 t) := (hR.cell (World.block_lt_of_cell? _ _ B100)).trans B100
  have B101' : ((on ux).alloc (.cells #[.int .u8 0, .int .i64 (0), .int .i64 (0)] 51)).cell? ⟨B1, 1, none⟩ = some (.int .i64 (X)) := (hR.cell (World.block_lt_of_cell? _ _ B101)).trans B101
  have B102' : ((on ux).alloc (.cells #[.int .u8 0, .int .i64 (0), .int .i64 (0)] 51)).cell? ⟨B1, 2, none⟩ = some (.int .i64 (Y)) := (hR.cell (World.block_lt_of_cell? _ _ B102)).trans B102
  have B200 : ((on ux).alloc (.cells #[.int .u8 0, .int .i64 (0), .int .i64 (0)] 51)).cell? ⟨(on ux).heap.size, 0, none⟩ = some (.int .u8 0) := by simp [go_sem]
  have B201 : ((on ux).alloc (.cells #[.int .u8 0, .int .i64 (0), .int .i64 (0)] 51)).cell? ⟨(on ux).heap.size, 1, none⟩ = some (.int .i64 (0)) := by simp [go_sem]
  have B202 : ((on ux).alloc (.cells #[.int .u8 0, .int .i64 (0), .int .i64 (0)] 51)).cell? ⟨(on ux).heap.size, 2, none⟩ = some (.int .i64 (0)) := by simp [go_sem]
  have hB2 : Below w.heap.size w ((on ux).alloc (.cells #[.int .u8 0, .int .i64 (0), .int .i64 (0)] 51)) := by repeat first | (with_reducible exact hB1) | (with_reducible refine below_on ?_ _) | (with_reducible refine below_alloc ?_ _)
  clear hR b00' b01' b02' B100 B101 B102  hB1
  generalize ((on ux).alloc (.cells #[.int .u8 0, .int .i64 (0), .int .i64 (0)] 51)) = W2 at *
  generalize (on ux).heap.size = B2 at *
  clear ux
  go_wp2_with (first | (go_at_call 28; with_reducible refine (lives2_ok _ (hS' _ (by repeat first | (with_reducible exact hB2) | (with_reducible refine below_on ?_ _) | (with_reducible refine below_alloc ?_ _) | (with_reducible refine below_set ?_ (by simp; try omega) _)))).mono ?_; rintro e wx ⟨rfl, hx⟩; obtain ⟨ux, rfl⟩ := after hx; clear hx) | fail)
  go_ret
  exact ⟨rfl, (by repeat first | (with_reducible exact hB2) | (with_reducible refine below_on ?_ _) | (with_reducible refine below_alloc ?_ _) | (with_reducible refine below_set ?_ (by simp; try omega) _))⟩

set_option maxRecDepth 100000 in
set_option maxHeartbeats 8000000 in
theorem mtx_0A (t X Y : Int) (s : ByteArray) (p P Q : Int) (w : World) (hS : Std w) (h : 7 < t ∨ X < -16384 ∨ 16384 < X ∨ Y < -16384 ∨ 16384 < Y ∨ (X + Y) % 2 ≠ 0) (hl : (s.size : Int) ≤ 30) (b1 : 0 ≤ p) (b2 : p ≤ 7) (b3 : -16384 ≤ P) (b4 : P ≤ 16384) (b5 : -16384 ≤ Q) (b6 : Q ≤ 16384) (b7 : (P + Q) % 2 = 0) (HT : Hid (∀ w, Calls Tryd.prog 43 #[mv p P Q] w fun e w' => e = .returned (.string s) ∧ Below w.heap.size w w')) (HP : Hid (∀ w, Std w → Calls Tryd.prog 44 #[.string s] w fun e w' => e = .returned (.tuple #[mv p P Q, .int .i64 0]) ∧ Below w.heap.size w w')) : Calls Tryd.prog 11 #[mv t X Y, .string s] w fun e w' => e = .returned (.bool true) ∧ Below w.heap.size w w' := by
  have hS' : ∀ W, Below w.heap.size w W → Std W := fun W h => std_below hS h
  have H : Hid (7 < t ∨ X < -16384 ∨ 16384 < X ∨ Y < -16384 ∨ 16384 < Y ∨ (X + Y) % 2 ≠ 0) := h
  clear h
  have HB : Hid ((P + Q) % 2 = 0) := b7
  clear b7
  go_enter Tryd.func11, Tryd.ntmps11
  go_wp2_with fail
  have hB0 : Below w.heap.size w (w.alloc (.cells #[.int .u8 t, .int .i64 (X), .int .i64 (Y)] 51)) := (by repeat first | (with_reducible exact Below.refl _ _) | (with_reducible refine below_on ?_ _) | (with_reducible refine below_alloc ?_ _) | (with_reducible refine below_set ?_ (by simp; try omega) _))
  have b00 : (w.alloc (.cells #[.int .u8 t, .int .i64 (X), .int .i64 (Y)] 51)).cell? ⟨w.heap.size, 0, none⟩ = some (.int .u8 t) := by simp [go_sem]
  have b01 : (w.alloc (.cells #[.int .u8 t, .int .i64 (X), .int .i64 (Y)] 51)).cell? ⟨w.heap.size, 1, none⟩ = some (.int .i64 (X)) := by simp [go_sem]
  have b02 : (w.alloc (.cells #[.int .u8 t, .int .i64 (X), .int .i64 (Y)] 51)).cell? ⟨w.heap.size, 2, none⟩ = some (.int .i64 (Y)) := by simp [go_sem]
  generalize (w.alloc (.cells #[.int .u8 t, .int .i64 (X), .int .i64 (Y)] 51)) = W0 at *
  go_wp2_with (first | (go_at_call 35; with_reducible refine (mvalid_no t X Y _ H.out).mono ?_; rintro e wx ⟨rfl, hx⟩; obtain ⟨ux, rfl⟩ := after hx; clear hx) | (go_at_call 45; with_reducible refine (mtext_bad t X Y _ H.out).mono ?_; rintro e wx ⟨rfl, hx⟩; obtain ⟨ux, rfl⟩ := after hx; clear hx) | fail)
  go_wp2_with (first | (go_at_call 44; with_reducible refine (HP.out _ (hS' _ (by repeat first | (with_reducible exact hB0) | (with_reducible refine below_on ?_ _) | (with_reducible refine below_alloc ?_ _) | (with_reducible refine below_set ?_ (by simp; try omega) _)))).mono ?_; rintro e wx ⟨rfl, hx⟩; obtain ⟨ux, rfl⟩ := after hx; clear hx) | fail)
  have hR : Below (W0).heap.size (W0) ((on ux).alloc (.cells #[.int .u8 p, .int .i64 (P), .int .i64 (Q)] 51)) := by repeat first | (with_reducible exact Below.refl _ _) | (with_reducible refine below_on ?_ _) | (with_reducible refine below_alloc ?_ _)
  have b00' : ((on ux).alloc (.cells #[.int .u8 p, .int .i64 (P), .int .i64 (Q)] 51)).cell? ⟨w.heap.size, 0, none⟩ = some (.int .u8 t) := (hR.cell (World.block_lt_of_cell? _ _ b00)).trans b00
  have b01' : ((on ux).alloc (.cells #[.int .u8 p, .int .i64 (P), .int .i64 (Q)] 51)).cell? ⟨w.heap.size, 1, none⟩ = some (.int .i64 (X)) := (hR.cell (World.block_lt_of_cell? _ _ b01)).trans b01
  have b02' : ((on ux).alloc (.cells #[.int .u8 p, .int .i64 (P), .int .i64 (Q)] 51)).cell? ⟨w.heap.size, 2, none⟩ = some (.int .i64 (Y)) := (hR.cell (World.block_lt_of_cell? _ _ b02)).trans b02
  have B100 : ((on ux).alloc (.cells #[.int .u8 p, .int .i64 (P), .int .i64 (Q)] 51)).cell? ⟨(on ux).heap.size, 0, none⟩ = some (.int .u8 p) := by simp [go_sem]
  have B101 : ((on ux).alloc (.cells #[.int .u8 p, .int .i64 (P), .int .i64 (Q)] 51)).cell? ⟨(on ux).heap.size, 1, none⟩ = some (.int .i64 (P)) := by simp [go_sem]
  have B102 : ((on ux).alloc (.cells #[.int .u8 p, .int .i64 (P), .int .i64 (Q)] 51)).cell? ⟨(on ux).heap.size, 2, none⟩ = some (.int .i64 (Q)) := by simp [go_sem]
  have hB1 : Below w.heap.size w ((on ux).alloc (.cells #[.int .u8 p, .int .i64 (P), .int .i64 (Q)] 51)) := by repeat first | (with_reducible exact hB0) | (with_reducible refine below_on ?_ _) | (with_reducible refine below_alloc ?_ _)
  clear hR b00 b01 b02  hB0
  generalize ((on ux).alloc (.cells #[.int .u8 p, .int .i64 (P), .int .i64 (Q)] 51)) = W1 at *
  generalize (on ux).heap.size = B1 at *
  clear ux
  go_wp2_with (first | (go_at_call 35; with_reducible refine (mvalid_yes p P Q _ b1 b2 b3 b4 b5 b6 HB.out).mono ?_; rintro e wx ⟨rfl, hx⟩; obtain ⟨ux, rfl⟩ := after hx; clear hx) | (go_at_call 43; with_reducible refine (HT.out _).mono ?_; rintro e wx ⟨rfl, hx⟩; obtain ⟨ux, rfl⟩ := after hx; clear hx) | (go_at_call 28; with_reducible refine (lives2_ok _ (hS' _ (by repeat first | (with_reducible exact hB1) | (with_reducible refine below_on ?_ _) | (with_reducible refine below_alloc ?_ _) | (with_reducible refine below_set ?_ (by simp; try omega) _)))).mono ?_; rintro e wx ⟨rfl, hx⟩; obtain ⟨ux, rfl⟩ := after hx; clear hx) | fail)
  go_ret
  exact ⟨rfl, (by repeat first | (with_reducible exact hB1) | (with_reducible refine below_on ?_ _) | (with_reducible refine below_alloc ?_ _) | (with_reducible refine below_set ?_ (by simp; try omega) _))⟩

set_option maxRecDepth 100000 in
set_option maxHeartbeats 8000000 in
theorem mtx_0B (t X Y : Int) (s : ByteArray) (w : World) (hS : Std w) (h : 7 < t ∨ X < -16384 ∨ 16384 < X ∨ Y < -16384 ∨ 16384 < Y ∨ (X + Y) % 2 ≠ 0) (hl : (s.size : Int) ≤ 30) (HP : Hid (∀ w, Std w → Calls Tryd.prog 44 #[.string s] w fun e w' => e = .returned (.tuple #[mv 0 0 0, .int .i64 4]) ∧ Below w.heap.size w w')) : Calls Tryd.prog 11 #[mv t X Y, .string s] w fun e w' => e = .returned (.bool true) ∧ Below w.heap.size w w' := by
  have hS' : ∀ W, Below w.heap.size w W → Std W := fun W h => std_below hS h
  have H : Hid (7 < t ∨ X < -16384 ∨ 16384 < X ∨ Y < -16384 ∨ 16384 < Y ∨ (X + Y) % 2 ≠ 0) := h
  clear h
  go_enter Tryd.func11, Tryd.ntmps11
  go_wp2_with fail
  have hB0 : Below w.heap.size w (w.alloc (.cells #[.int .u8 t, .int .i64 (X), .int .i64 (Y)] 51)) := (by repeat first | (with_reducible exact Below.refl _ _) | (with_reducible refine below_on ?_ _) | (with_reducible refine below_alloc ?_ _) | (with_reducible refine below_set ?_ (by simp; try omega) _))
  have b00 : (w.alloc (.cells #[.int .u8 t, .int .i64 (X), .int .i64 (Y)] 51)).cell? ⟨w.heap.size, 0, none⟩ = some (.int .u8 t) := by simp [go_sem]
  have b01 : (w.alloc (.cells #[.int .u8 t, .int .i64 (X), .int .i64 (Y)] 51)).cell? ⟨w.heap.size, 1, none⟩ = some (.int .i64 (X)) := by simp [go_sem]
  have b02 : (w.alloc (.cells #[.int .u8 t, .int .i64 (X), .int .i64 (Y)] 51)).cell? ⟨w.heap.size, 2, none⟩ = some (.int .i64 (Y)) := by simp [go_sem]
  generalize (w.alloc (.cells #[.int .u8 t, .int .i64 (X), .int .i64 (Y)] 51)) = W0 at *
  go_wp2_with (first | (go_at_call 35; with_reducible refine (mvalid_no t X Y _ H.out).mono ?_; rintro e wx ⟨rfl, hx⟩; obtain ⟨ux, rfl⟩ := after hx; clear hx) | (go_at_call 45; with_reducible refine (mtext_bad t X Y _ H.out).mono ?_; rintro e wx ⟨rfl, hx⟩; obtain ⟨ux, rfl⟩ := after hx; clear hx) | fail)
  go_wp2_with (first | (go_at_call 44; with_reducible refine (HP.out _ (hS' _ (by repeat first | (with_reducible exact hB0) | (with_reducible refine below_on ?_ _) | (with_reducible refine below_alloc ?_ _) | (with_reducible refine below_set ?_ (by simp; try omega) _)))).mono ?_; rintro e wx ⟨rfl, hx⟩; obtain ⟨ux, rfl⟩ := after hx; clear hx) | fail)
  have hR : Below (W0).heap.size (W0) ((on ux).alloc (.cells #[.int .u8 0, .int .i64 (0), .int .i64 (0)] 51)) := by repeat first | (with_reducible exact Below.refl _ _) | (with_reducible refine below_on ?_ _) | (with_reducible refine below_alloc ?_ _)
  have b00' : ((on ux).alloc (.cells #[.int .u8 0, .int .i64 (0), .int .i64 (0)] 51)).cell? ⟨w.heap.size, 0, none⟩ = some (.int .u8 t) := (hR.cell (World.block_lt_of_cell? _ _ b00)).trans b00
  have b01' : ((on ux).alloc (.cells #[.int .u8 0, .int .i64 (0), .int .i64 (0)] 51)).cell? ⟨w.heap.size, 1, none⟩ = some (.int .i64 (X)) := (hR.cell (World.block_lt_of_cell? _ _ b01)).trans b01
  have b02' : ((on ux).alloc (.cells #[.int .u8 0, .int .i64 (0), .int .i64 (0)] 51)).cell? ⟨w.heap.size, 2, none⟩ = some (.int .i64 (Y)) := (hR.cell (World.block_lt_of_cell? _ _ b02)).trans b02
  have B100 : ((on ux).alloc (.cells #[.int .u8 0, .int .i64 (0), .int .i64 (0)] 51)).cell? ⟨(on ux).heap.size, 0, none⟩ = some (.int .u8 0) := by simp [go_sem]
  have B101 : ((on ux).alloc (.cells #[.int .u8 0, .int .i64 (0), .int .i64 (0)] 51)).cell? ⟨(on ux).heap.size, 1, none⟩ = some (.int .i64 (0)) := by simp [go_sem]
  have B102 : ((on ux).alloc (.cells #[.int .u8 0, .int .i64 (0), .int .i64 (0)] 51)).cell? ⟨(on ux).heap.size, 2, none⟩ = some (.int .i64 (0)) := by simp [go_sem]
  have hB1 : Below w.heap.size w ((on ux).alloc (.cells #[.int .u8 0, .int .i64 (0), .int .i64 (0)] 51)) := by repeat first | (with_reducible exact hB0) | (with_reducible refine below_on ?_ _) | (with_reducible refine below_alloc ?_ _)
  clear hR b00 b01 b02  hB0
  generalize ((on ux).alloc (.cells #[.int .u8 0, .int .i64 (0), .int .i64 (0)] 51)) = W1 at *
  generalize (on ux).heap.size = B1 at *
  clear ux
  go_wp2_with (first | (go_at_call 28; with_reducible refine (lives2_ok _ (hS' _ (by repeat first | (with_reducible exact hB1) | (with_reducible refine below_on ?_ _) | (with_reducible refine below_alloc ?_ _) | (with_reducible refine below_set ?_ (by simp; try omega) _)))).mono ?_; rintro e wx ⟨rfl, hx⟩; obtain ⟨ux, rfl⟩ := after hx; clear hx) | fail)
  go_ret
  exact ⟨rfl, (by repeat first | (with_reducible exact hB1) | (with_reducible refine below_on ?_ _) | (with_reducible refine below_alloc ?_ _) | (with_reducible refine below_set ?_ (by simp; try omega) _))⟩

theorem movestext_law (t X Y : Int) (s : ByteArray) (w : World) (hS : Std w) (a1 : 0 ≤ t) : Calls Tryd.prog 11 #[mv t X Y, .string s] w fun e w' => e = .returned (.bool true) ∧ Below w.heap.size w w' := by
  by_cases hl : 30 < (s.size : Int)
  · exact mtx_long t X Y s w hl
  have hl' : (s.size : Int) ≤ 30 := by omega
  have hT : ∀ (p P Q : Int), 0 ≤ p → p ≤ 7 → -16384 ≤ P → P ≤ 16384 → -16384 ≤ Q → Q ≤ 16384 → (P + Q) % 2 = 0 → s = ⟨(textM p P Q).toArray⟩ → ∀ w, Calls Tryd.prog 43 #[mv p P Q] w fun e w' => e = .returned (.string s) ∧ Below w.heap.size w w' := fun p P Q b1 b2 b3 b4 b5 b6 b7 e W => by
    rw [e]; exact rtext2_ok p P Q W b1 b2 b3 b4 b5 b6 b7
  by_cases a : t ≤ 7 ∧ -16384 ≤ X ∧ X ≤ 16384 ∧ -16384 ≤ Y ∧ Y ≤ 16384 ∧ (X + Y) % 2 = 0
  · obtain ⟨a2, a3, a4, a5, a6, a7⟩ := a
    rcases mparse_split s (by omega) with ⟨p, P, Q, b1, b2, b3, b4, b5, b6, b7, e, hp⟩ | hp
    · exact mtx_1A t X Y s p P Q w hS a1 a2 a3 a4 a5 a6 a7 hl' b1 b2 b3 b4 b5 b6 b7 (hT p P Q b1 b2 b3 b4 b5 b6 b7 e) hp
    · exact mtx_1B t X Y s w hS a1 a2 a3 a4 a5 a6 a7 hl' hp
  · rcases mparse_split s (by omega) with ⟨p, P, Q, b1, b2, b3, b4, b5, b6, b7, e, hp⟩ | hp
    · exact mtx_0A t X Y s p P Q w hS (by omega) hl' b1 b2 b3 b4 b5 b6 b7 (hT p P Q b1 b2 b3 b4 b5 b6 b7 e) hp
    · exact mtx_0B t X Y s w hS (by omega) hl' hp

end Go.Proofs.YtbcmfenekpllhaaDoor
