/-
  Says: MovesThen answers true at every input, where the package-level variables stand as they were laid.
-/
import Derived.Test.YtbcmfenekpllhaaDoorMv12
import Derived.Test.YtbcmfenekpllhaaDoorMv5
import Derived.Test.YtbcmfenekpllhaaDoorMv6
import Derived.Test.YtbcmfenekpllhaaDoorMr3
import Derived.Test.YtbcmfenekpllhaaDoorMvz
import Derived.Deep.RegionHeld3
import Derived.RowKit3
set_option linter.unusedVariables false
set_option linter.unusedSimpArgs false
namespace Go.Proofs.YtbcmfenekpllhaaDoor
open Go Go.RowKit

attribute [local go_sem] World.cell?_alloc_some frozen?_alloc_cells fz0 fz1 fz2 fz3 fz4 fz5

set_option maxRecDepth 100000 in
set_option maxHeartbeats 8000000 in
theorem mth_bad1 (s X Y t U V : Int) (w : World) (hS : Std w) (h : 7 < s ∨ X < -16384 ∨ 16384 < X ∨ Y < -16384 ∨ 16384 < Y ∨ (X + Y) % 2 ≠ 0) : Calls Tryd.prog 6 #[mv s X Y, mv t U V] w fun e w' => e = .returned (.bool true) ∧ Below w.heap.size w w' := by
  have hS' : ∀ W, Below w.heap.size w W → Std W := fun W h => std_below hS h
  have H : Hid (7 < s ∨ X < -16384 ∨ 16384 < X ∨ Y < -16384 ∨ 16384 < Y ∨ (X + Y) % 2 ≠ 0) := h
  clear h
  go_enter Tryd.func6, Tryd.ntmps6
  go_wp2_with fail
  have hB0 : Below w.heap.size w ((w.alloc (.cells #[.int .u8 s, .int .i64 (X), .int .i64 (Y)] 51)).alloc (.cells #[.int .u8 t, .int .i64 (U), .int .i64 (V)] 51)) := (by repeat first | (with_reducible exact Below.refl _ _) | (with_reducible refine below_on ?_ _) | (with_reducible refine below_alloc ?_ _) | (with_reducible refine below_set ?_ (by simp; try omega) _))
  have b00 : ((w.alloc (.cells #[.int .u8 s, .int .i64 (X), .int .i64 (Y)] 51)).alloc (.cells #[.int .u8 t, .int .i64 (U), .int .i64 (V)] 51)).cell? ⟨w.heap.size, 0, none⟩ = some (.int .u8 s) := by simp [go_sem]
  have b01 : ((w.alloc (.cells #[.int .u8 s, .int .i64 (X), .int .i64 (Y)] 51)).alloc (.cells #[.int .u8 t, .int .i64 (U), .int .i64 (V)] 51)).cell? ⟨w.heap.size, 1, none⟩ = some (.int .i64 (X)) := by simp [go_sem]
  have b02 : ((w.alloc (.cells #[.int .u8 s, .int .i64 (X), .int .i64 (Y)] 51)).alloc (.cells #[.int .u8 t, .int .i64 (U), .int .i64 (V)] 51)).cell? ⟨w.heap.size, 2, none⟩ = some (.int .i64 (Y)) := by simp [go_sem]
  have b10 : ((w.alloc (.cells #[.int .u8 s, .int .i64 (X), .int .i64 (Y)] 51)).alloc (.cells #[.int .u8 t, .int .i64 (U), .int .i64 (V)] 51)).cell? ⟨w.heap.size + 1, 0, none⟩ = some (.int .u8 t) := by simp [go_sem]
  have b11 : ((w.alloc (.cells #[.int .u8 s, .int .i64 (X), .int .i64 (Y)] 51)).alloc (.cells #[.int .u8 t, .int .i64 (U), .int .i64 (V)] 51)).cell? ⟨w.heap.size + 1, 1, none⟩ = some (.int .i64 (U)) := by simp [go_sem]
  have b12 : ((w.alloc (.cells #[.int .u8 s, .int .i64 (X), .int .i64 (Y)] 51)).alloc (.cells #[.int .u8 t, .int .i64 (U), .int .i64 (V)] 51)).cell? ⟨w.heap.size + 1, 2, none⟩ = some (.int .i64 (V)) := by simp [go_sem]
  generalize ((w.alloc (.cells #[.int .u8 s, .int .i64 (X), .int .i64 (Y)] 51)).alloc (.cells #[.int .u8 t, .int .i64 (U), .int .i64 (V)] 51)) = W0 at *
  go_wp2_with (first | (go_at_call 30; with_reducible refine (then_bad1 s X Y t U V _ H.out).mono ?_; rintro e wx ⟨rfl, hx⟩; obtain ⟨ux, rfl⟩ := after hx; clear hx) | fail)
  have hR : Below (W0).heap.size (W0) ((on ux).alloc (.cells #[.int .u8 0, .int .i64 (0), .int .i64 (0)] 51)) := by repeat first | (with_reducible exact Below.refl _ _) | (with_reducible refine below_on ?_ _) | (with_reducible refine below_alloc ?_ _)
  have b00' : ((on ux).alloc (.cells #[.int .u8 0, .int .i64 (0), .int .i64 (0)] 51)).cell? ⟨w.heap.size, 0, none⟩ = some (.int .u8 s) := (hR.cell (World.block_lt_of_cell? _ _ b00)).trans b00
  have b01' : ((on ux).alloc (.cells #[.int .u8 0, .int .i64 (0), .int .i64 (0)] 51)).cell? ⟨w.heap.size, 1, none⟩ = some (.int .i64 (X)) := (hR.cell (World.block_lt_of_cell? _ _ b01)).trans b01
  have b02' : ((on ux).alloc (.cells #[.int .u8 0, .int .i64 (0), .int .i64 (0)] 51)).cell? ⟨w.heap.size, 2, none⟩ = some (.int .i64 (Y)) := (hR.cell (World.block_lt_of_cell? _ _ b02)).trans b02
  have b10' : ((on ux).alloc (.cells #[.int .u8 0, .int .i64 (0), .int .i64 (0)] 51)).cell? ⟨w.heap.size + 1, 0, none⟩ = some (.int .u8 t) := (hR.cell (World.block_lt_of_cell? _ _ b10)).trans b10
  have b11' : ((on ux).alloc (.cells #[.int .u8 0, .int .i64 (0), .int .i64 (0)] 51)).cell? ⟨w.heap.size + 1, 1, none⟩ = some (.int .i64 (U)) := (hR.cell (World.block_lt_of_cell? _ _ b11)).trans b11
  have b12' : ((on ux).alloc (.cells #[.int .u8 0, .int .i64 (0), .int .i64 (0)] 51)).cell? ⟨w.heap.size + 1, 2, none⟩ = some (.int .i64 (V)) := (hR.cell (World.block_lt_of_cell? _ _ b12)).trans b12
  have B100 : ((on ux).alloc (.cells #[.int .u8 0, .int .i64 (0), .int .i64 (0)] 51)).cell? ⟨(on ux).heap.size, 0, none⟩ = some (.int .u8 0) := by simp [go_sem]
  have B101 : ((on ux).alloc (.cells #[.int .u8 0, .int .i64 (0), .int .i64 (0)] 51)).cell? ⟨(on ux).heap.size, 1, none⟩ = some (.int .i64 (0)) := by simp [go_sem]
  have B102 : ((on ux).alloc (.cells #[.int .u8 0, .int .i64 (0), .int .i64 (0)] 51)).cell? ⟨(on ux).heap.size, 2, none⟩ = some (.int .i64 (0)) := by simp [go_sem]
  have hB1 : Below w.heap.size w ((on ux).alloc (.cells #[.int .u8 0, .int .i64 (0), .int .i64 (0)] 51)) := by repeat first | (with_reducible exact hB0) | (with_reducible refine below_on ?_ _) | (with_reducible refine below_alloc ?_ _)
  clear hR b00 b01 b02 b10 b11 b12  hB0
  generalize ((on ux).alloc (.cells #[.int .u8 0, .int .i64 (0), .int .i64 (0)] 51)) = W1 at *
  generalize (on ux).heap.size = B1 at *
  clear ux
  go_wp2_with (first | (go_at_call 35; with_reducible refine (mvalid_no s X Y _ H.out).mono ?_; rintro e wx ⟨rfl, hx⟩; obtain ⟨ux, rfl⟩ := after hx; clear hx) | (go_at_call 34; with_reducible refine (mcheck_bad s X Y _ H.out).mono ?_; rintro e wx ⟨rfl, hx⟩; obtain ⟨ux, rfl⟩ := after hx; clear hx) | (go_at_call 33; with_reducible refine (flips_bad s X Y _ H.out).mono ?_; rintro e wx ⟨rfl, hx⟩; obtain ⟨ux, rfl⟩ := after hx; clear hx) | (go_at_call 28; with_reducible refine (lives2_ok _ (hS' _ (by repeat first | (with_reducible exact hB1) | (with_reducible refine below_on ?_ _) | (with_reducible refine below_alloc ?_ _) | (with_reducible refine below_set ?_ (by simp; try omega) _)))).mono ?_; rintro e wx ⟨rfl, hx⟩; obtain ⟨ux, rfl⟩ := after hx; clear hx) | fail)
  go_ret
  exact ⟨rfl, (by repeat first | (with_reducible exact hB1) | (with_reducible refine below_on ?_ _) | (with_reducible refine below_alloc ?_ _) | (with_reducible refine below_set ?_ (by simp; try omega) _))⟩

set_option maxRecDepth 100000 in
set_option maxHeartbeats 8000000 in
theorem mth_bad2 (s X Y t U V : Int) (w : World) (hS : Std w) (a1 : 0 ≤ s) (a2 : s ≤ 7) (a3 : -16384 ≤ X) (a4 : X ≤ 16384) (a5 : -16384 ≤ Y) (a6 : Y ≤ 16384) (a7 : (X + Y) % 2 = 0) (h : 7 < t ∨ U < -16384 ∨ 16384 < U ∨ V < -16384 ∨ 16384 < V ∨ (U + V) % 2 ≠ 0) : Calls Tryd.prog 6 #[mv s X Y, mv t U V] w fun e w' => e = .returned (.bool true) ∧ Below w.heap.size w w' := by
  have hS' : ∀ W, Below w.heap.size w W → Std W := fun W h => std_below hS h
  have HA : Hid ((X + Y) % 2 = 0) := a7
  clear a7
  have H : Hid (7 < t ∨ U < -16384 ∨ 16384 < U ∨ V < -16384 ∨ 16384 < V ∨ (U + V) % 2 ≠ 0) := h
  clear h
  go_enter Tryd.func6, Tryd.ntmps6
  go_wp2_with fail
  have hB0 : Below w.heap.size w ((w.alloc (.cells #[.int .u8 s, .int .i64 (X), .int .i64 (Y)] 51)).alloc (.cells #[.int .u8 t, .int .i64 (U), .int .i64 (V)] 51)) := (by repeat first | (with_reducible exact Below.refl _ _) | (with_reducible refine below_on ?_ _) | (with_reducible refine below_alloc ?_ _) | (with_reducible refine below_set ?_ (by simp; try omega) _))
  have b00 : ((w.alloc (.cells #[.int .u8 s, .int .i64 (X), .int .i64 (Y)] 51)).alloc (.cells #[.int .u8 t, .int .i64 (U), .int .i64 (V)] 51)).cell? ⟨w.heap.size, 0, none⟩ = some (.int .u8 s) := by simp [go_sem]
  have b01 : ((w.alloc (.cells #[.int .u8 s, .int .i64 (X), .int .i64 (Y)] 51)).alloc (.cells #[.int .u8 t, .int .i64 (U), .int .i64 (V)] 51)).cell? ⟨w.heap.size, 1, none⟩ = some (.int .i64 (X)) := by simp [go_sem]
  have b02 : ((w.alloc (.cells #[.int .u8 s, .int .i64 (X), .int .i64 (Y)] 51)).alloc (.cells #[.int .u8 t, .int .i64 (U), .int .i64 (V)] 51)).cell? ⟨w.heap.size, 2, none⟩ = some (.int .i64 (Y)) := by simp [go_sem]
  have b10 : ((w.alloc (.cells #[.int .u8 s, .int .i64 (X), .int .i64 (Y)] 51)).alloc (.cells #[.int .u8 t, .int .i64 (U), .int .i64 (V)] 51)).cell? ⟨w.heap.size + 1, 0, none⟩ = some (.int .u8 t) := by simp [go_sem]
  have b11 : ((w.alloc (.cells #[.int .u8 s, .int .i64 (X), .int .i64 (Y)] 51)).alloc (.cells #[.int .u8 t, .int .i64 (U), .int .i64 (V)] 51)).cell? ⟨w.heap.size + 1, 1, none⟩ = some (.int .i64 (U)) := by simp [go_sem]
  have b12 : ((w.alloc (.cells #[.int .u8 s, .int .i64 (X), .int .i64 (Y)] 51)).alloc (.cells #[.int .u8 t, .int .i64 (U), .int .i64 (V)] 51)).cell? ⟨w.heap.size + 1, 2, none⟩ = some (.int .i64 (V)) := by simp [go_sem]
  generalize ((w.alloc (.cells #[.int .u8 s, .int .i64 (X), .int .i64 (Y)] 51)).alloc (.cells #[.int .u8 t, .int .i64 (U), .int .i64 (V)] 51)) = W0 at *
  go_wp2_with (first | (go_at_call 30; with_reducible refine (then_bad2 s X Y t U V _ a1 a2 a3 a4 a5 a6 HA.out H.out).mono ?_; rintro e wx ⟨rfl, hx⟩; obtain ⟨ux, rfl⟩ := after hx; clear hx) | fail)
  have hR : Below (W0).heap.size (W0) ((on ux).alloc (.cells #[.int .u8 0, .int .i64 (0), .int .i64 (0)] 51)) := by repeat first | (with_reducible exact Below.refl _ _) | (with_reducible refine below_on ?_ _) | (with_reducible refine below_alloc ?_ _)
  have b00' : ((on ux).alloc (.cells #[.int .u8 0, .int .i64 (0), .int .i64 (0)] 51)).cell? ⟨w.heap.size, 0, none⟩ = some (.int .u8 s) := (hR.cell (World.block_lt_of_cell? _ _ b00)).trans b00
  have b01' : ((on ux).alloc (.cells #[.int .u8 0, .int .i64 (0), .int .i64 (0)] 51)).cell? ⟨w.heap.size, 1, none⟩ = some (.int .i64 (X)) := (hR.cell (World.block_lt_of_cell? _ _ b01)).trans b01
  have b02' : ((on ux).alloc (.cells #[.int .u8 0, .int .i64 (0), .int .i64 (0)] 51)).cell? ⟨w.heap.size, 2, none⟩ = some (.int .i64 (Y)) := (hR.cell (World.block_lt_of_cell? _ _ b02)).trans b02
  have b10' : ((on ux).alloc (.cells #[.int .u8 0, .int .i64 (0), .int .i64 (0)] 51)).cell? ⟨w.heap.size + 1, 0, none⟩ = some (.int .u8 t) := (hR.cell (World.block_lt_of_cell? _ _ b10)).trans b10
  have b11' : ((on ux).alloc (.cells #[.int .u8 0, .int .i64 (0), .int .i64 (0)] 51)).cell? ⟨w.heap.size + 1, 1, none⟩ = some (.int .i64 (U)) := (hR.cell (World.block_lt_of_cell? _ _ b11)).trans b11
  have b12' : ((on ux).alloc (.cells #[.int .u8 0, .int .i64 (0), .int .i64 (0)] 51)).cell? ⟨w.heap.size + 1, 2, none⟩ = some (.int .i64 (V)) := (hR.cell (World.block_lt_of_cell? _ _ b12)).trans b12
  have B100 : ((on ux).alloc (.cells #[.int .u8 0, .int .i64 (0), .int .i64 (0)] 51)).cell? ⟨(on ux).heap.size, 0, none⟩ = some (.int .u8 0) := by simp [go_sem]
  have B101 : ((on ux).alloc (.cells #[.int .u8 0, .int .i64 (0), .int .i64 (0)] 51)).cell? ⟨(on ux).heap.size, 1, none⟩ = some (.int .i64 (0)) := by simp [go_sem]
  have B102 : ((on ux).alloc (.cells #[.int .u8 0, .int .i64 (0), .int .i64 (0)] 51)).cell? ⟨(on ux).heap.size, 2, none⟩ = some (.int .i64 (0)) := by simp [go_sem]
  have hB1 : Below w.heap.size w ((on ux).alloc (.cells #[.int .u8 0, .int .i64 (0), .int .i64 (0)] 51)) := by repeat first | (with_reducible exact hB0) | (with_reducible refine below_on ?_ _) | (with_reducible refine below_alloc ?_ _)
  clear hR b00 b01 b02 b10 b11 b12  hB0
  generalize ((on ux).alloc (.cells #[.int .u8 0, .int .i64 (0), .int .i64 (0)] 51)) = W1 at *
  generalize (on ux).heap.size = B1 at *
  clear ux
  go_wp2_with (first | (go_at_call 35; with_reducible refine (mvalid_yes s X Y _ a1 a2 a3 a4 a5 a6 HA.out).mono ?_; rintro e wx ⟨rfl, hx⟩; obtain ⟨ux, rfl⟩ := after hx; clear hx) | (go_at_call 34; with_reducible refine (mcheck_ok s X Y _ a1 a2 a3 a4 a5 a6 HA.out).mono ?_; rintro e wx ⟨rfl, hx⟩; obtain ⟨ux, rfl⟩ := after hx; clear hx) | (go_at_call 35; with_reducible refine (mvalid_no t U V _ H.out).mono ?_; rintro e wx ⟨rfl, hx⟩; obtain ⟨ux, rfl⟩ := after hx; clear hx) | (go_at_call 28; with_reducible refine (lives2_ok _ (hS' _ (by repeat first | (with_reducible exact hB1) | (with_reducible refine below_on ?_ _) | (with_reducible refine below_alloc ?_ _) | (with_reducible refine below_set ?_ (by simp; try omega) _)))).mono ?_; rintro e wx ⟨rfl, hx⟩; obtain ⟨ux, rfl⟩ := after hx; clear hx) | fail)
  go_ret
  exact ⟨rfl, (by repeat first | (with_reducible exact hB1) | (with_reducible refine below_on ?_ _) | (with_reducible refine below_alloc ?_ _) | (with_reducible refine below_set ?_ (by simp; try omega) _))⟩

set_option maxRecDepth 100000 in
set_option maxHeartbeats 8000000 in
theorem mth_far (s X Y t U V : Int) (w : World) (hS : Std w) (a1 : 0 ≤ s) (a2 : s ≤ 7) (a3 : -16384 ≤ X) (a4 : X ≤ 16384) (a5 : -16384 ≤ Y) (a6 : Y ≤ 16384) (a7 : (X + Y) % 2 = 0) (b1 : 0 ≤ t) (b2 : t ≤ 7) (b3 : -16384 ≤ U) (b4 : U ≤ 16384) (b5 : -16384 ≤ V) (b6 : V ≤ 16384) (b7 : (U + V) % 2 = 0) (hc : mvx t X Y + U < -16384 ∨ 16384 < mvx t X Y + U ∨ mvy t X Y + V < -16384 ∨ 16384 < mvy t X Y + V) : Calls Tryd.prog 6 #[mv s X Y, mv t U V] w fun e w' => e = .returned (.bool true) ∧ Below w.heap.size w w' := by
  have hS' : ∀ W, Below w.heap.size w W → Std W := fun W h => std_below hS h
  have HA : Hid ((X + Y) % 2 = 0) := a7
  clear a7
  have HB : Hid ((U + V) % 2 = 0) := b7
  clear b7
  have HC : Hid (mvx t X Y + U < -16384 ∨ 16384 < mvx t X Y + U ∨ mvy t X Y + V < -16384 ∨ 16384 < mvy t X Y + V) := hc
  clear hc
  go_enter Tryd.func6, Tryd.ntmps6
  go_wp2_with fail
  have hB0 : Below w.heap.size w ((w.alloc (.cells #[.int .u8 s, .int .i64 (X), .int .i64 (Y)] 51)).alloc (.cells #[.int .u8 t, .int .i64 (U), .int .i64 (V)] 51)) := (by repeat first | (with_reducible exact Below.refl _ _) | (with_reducible refine below_on ?_ _) | (with_reducible refine below_alloc ?_ _) | (with_reducible refine below_set ?_ (by simp; try omega) _))
  have b00 : ((w.alloc (.cells #[.int .u8 s, .int .i64 (X), .int .i64 (Y)] 51)).alloc (.cells #[.int .u8 t, .int .i64 (U), .int .i64 (V)] 51)).cell? ⟨w.heap.size, 0, none⟩ = some (.int .u8 s) := by simp [go_sem]
  have b01 : ((w.alloc (.cells #[.int .u8 s, .int .i64 (X), .int .i64 (Y)] 51)).alloc (.cells #[.int .u8 t, .int .i64 (U), .int .i64 (V)] 51)).cell? ⟨w.heap.size, 1, none⟩ = some (.int .i64 (X)) := by simp [go_sem]
  have b02 : ((w.alloc (.cells #[.int .u8 s, .int .i64 (X), .int .i64 (Y)] 51)).alloc (.cells #[.int .u8 t, .int .i64 (U), .int .i64 (V)] 51)).cell? ⟨w.heap.size, 2, none⟩ = some (.int .i64 (Y)) := by simp [go_sem]
  have b10 : ((w.alloc (.cells #[.int .u8 s, .int .i64 (X), .int .i64 (Y)] 51)).alloc (.cells #[.int .u8 t, .int .i64 (U), .int .i64 (V)] 51)).cell? ⟨w.heap.size + 1, 0, none⟩ = some (.int .u8 t) := by simp [go_sem]
  have b11 : ((w.alloc (.cells #[.int .u8 s, .int .i64 (X), .int .i64 (Y)] 51)).alloc (.cells #[.int .u8 t, .int .i64 (U), .int .i64 (V)] 51)).cell? ⟨w.heap.size + 1, 1, none⟩ = some (.int .i64 (U)) := by simp [go_sem]
  have b12 : ((w.alloc (.cells #[.int .u8 s, .int .i64 (X), .int .i64 (Y)] 51)).alloc (.cells #[.int .u8 t, .int .i64 (U), .int .i64 (V)] 51)).cell? ⟨w.heap.size + 1, 2, none⟩ = some (.int .i64 (V)) := by simp [go_sem]
  generalize ((w.alloc (.cells #[.int .u8 s, .int .i64 (X), .int .i64 (Y)] 51)).alloc (.cells #[.int .u8 t, .int .i64 (U), .int .i64 (V)] 51)) = W0 at *
  go_wp2_with (first | (go_at_call 30; with_reducible refine (then_far s X Y t U V _ (hS' _ (by repeat first | (with_reducible exact hB0) | (with_reducible refine below_on ?_ _) | (with_reducible refine below_alloc ?_ _) | (with_reducible refine below_set ?_ (by simp; try omega) _))).turns a1 a2 a3 a4 a5 a6 HA.out b1 b2 b3 b4 b5 b6 HB.out HC.out).mono ?_; rintro e wx ⟨rfl, hx⟩; obtain ⟨ux, rfl⟩ := after hx; clear hx) | fail)
  have hR : Below (W0).heap.size (W0) ((on ux).alloc (.cells #[.int .u8 0, .int .i64 (0), .int .i64 (0)] 51)) := by repeat first | (with_reducible exact Below.refl _ _) | (with_reducible refine below_on ?_ _) | (with_reducible refine below_alloc ?_ _)
  have b00' : ((on ux).alloc (.cells #[.int .u8 0, .int .i64 (0), .int .i64 (0)] 51)).cell? ⟨w.heap.size, 0, none⟩ = some (.int .u8 s) := (hR.cell (World.block_lt_of_cell? _ _ b00)).trans b00
  have b01' : ((on ux).alloc (.cells #[.int .u8 0, .int .i64 (0), .int .i64 (0)] 51)).cell? ⟨w.heap.size, 1, none⟩ = some (.int .i64 (X)) := (hR.cell (World.block_lt_of_cell? _ _ b01)).trans b01
  have b02' : ((on ux).alloc (.cells #[.int .u8 0, .int .i64 (0), .int .i64 (0)] 51)).cell? ⟨w.heap.size, 2, none⟩ = some (.int .i64 (Y)) := (hR.cell (World.block_lt_of_cell? _ _ b02)).trans b02
  have b10' : ((on ux).alloc (.cells #[.int .u8 0, .int .i64 (0), .int .i64 (0)] 51)).cell? ⟨w.heap.size + 1, 0, none⟩ = some (.int .u8 t) := (hR.cell (World.block_lt_of_cell? _ _ b10)).trans b10
  have b11' : ((on ux).alloc (.cells #[.int .u8 0, .int .i64 (0), .int .i64 (0)] 51)).cell? ⟨w.heap.size + 1, 1, none⟩ = some (.int .i64 (U)) := (hR.cell (World.block_lt_of_cell? _ _ b11)).trans b11
  have b12' : ((on ux).alloc (.cells #[.int .u8 0, .int .i64 (0), .int .i64 (0)] 51)).cell? ⟨w.heap.size + 1, 2, none⟩ = some (.int .i64 (V)) := (hR.cell (World.block_lt_of_cell? _ _ b12)).trans b12
  have B100 : ((on ux).alloc (.cells #[.int .u8 0, .int .i64 (0), .int .i64 (0)] 51)).cell? ⟨(on ux).heap.size, 0, none⟩ = some (.int .u8 0) := by simp [go_sem]
  have B101 : ((on ux).alloc (.cells #[.int .u8 0, .int .i64 (0), .int .i64 (0)] 51)).cell? ⟨(on ux).heap.size, 1, none⟩ = some (.int .i64 (0)) := by simp [go_sem]
  have B102 : ((on ux).alloc (.cells #[.int .u8 0, .int .i64 (0), .int .i64 (0)] 51)).cell? ⟨(on ux).heap.size, 2, none⟩ = some (.int .i64 (0)) := by simp [go_sem]
  have hB1 : Below w.heap.size w ((on ux).alloc (.cells #[.int .u8 0, .int .i64 (0), .int .i64 (0)] 51)) := by repeat first | (with_reducible exact hB0) | (with_reducible refine below_on ?_ _) | (with_reducible refine below_alloc ?_ _)
  clear hR b00 b01 b02 b10 b11 b12  hB0
  generalize ((on ux).alloc (.cells #[.int .u8 0, .int .i64 (0), .int .i64 (0)] 51)) = W1 at *
  generalize (on ux).heap.size = B1 at *
  clear ux
  go_wp2_with (first | (go_at_call 35; with_reducible refine (mvalid_yes s X Y _ a1 a2 a3 a4 a5 a6 HA.out).mono ?_; rintro e wx ⟨rfl, hx⟩; obtain ⟨ux, rfl⟩ := after hx; clear hx) | (go_at_call 34; with_reducible refine (mcheck_ok s X Y _ a1 a2 a3 a4 a5 a6 HA.out).mono ?_; rintro e wx ⟨rfl, hx⟩; obtain ⟨ux, rfl⟩ := after hx; clear hx) | (go_at_call 35; with_reducible refine (mvalid_yes t U V _ b1 b2 b3 b4 b5 b6 HB.out).mono ?_; rintro e wx ⟨rfl, hx⟩; obtain ⟨ux, rfl⟩ := after hx; clear hx) | fail)
  go_wp2_with (first | (go_at_call 36; with_reducible refine (rthen_any s X Y t U V _ a1 a2 b1 b2 (by omega) (by omega) (by omega) (by omega) (by omega) (by omega) (by omega) (by omega)).mono ?_; rintro e wx ⟨rfl, hx⟩; obtain ⟨ux, rfl⟩ := after hx; clear hx) | fail)
  have hR : Below (W1).heap.size (W1) ((on ux).alloc (.cells #[.int .u8 (mulT s t), .int .i64 (mvx t X Y + U), .int .i64 (mvy t X Y + V)] 51)) := by repeat first | (with_reducible exact Below.refl _ _) | (with_reducible refine below_on ?_ _) | (with_reducible refine below_alloc ?_ _)
  have b00'' : ((on ux).alloc (.cells #[.int .u8 (mulT s t), .int .i64 (mvx t X Y + U), .int .i64 (mvy t X Y + V)] 51)).cell? ⟨w.heap.size, 0, none⟩ = some (.int .u8 s) := (hR.cell (World.block_lt_of_cell? _ _ b00')).trans b00'
  have b01'' : ((on ux).alloc (.cells #[.int .u8 (mulT s t), .int .i64 (mvx t X Y + U), .int .i64 (mvy t X Y + V)] 51)).cell? ⟨w.heap.size, 1, none⟩ = some (.int .i64 (X)) := (hR.cell (World.block_lt_of_cell? _ _ b01')).trans b01'
  have b02'' : ((on ux).alloc (.cells #[.int .u8 (mulT s t), .int .i64 (mvx t X Y + U), .int .i64 (mvy t X Y + V)] 51)).cell? ⟨w.heap.size, 2, none⟩ = some (.int .i64 (Y)) := (hR.cell (World.block_lt_of_cell? _ _ b02')).trans b02'
  have b10'' : ((on ux).alloc (.cells #[.int .u8 (mulT s t), .int .i64 (mvx t X Y + U), .int .i64 (mvy t X Y + V)] 51)).cell? ⟨w.heap.size + 1, 0, none⟩ = some (.int .u8 t) := (hR.cell (World.block_lt_of_cell? _ _ b10')).trans b10'
  have b11'' : ((on ux).alloc (.cells #[.int .u8 (mulT s t), .int .i64 (mvx t X Y + U), .int .i64 (mvy t X Y + V)] 51)).cell? ⟨w.heap.size + 1, 1, none⟩ = some (.int .i64 (U)) := (hR.cell (World.block_lt_of_cell? _ _ b11')).trans b11'
  have b12'' : ((on ux).alloc (.cells #[.int .u8 (mulT s t), .int .i64 (mvx t X Y + U), .int .i64 (mvy t X Y + V)] 51)).cell? ⟨w.heap.size + 1, 2, none⟩ = some (.int .i64 (V)) := (hR.cell (World.block_lt_of_cell? _ _ b12')).trans b12'
  have B100' : ((on ux).alloc (.cells #[.int .u8 (mulT s t), .int .i64 (mvx t X Y + U), .int .i64 (mvy t X Y + V)] 51)).cell? ⟨B1, 0, none⟩ = some (.int .u8 0) := (hR.cell (World.block_lt_of_cell? _ _ B100)).trans B100
  have B101' : ((on ux).alloc (.cells #[.int .u8 (mulT s t), .int .i64 (mvx t X Y + U), .int .i64 (mvy t X Y + V)] 51)).cell? ⟨B1, 1, none⟩ = some (.int .i64 (0)) := (hR.cell (World.block_lt_of_cell? _ _ B101)).trans B101
  have B102' : ((on ux).alloc (.cells #[.int .u8 (mulT s t), .int .i64 (mvx t X Y + U), .int .i64 (mvy t X Y + V)] 51)).cell? ⟨B1, 2, none⟩ = some (.int .i64 (0)) := (hR.cell (World.block_lt_of_cell? _ _ B102)).trans B102
  have B200 : ((on ux).alloc (.cells #[.int .u8 (mulT s t), .int .i64 (mvx t X Y + U), .int .i64 (mvy t X Y + V)] 51)).cell? ⟨(on ux).heap.size, 0, none⟩ = some (.int .u8 (mulT s t)) := by simp [go_sem]
  have B201 : ((on ux).alloc (.cells #[.int .u8 (mulT s t), .int .i64 (mvx t X Y + U), .int .i64 (mvy t X Y + V)] 51)).cell? ⟨(on ux).heap.size, 1, none⟩ = some (.int .i64 (mvx t X Y + U)) := by simp [go_sem]
  have B202 : ((on ux).alloc (.cells #[.int .u8 (mulT s t), .int .i64 (mvx t X Y + U), .int .i64 (mvy t X Y + V)] 51)).cell? ⟨(on ux).heap.size, 2, none⟩ = some (.int .i64 (mvy t X Y + V)) := by simp [go_sem]
  have hB2 : Below w.heap.size w ((on ux).alloc (.cells #[.int .u8 (mulT s t), .int .i64 (mvx t X Y + U), .int .i64 (mvy t X Y + V)] 51)) := by repeat first | (with_reducible exact hB1) | (with_reducible refine below_on ?_ _) | (with_reducible refine below_alloc ?_ _)
  clear hR b00' b01' b02' b10' b11' b12' B100 B101 B102  hB1
  generalize ((on ux).alloc (.cells #[.int .u8 (mulT s t), .int .i64 (mvx t X Y + U), .int .i64 (mvy t X Y + V)] 51)) = W2 at *
  generalize (on ux).heap.size = B2 at *
  clear ux
  go_wp2_with (first | (go_at_call 35; with_reducible refine (mvalid_no (mulT s t) (mvx t X Y + U) (mvy t X Y + V) _ (by have := HC.out; omega)).mono ?_; rintro e wx ⟨rfl, hx⟩; obtain ⟨ux, rfl⟩ := after hx; clear hx) | (go_at_call 28; with_reducible refine (lives2_ok _ (hS' _ (by repeat first | (with_reducible exact hB2) | (with_reducible refine below_on ?_ _) | (with_reducible refine below_alloc ?_ _) | (with_reducible refine below_set ?_ (by simp; try omega) _)))).mono ?_; rintro e wx ⟨rfl, hx⟩; obtain ⟨ux, rfl⟩ := after hx; clear hx) | fail)
  go_ret
  exact ⟨rfl, (by repeat first | (with_reducible exact hB2) | (with_reducible refine below_on ?_ _) | (with_reducible refine below_alloc ?_ _) | (with_reducible refine below_set ?_ (by simp; try omega) _))⟩

set_option maxRecDepth 100000 in
set_option maxHeartbeats 8000000 in
theorem mth_ok00 (s X Y t U V : Int) (w : World) (hS : Std w) (a1 : 0 ≤ s) (a2 : s ≤ 7) (a3 : -16384 ≤ X) (a4 : X ≤ 16384) (a5 : -16384 ≤ Y) (a6 : Y ≤ 16384) (a7 : (X + Y) % 2 = 0) (b1 : 0 ≤ t) (b2 : t ≤ 7) (b3 : -16384 ≤ U) (b4 : U ≤ 16384) (b5 : -16384 ≤ V) (b6 : V ≤ 16384) (b7 : (U + V) % 2 = 0) (c1 : -16384 ≤ mvx t X Y + U) (c2 : mvx t X Y + U ≤ 16384) (c3 : -16384 ≤ mvy t X Y + V) (c4 : mvy t X Y + V ≤ 16384) (hs : s < 4) (ht : t < 4) (hm : mulT s t < 4) : Calls Tryd.prog 6 #[mv s X Y, mv t U V] w fun e w' => e = .returned (.bool true) ∧ Below w.heap.size w w' := by
  have hS' : ∀ W, Below w.heap.size w W → Std W := fun W h => std_below hS h
  have FLs : ∀ W, Calls Tryd.prog 33 #[mv s X Y] W fun e w' => e = .returned (.bool false) ∧ Below W.heap.size W w' := fun W => by
    have := flips_ok s X Y W a1 a2 a3 a4 a5 a6 a7
    rwa [decide_eq_false (by omega)] at this
  have FLt : ∀ W, Calls Tryd.prog 33 #[mv t U V] W fun e w' => e = .returned (.bool false) ∧ Below W.heap.size W w' := fun W => by
    have := flips_ok t U V W b1 b2 b3 b4 b5 b6 b7
    rwa [decide_eq_false (by omega)] at this
  have cr := mulT_range s t a1 a2 b1 b2
  have c7 : ((mvx t X Y + U) + (mvy t X Y + V)) % 2 = 0 := by
    have := mv_par t X Y b1 b2
    omega
  have hI : 0 ≤ mulT s t ∧ mulT s t ≤ 7 ∧ ((mvx t X Y + U) + (mvy t X Y + V)) % 2 = 0 := ⟨cr.1, cr.2, c7⟩
  have HI : Hid (0 ≤ mulT s t ∧ mulT s t ≤ 7 ∧ ((mvx t X Y + U) + (mvy t X Y + V)) % 2 = 0) := hI
  clear hI
  clear cr c7
  have FLm : ∀ W, Calls Tryd.prog 33 #[mv (mulT s t) (mvx t X Y + U) (mvy t X Y + V)] W fun e w' => e = .returned (.bool false) ∧ Below W.heap.size W w' := fun W => by
    have := flips_ok (mulT s t) (mvx t X Y + U) (mvy t X Y + V) W HI.out.1 HI.out.2.1 c1 c2 c3 c4 HI.out.2.2
    rwa [decide_eq_false (by omega)] at this
  have h3 : ¬ (3 < s) := by omega
  have h5 : s ≤ 3 := by omega
  clear hm
  have HA : Hid ((X + Y) % 2 = 0) := a7
  clear a7
  have HB : Hid ((U + V) % 2 = 0) := b7
  clear b7
  go_enter Tryd.func6, Tryd.ntmps6
  go_wp2_with fail
  have hB0 : Below w.heap.size w ((w.alloc (.cells #[.int .u8 s, .int .i64 (X), .int .i64 (Y)] 51)).alloc (.cells #[.int .u8 t, .int .i64 (U), .int .i64 (V)] 51)) := (by repeat first | (with_reducible exact Below.refl _ _) | (with_reducible refine below_on ?_ _) | (with_reducible refine below_alloc ?_ _) | (with_reducible refine below_set ?_ (by simp; try omega) _))
  have b00 : ((w.alloc (.cells #[.int .u8 s, .int .i64 (X), .int .i64 (Y)] 51)).alloc (.cells #[.int .u8 t, .int .i64 (U), .int .i64 (V)] 51)).cell? ⟨w.heap.size, 0, none⟩ = some (.int .u8 s) := by simp [go_sem]
  have b01 : ((w.alloc (.cells #[.int .u8 s, .int .i64 (X), .int .i64 (Y)] 51)).alloc (.cells #[.int .u8 t, .int .i64 (U), .int .i64 (V)] 51)).cell? ⟨w.heap.size, 1, none⟩ = some (.int .i64 (X)) := by simp [go_sem]
  have b02 : ((w.alloc (.cells #[.int .u8 s, .int .i64 (X), .int .i64 (Y)] 51)).alloc (.cells #[.int .u8 t, .int .i64 (U), .int .i64 (V)] 51)).cell? ⟨w.heap.size, 2, none⟩ = some (.int .i64 (Y)) := by simp [go_sem]
  have b10 : ((w.alloc (.cells #[.int .u8 s, .int .i64 (X), .int .i64 (Y)] 51)).alloc (.cells #[.int .u8 t, .int .i64 (U), .int .i64 (V)] 51)).cell? ⟨w.heap.size + 1, 0, none⟩ = some (.int .u8 t) := by simp [go_sem]
  have b11 : ((w.alloc (.cells #[.int .u8 s, .int .i64 (X), .int .i64 (Y)] 51)).alloc (.cells #[.int .u8 t, .int .i64 (U), .int .i64 (V)] 51)).cell? ⟨w.heap.size + 1, 1, none⟩ = some (.int .i64 (U)) := by simp [go_sem]
  have b12 : ((w.alloc (.cells #[.int .u8 s, .int .i64 (X), .int .i64 (Y)] 51)).alloc (.cells #[.int .u8 t, .int .i64 (U), .int .i64 (V)] 51)).cell? ⟨w.heap.size + 1, 2, none⟩ = some (.int .i64 (V)) := by simp [go_sem]
  generalize ((w.alloc (.cells #[.int .u8 s, .int .i64 (X), .int .i64 (Y)] 51)).alloc (.cells #[.int .u8 t, .int .i64 (U), .int .i64 (V)] 51)) = W0 at *
  go_wp2_with (first | (go_at_call 30; with_reducible refine (then_ok s X Y t U V _ (hS' _ (by repeat first | (with_reducible exact hB0) | (with_reducible refine below_on ?_ _) | (with_reducible refine below_alloc ?_ _) | (with_reducible refine below_set ?_ (by simp; try omega) _))).turns a1 a2 a3 a4 a5 a6 HA.out b1 b2 b3 b4 b5 b6 HB.out c1 c2 c3 c4).mono ?_; rintro e wx ⟨rfl, hx⟩; obtain ⟨ux, rfl⟩ := after hx; clear hx) | fail)
  have hR : Below (W0).heap.size (W0) ((on ux).alloc (.cells #[.int .u8 (mulT s t), .int .i64 (mvx t X Y + U), .int .i64 (mvy t X Y + V)] 51)) := by repeat first | (with_reducible exact Below.refl _ _) | (with_reducible refine below_on ?_ _) | (with_reducible refine below_alloc ?_ _)
  have b00' : ((on ux).alloc (.cells #[.int .u8 (mulT s t), .int .i64 (mvx t X Y + U), .int .i64 (mvy t X Y + V)] 51)).cell? ⟨w.heap.size, 0, none⟩ = some (.int .u8 s) := (hR.cell (World.block_lt_of_cell? _ _ b00)).trans b00
  have b01' : ((on ux).alloc (.cells #[.int .u8 (mulT s t), .int .i64 (mvx t X Y + U), .int .i64 (mvy t X Y + V)] 51)).cell? ⟨w.heap.size, 1, none⟩ = some (.int .i64 (X)) := (hR.cell (World.block_lt_of_cell? _ _ b01)).trans b01
  have b02' : ((on ux).alloc (.cells #[.int .u8 (mulT s t), .int .i64 (mvx t X Y + U), .int .i64 (mvy t X Y + V)] 51)).cell? ⟨w.heap.size, 2, none⟩ = some (.int .i64 (Y)) := (hR.cell (World.block_lt_of_cell? _ _ b02)).trans b02
  have b10' : ((on ux).alloc (.cells #[.int .u8 (mulT s t), .int .i64 (mvx t X Y + U), .int .i64 (mvy t X Y + V)] 51)).cell? ⟨w.heap.size + 1, 0, none⟩ = some (.int .u8 t) := (hR.cell (World.block_lt_of_cell? _ _ b10)).trans b10
  have b11' : ((on ux).alloc (.cells #[.int .u8 (mulT s t), .int .i64 (mvx t X Y + U), .int .i64 (mvy t X Y + V)] 51)).cell? ⟨w.heap.size + 1, 1, none⟩ = some (.int .i64 (U)) := (hR.cell (World.block_lt_of_cell? _ _ b11)).trans b11
  have b12' : ((on ux).alloc (.cells #[.int .u8 (mulT s t), .int .i64 (mvx t X Y + U), .int .i64 (mvy t X Y + V)] 51)).cell? ⟨w.heap.size + 1, 2, none⟩ = some (.int .i64 (V)) := (hR.cell (World.block_lt_of_cell? _ _ b12)).trans b12
  have B100 : ((on ux).alloc (.cells #[.int .u8 (mulT s t), .int .i64 (mvx t X Y + U), .int .i64 (mvy t X Y + V)] 51)).cell? ⟨(on ux).heap.size, 0, none⟩ = some (.int .u8 (mulT s t)) := by simp [go_sem]
  have B101 : ((on ux).alloc (.cells #[.int .u8 (mulT s t), .int .i64 (mvx t X Y + U), .int .i64 (mvy t X Y + V)] 51)).cell? ⟨(on ux).heap.size, 1, none⟩ = some (.int .i64 (mvx t X Y + U)) := by simp [go_sem]
  have B102 : ((on ux).alloc (.cells #[.int .u8 (mulT s t), .int .i64 (mvx t X Y + U), .int .i64 (mvy t X Y + V)] 51)).cell? ⟨(on ux).heap.size, 2, none⟩ = some (.int .i64 (mvy t X Y + V)) := by simp [go_sem]
  have hB1 : Below w.heap.size w ((on ux).alloc (.cells #[.int .u8 (mulT s t), .int .i64 (mvx t X Y + U), .int .i64 (mvy t X Y + V)] 51)) := by repeat first | (with_reducible exact hB0) | (with_reducible refine below_on ?_ _) | (with_reducible refine below_alloc ?_ _)
  clear hR b00 b01 b02 b10 b11 b12  hB0
  generalize ((on ux).alloc (.cells #[.int .u8 (mulT s t), .int .i64 (mvx t X Y + U), .int .i64 (mvy t X Y + V)] 51)) = W1 at *
  generalize (on ux).heap.size = B1 at *
  clear ux
  go_wp2_with (first | (go_at_call 35; with_reducible refine (mvalid_yes s X Y _ a1 a2 a3 a4 a5 a6 HA.out).mono ?_; rintro e wx ⟨rfl, hx⟩; obtain ⟨ux, rfl⟩ := after hx; clear hx) | (go_at_call 34; with_reducible refine (mcheck_ok s X Y _ a1 a2 a3 a4 a5 a6 HA.out).mono ?_; rintro e wx ⟨rfl, hx⟩; obtain ⟨ux, rfl⟩ := after hx; clear hx) | (go_at_call 35; with_reducible refine (mvalid_yes t U V _ b1 b2 b3 b4 b5 b6 HB.out).mono ?_; rintro e wx ⟨rfl, hx⟩; obtain ⟨ux, rfl⟩ := after hx; clear hx) | fail)
  go_wp2_with (first | (go_at_call 36; with_reducible refine (rthen_any s X Y t U V _ a1 a2 b1 b2 (by omega) (by omega) (by omega) (by omega) (by omega) (by omega) (by omega) (by omega)).mono ?_; rintro e wx ⟨rfl, hx⟩; obtain ⟨ux, rfl⟩ := after hx; clear hx) | fail)
  have hR : Below (W1).heap.size (W1) ((on ux).alloc (.cells #[.int .u8 (mulT s t), .int .i64 (mvx t X Y + U), .int .i64 (mvy t X Y + V)] 51)) := by repeat first | (with_reducible exact Below.refl _ _) | (with_reducible refine below_on ?_ _) | (with_reducible refine below_alloc ?_ _)
  have b00'' : ((on ux).alloc (.cells #[.int .u8 (mulT s t), .int .i64 (mvx t X Y + U), .int .i64 (mvy t X Y + V)] 51)).cell? ⟨w.heap.size, 0, none⟩ = some (.int .u8 s) := (hR.cell (World.block_lt_of_cell? _ _ b00')).trans b00'
  have b01'' : ((on ux).alloc (.cells #[.int .u8 (mulT s t), .int .i64 (mvx t X Y + U), .int .i64 (mvy t X Y + V)] 51)).cell? ⟨w.heap.size, 1, none⟩ = some (.int .i64 (X)) := (hR.cell (World.block_lt_of_cell? _ _ b01')).trans b01'
  have b02'' : ((on ux).alloc (.cells #[.int .u8 (mulT s t), .int .i64 (mvx t X Y + U), .int .i64 (mvy t X Y + V)] 51)).cell? ⟨w.heap.size, 2, none⟩ = some (.int .i64 (Y)) := (hR.cell (World.block_lt_of_cell? _ _ b02')).trans b02'
  have b10'' : ((on ux).alloc (.cells #[.int .u8 (mulT s t), .int .i64 (mvx t X Y + U), .int .i64 (mvy t X Y + V)] 51)).cell? ⟨w.heap.size + 1, 0, none⟩ = some (.int .u8 t) := (hR.cell (World.block_lt_of_cell? _ _ b10')).trans b10'
  have b11'' : ((on ux).alloc (.cells #[.int .u8 (mulT s t), .int .i64 (mvx t X Y + U), .int .i64 (mvy t X Y + V)] 51)).cell? ⟨w.heap.size + 1, 1, none⟩ = some (.int .i64 (U)) := (hR.cell (World.block_lt_of_cell? _ _ b11')).trans b11'
  have b12'' : ((on ux).alloc (.cells #[.int .u8 (mulT s t), .int .i64 (mvx t X Y + U), .int .i64 (mvy t X Y + V)] 51)).cell? ⟨w.heap.size + 1, 2, none⟩ = some (.int .i64 (V)) := (hR.cell (World.block_lt_of_cell? _ _ b12')).trans b12'
  have B100' : ((on ux).alloc (.cells #[.int .u8 (mulT s t), .int .i64 (mvx t X Y + U), .int .i64 (mvy t X Y + V)] 51)).cell? ⟨B1, 0, none⟩ = some (.int .u8 (mulT s t)) := (hR.cell (World.block_lt_of_cell? _ _ B100)).trans B100
  have B101' : ((on ux).alloc (.cells #[.int .u8 (mulT s t), .int .i64 (mvx t X Y + U), .int .i64 (mvy t X Y + V)] 51)).cell? ⟨B1, 1, none⟩ = some (.int .i64 (mvx t X Y + U)) := (hR.cell (World.block_lt_of_cell? _ _ B101)).trans B101
  have B102' : ((on ux).alloc (.cells #[.int .u8 (mulT s t), .int .i64 (mvx t X Y + U), .int .i64 (mvy t X Y + V)] 51)).cell? ⟨B1, 2, none⟩ = some (.int .i64 (mvy t X Y + V)) := (hR.cell (World.block_lt_of_cell? _ _ B102)).trans B102
  have B200 : ((on ux).alloc (.cells #[.int .u8 (mulT s t), .int .i64 (mvx t X Y + U), .int .i64 (mvy t X Y + V)] 51)).cell? ⟨(on ux).heap.size, 0, none⟩ = some (.int .u8 (mulT s t)) := by simp [go_sem]
  have B201 : ((on ux).alloc (.cells #[.int .u8 (mulT s t), .int .i64 (mvx t X Y + U), .int .i64 (mvy t X Y + V)] 51)).cell? ⟨(on ux).heap.size, 1, none⟩ = some (.int .i64 (mvx t X Y + U)) := by simp [go_sem]
  have B202 : ((on ux).alloc (.cells #[.int .u8 (mulT s t), .int .i64 (mvx t X Y + U), .int .i64 (mvy t X Y + V)] 51)).cell? ⟨(on ux).heap.size, 2, none⟩ = some (.int .i64 (mvy t X Y + V)) := by simp [go_sem]
  have hB2 : Below w.heap.size w ((on ux).alloc (.cells #[.int .u8 (mulT s t), .int .i64 (mvx t X Y + U), .int .i64 (mvy t X Y + V)] 51)) := by repeat first | (with_reducible exact hB1) | (with_reducible refine below_on ?_ _) | (with_reducible refine below_alloc ?_ _)
  clear hR b00' b01' b02' b10' b11' b12' B100 B101 B102  hB1
  generalize ((on ux).alloc (.cells #[.int .u8 (mulT s t), .int .i64 (mvx t X Y + U), .int .i64 (mvy t X Y + V)] 51)) = W2 at *
  generalize (on ux).heap.size = B2 at *
  clear ux
  go_wp2_with (first | (go_at_call 35; with_reducible refine (mvalid_yes (mulT s t) (mvx t X Y + U) (mvy t X Y + V) _ HI.out.1 HI.out.2.1 c1 c2 c3 c4 HI.out.2.2).mono ?_; rintro e wx ⟨rfl, hx⟩; obtain ⟨ux, rfl⟩ := after hx; clear hx) | fail)
  refine region_later (by kernel_rfl) (by kernel_rfl) ?_
  repeat (go_big_quiet_step ((first | (go_at_call 33; with_reducible exact Calls.later (FLs _)) | (go_at_call 33; with_reducible exact Calls.later (FLt _)) | (go_at_call 33; with_reducible exact Calls.later (FLm _)) | (go_at_call 28; with_reducible exact Calls.later (lives2_ok _ (hS' _ (by repeat first | (with_reducible exact hB2) | (with_reducible refine below_on ?_ _) | (with_reducible refine below_alloc ?_ _) | (with_reducible refine below_set ?_ (by simp; try omega) _))))))))
  rw [show decide (3 < s) = false from decide_eq_false (by omega), Bool.not_false]
  repeat (go_big_quiet_step ((first | (go_at_call 33; with_reducible exact Calls.later (FLs _)) | (go_at_call 33; with_reducible exact Calls.later (FLt _)) | (go_at_call 33; with_reducible exact Calls.later (FLm _)) | (go_at_call 28; with_reducible exact Calls.later (lives2_ok _ (hS' _ (by repeat first | (with_reducible exact hB2) | (with_reducible refine below_on ?_ _) | (with_reducible refine below_alloc ?_ _) | (with_reducible refine below_set ?_ (by simp; try omega) _))))))))
  refine wpQuiet_nil ?_
  rintro _ ⟨u9, rfl⟩
  go_wp2
  go_ret
  exact ⟨rfl, (by repeat first | (with_reducible exact hB2) | (with_reducible refine below_on ?_ _) | (with_reducible refine below_alloc ?_ _) | (with_reducible refine below_set ?_ (by simp; try omega) _))⟩

set_option maxRecDepth 100000 in
set_option maxHeartbeats 8000000 in
theorem mth_ok01 (s X Y t U V : Int) (w : World) (hS : Std w) (a1 : 0 ≤ s) (a2 : s ≤ 7) (a3 : -16384 ≤ X) (a4 : X ≤ 16384) (a5 : -16384 ≤ Y) (a6 : Y ≤ 16384) (a7 : (X + Y) % 2 = 0) (b1 : 0 ≤ t) (b2 : t ≤ 7) (b3 : -16384 ≤ U) (b4 : U ≤ 16384) (b5 : -16384 ≤ V) (b6 : V ≤ 16384) (b7 : (U + V) % 2 = 0) (c1 : -16384 ≤ mvx t X Y + U) (c2 : mvx t X Y + U ≤ 16384) (c3 : -16384 ≤ mvy t X Y + V) (c4 : mvy t X Y + V ≤ 16384) (hs : s < 4) (ht : 4 ≤ t) (hm : 4 ≤ mulT s t) : Calls Tryd.prog 6 #[mv s X Y, mv t U V] w fun e w' => e = .returned (.bool true) ∧ Below w.heap.size w w' := by
  have hS' : ∀ W, Below w.heap.size w W → Std W := fun W h => std_below hS h
  have FLs : ∀ W, Calls Tryd.prog 33 #[mv s X Y] W fun e w' => e = .returned (.bool false) ∧ Below W.heap.size W w' := fun W => by
    have := flips_ok s X Y W a1 a2 a3 a4 a5 a6 a7
    rwa [decide_eq_false (by omega)] at this
  have FLt : ∀ W, Calls Tryd.prog 33 #[mv t U V] W fun e w' => e = .returned (.bool true) ∧ Below W.heap.size W w' := fun W => by
    have := flips_ok t U V W b1 b2 b3 b4 b5 b6 b7
    rwa [decide_eq_true (by omega)] at this
  have cr := mulT_range s t a1 a2 b1 b2
  have c7 : ((mvx t X Y + U) + (mvy t X Y + V)) % 2 = 0 := by
    have := mv_par t X Y b1 b2
    omega
  have hI : 0 ≤ mulT s t ∧ mulT s t ≤ 7 ∧ ((mvx t X Y + U) + (mvy t X Y + V)) % 2 = 0 := ⟨cr.1, cr.2, c7⟩
  have HI : Hid (0 ≤ mulT s t ∧ mulT s t ≤ 7 ∧ ((mvx t X Y + U) + (mvy t X Y + V)) % 2 = 0) := hI
  clear hI
  clear cr c7
  have FLm : ∀ W, Calls Tryd.prog 33 #[mv (mulT s t) (mvx t X Y + U) (mvy t X Y + V)] W fun e w' => e = .returned (.bool true) ∧ Below W.heap.size W w' := fun W => by
    have := flips_ok (mulT s t) (mvx t X Y + U) (mvy t X Y + V) W HI.out.1 HI.out.2.1 c1 c2 c3 c4 HI.out.2.2
    rwa [decide_eq_true (by omega)] at this
  have h3 : ¬ (3 < s) := by omega
  have h5 : s ≤ 3 := by omega
  clear hm
  have HA : Hid ((X + Y) % 2 = 0) := a7
  clear a7
  have HB : Hid ((U + V) % 2 = 0) := b7
  clear b7
  go_enter Tryd.func6, Tryd.ntmps6
  go_wp2_with fail
  have hB0 : Below w.heap.size w ((w.alloc (.cells #[.int .u8 s, .int .i64 (X), .int .i64 (Y)] 51)).alloc (.cells #[.int .u8 t, .int .i64 (U), .int .i64 (V)] 51)) := (by repeat first | (with_reducible exact Below.refl _ _) | (with_reducible refine below_on ?_ _) | (with_reducible refine below_alloc ?_ _) | (with_reducible refine below_set ?_ (by simp; try omega) _))
  have b00 : ((w.alloc (.cells #[.int .u8 s, .int .i64 (X), .int .i64 (Y)] 51)).alloc (.cells #[.int .u8 t, .int .i64 (U), .int .i64 (V)] 51)).cell? ⟨w.heap.size, 0, none⟩ = some (.int .u8 s) := by simp [go_sem]
  have b01 : ((w.alloc (.cells #[.int .u8 s, .int .i64 (X), .int .i64 (Y)] 51)).alloc (.cells #[.int .u8 t, .int .i64 (U), .int .i64 (V)] 51)).cell? ⟨w.heap.size, 1, none⟩ = some (.int .i64 (X)) := by simp [go_sem]
  have b02 : ((w.alloc (.cells #[.int .u8 s, .int .i64 (X), .int .i64 (Y)] 51)).alloc (.cells #[.int .u8 t, .int .i64 (U), .int .i64 (V)] 51)).cell? ⟨w.heap.size, 2, none⟩ = some (.int .i64 (Y)) := by simp [go_sem]
  have b10 : ((w.alloc (.cells #[.int .u8 s, .int .i64 (X), .int .i64 (Y)] 51)).alloc (.cells #[.int .u8 t, .int .i64 (U), .int .i64 (V)] 51)).cell? ⟨w.heap.size + 1, 0, none⟩ = some (.int .u8 t) := by simp [go_sem]
  have b11 : ((w.alloc (.cells #[.int .u8 s, .int .i64 (X), .int .i64 (Y)] 51)).alloc (.cells #[.int .u8 t, .int .i64 (U), .int .i64 (V)] 51)).cell? ⟨w.heap.size + 1, 1, none⟩ = some (.int .i64 (U)) := by simp [go_sem]
  have b12 : ((w.alloc (.cells #[.int .u8 s, .int .i64 (X), .int .i64 (Y)] 51)).alloc (.cells #[.int .u8 t, .int .i64 (U), .int .i64 (V)] 51)).cell? ⟨w.heap.size + 1, 2, none⟩ = some (.int .i64 (V)) := by simp [go_sem]
  generalize ((w.alloc (.cells #[.int .u8 s, .int .i64 (X), .int .i64 (Y)] 51)).alloc (.cells #[.int .u8 t, .int .i64 (U), .int .i64 (V)] 51)) = W0 at *
  go_wp2_with (first | (go_at_call 30; with_reducible refine (then_ok s X Y t U V _ (hS' _ (by repeat first | (with_reducible exact hB0) | (with_reducible refine below_on ?_ _) | (with_reducible refine below_alloc ?_ _) | (with_reducible refine below_set ?_ (by simp; try omega) _))).turns a1 a2 a3 a4 a5 a6 HA.out b1 b2 b3 b4 b5 b6 HB.out c1 c2 c3 c4).mono ?_; rintro e wx ⟨rfl, hx⟩; obtain ⟨ux, rfl⟩ := after hx; clear hx) | fail)
  have hR : Below (W0).heap.size (W0) ((on ux).alloc (.cells #[.int .u8 (mulT s t), .int .i64 (mvx t X Y + U), .int .i64 (mvy t X Y + V)] 51)) := by repeat first | (with_reducible exact Below.refl _ _) | (with_reducible refine below_on ?_ _) | (with_reducible refine below_alloc ?_ _)
  have b00' : ((on ux).alloc (.cells #[.int .u8 (mulT s t), .int .i64 (mvx t X Y + U), .int .i64 (mvy t X Y + V)] 51)).cell? ⟨w.heap.size, 0, none⟩ = some (.int .u8 s) := (hR.cell (World.block_lt_of_cell? _ _ b00)).trans b00
  have b01' : ((on ux).alloc (.cells #[.int .u8 (mulT s t), .int .i64 (mvx t X Y + U), .int .i64 (mvy t X Y + V)] 51)).cell? ⟨w.heap.size, 1, none⟩ = some (.int .i64 (X)) := (hR.cell (World.block_lt_of_cell? _ _ b01)).trans b01
  have b02' : ((on ux).alloc (.cells #[.int .u8 (mulT s t), .int .i64 (mvx t X Y + U), .int .i64 (mvy t X Y + V)] 51)).cell? ⟨w.heap.size, 2, none⟩ = some (.int .i64 (Y)) := (hR.cell (World.block_lt_of_cell? _ _ b02)).trans b02
  have b10' : ((on ux).alloc (.cells #[.int .u8 (mulT s t), .int .i64 (mvx t X Y + U), .int .i64 (mvy t X Y + V)] 51)).cell? ⟨w.heap.size + 1, 0, none⟩ = some (.int .u8 t) := (hR.cell (World.block_lt_of_cell? _ _ b10)).trans b10
  have b11' : ((on ux).alloc (.cells #[.int .u8 (mulT s t), .int .i64 (mvx t X Y + U), .int .i64 (mvy t X Y + V)] 51)).cell? ⟨w.heap.size + 1, 1, none⟩ = some (.int .i64 (U)) := (hR.cell (World.block_lt_of_cell? _ _ b11)).trans b11
  have b12' : ((on ux).alloc (.cells #[.int .u8 (mulT s t), .int .i64 (mvx t X Y + U), .int .i64 (mvy t X Y + V)] 51)).cell? ⟨w.heap.size + 1, 2, none⟩ = some (.int .i64 (V)) := (hR.cell (World.block_lt_of_cell? _ _ b12)).trans b12
  have B100 : ((on ux).alloc (.cells #[.int .u8 (mulT s t), .int .i64 (mvx t X Y + U), .int .i64 (mvy t X Y + V)] 51)).cell? ⟨(on ux).heap.size, 0, none⟩ = some (.int .u8 (mulT s t)) := by simp [go_sem]
  have B101 : ((on ux).alloc (.cells #[.int .u8 (mulT s t), .int .i64 (mvx t X Y + U), .int .i64 (mvy t X Y + V)] 51)).cell? ⟨(on ux).heap.size, 1, none⟩ = some (.int .i64 (mvx t X Y + U)) := by simp [go_sem]
  have B102 : ((on ux).alloc (.cells #[.int .u8 (mulT s t), .int .i64 (mvx t X Y + U), .int .i64 (mvy t X Y + V)] 51)).cell? ⟨(on ux).heap.size, 2, none⟩ = some (.int .i64 (mvy t X Y + V)) := by simp [go_sem]
  have hB1 : Below w.heap.size w ((on ux).alloc (.cells #[.int .u8 (mulT s t), .int .i64 (mvx t X Y + U), .int .i64 (mvy t X Y + V)] 51)) := by repeat first | (with_reducible exact hB0) | (with_reducible refine below_on ?_ _) | (with_reducible refine below_alloc ?_ _)
  clear hR b00 b01 b02 b10 b11 b12  hB0
  generalize ((on ux).alloc (.cells #[.int .u8 (mulT s t), .int .i64 (mvx t X Y + U), .int .i64 (mvy t X Y + V)] 51)) = W1 at *
  generalize (on ux).heap.size = B1 at *
  clear ux
  go_wp2_with (first | (go_at_call 35; with_reducible refine (mvalid_yes s X Y _ a1 a2 a3 a4 a5 a6 HA.out).mono ?_; rintro e wx ⟨rfl, hx⟩; obtain ⟨ux, rfl⟩ := after hx; clear hx) | (go_at_call 34; with_reducible refine (mcheck_ok s X Y _ a1 a2 a3 a4 a5 a6 HA.out).mono ?_; rintro e wx ⟨rfl, hx⟩; obtain ⟨ux, rfl⟩ := after hx; clear hx) | (go_at_call 35; with_reducible refine (mvalid_yes t U V _ b1 b2 b3 b4 b5 b6 HB.out).mono ?_; rintro e wx ⟨rfl, hx⟩; obtain ⟨ux, rfl⟩ := after hx; clear hx) | fail)
  go_wp2_with (first | (go_at_call 36; with_reducible refine (rthen_any s X Y t U V _ a1 a2 b1 b2 (by omega) (by omega) (by omega) (by omega) (by omega) (by omega) (by omega) (by omega)).mono ?_; rintro e wx ⟨rfl, hx⟩; obtain ⟨ux, rfl⟩ := after hx; clear hx) | fail)
  have hR : Below (W1).heap.size (W1) ((on ux).alloc (.cells #[.int .u8 (mulT s t), .int .i64 (mvx t X Y + U), .int .i64 (mvy t X Y + V)] 51)) := by repeat first | (with_reducible exact Below.refl _ _) | (with_reducible refine below_on ?_ _) | (with_reducible refine below_alloc ?_ _)
  have b00'' : ((on ux).alloc (.cells #[.int .u8 (mulT s t), .int .i64 (mvx t X Y + U), .int .i64 (mvy t X Y + V)] 51)).cell? ⟨w.heap.size, 0, none⟩ = some (.int .u8 s) := (hR.cell (World.block_lt_of_cell? _ _ b00')).trans b00'
  have b01'' : ((on ux).alloc (.cells #[.int .u8 (mulT s t), .int .i64 (mvx t X Y + U), .int .i64 (mvy t X Y + V)] 51)).cell? ⟨w.heap.size, 1, none⟩ = some (.int .i64 (X)) := (hR.cell (World.block_lt_of_cell? _ _ b01')).trans b01'
  have b02'' : ((on ux).alloc (.cells #[.int .u8 (mulT s t), .int .i64 (mvx t X Y + U), .int .i64 (mvy t X Y + V)] 51)).cell? ⟨w.heap.size, 2, none⟩ = some (.int .i64 (Y)) := (hR.cell (World.block_lt_of_cell? _ _ b02')).trans b02'
  have b10'' : ((on ux).alloc (.cells #[.int .u8 (mulT s t), .int .i64 (mvx t X Y + U), .int .i64 (mvy t X Y + V)] 51)).cell? ⟨w.heap.size + 1, 0, none⟩ = some (.int .u8 t) := (hR.cell (World.block_lt_of_cell? _ _ b10')).trans b10'
  have b11'' : ((on ux).alloc (.cells #[.int .u8 (mulT s t), .int .i64 (mvx t X Y + U), .int .i64 (mvy t X Y + V)] 51)).cell? ⟨w.heap.size + 1, 1, none⟩ = some (.int .i64 (U)) := (hR.cell (World.block_lt_of_cell? _ _ b11')).trans b11'
  have b12'' : ((on ux).alloc (.cells #[.int .u8 (mulT s t), .int .i64 (mvx t X Y + U), .int .i64 (mvy t X Y + V)] 51)).cell? ⟨w.heap.size + 1, 2, none⟩ = some (.int .i64 (V)) := (hR.cell (World.block_lt_of_cell? _ _ b12')).trans b12'
  have B100' : ((on ux).alloc (.cells #[.int .u8 (mulT s t), .int .i64 (mvx t X Y + U), .int .i64 (mvy t X Y + V)] 51)).cell? ⟨B1, 0, none⟩ = some (.int .u8 (mulT s t)) := (hR.cell (World.block_lt_of_cell? _ _ B100)).trans B100
  have B101' : ((on ux).alloc (.cells #[.int .u8 (mulT s t), .int .i64 (mvx t X Y + U), .int .i64 (mvy t X Y + V)] 51)).cell? ⟨B1, 1, none⟩ = some (.int .i64 (mvx t X Y + U)) := (hR.cell (World.block_lt_of_cell? _ _ B101)).trans B101
  have B102' : ((on ux).alloc (.cells #[.int .u8 (mulT s t), .int .i64 (mvx t X Y + U), .int .i64 (mvy t X Y + V)] 51)).cell? ⟨B1, 2, none⟩ = some (.int .i64 (mvy t X Y + V)) := (hR.cell (World.block_lt_of_cell? _ _ B102)).trans B102
  have B200 : ((on ux).alloc (.cells #[.int .u8 (mulT s t), .int .i64 (mvx t X Y + U), .int .i64 (mvy t X Y + V)] 51)).cell? ⟨(on ux).heap.size, 0, none⟩ = some (.int .u8 (mulT s t)) := by simp [go_sem]
  have B201 : ((on ux).alloc (.cells #[.int .u8 (mulT s t), .int .i64 (mvx t X Y + U), .int .i64 (mvy t X Y + V)] 51)).cell? ⟨(on ux).heap.size, 1, none⟩ = some (.int .i64 (mvx t X Y + U)) := by simp [go_sem]
  have B202 : ((on ux).alloc (.cells #[.int .u8 (mulT s t), .int .i64 (mvx t X Y + U), .int .i64 (mvy t X Y + V)] 51)).cell? ⟨(on ux).heap.size, 2, none⟩ = some (.int .i64 (mvy t X Y + V)) := by simp [go_sem]
  have hB2 : Below w.heap.size w ((on ux).alloc (.cells #[.int .u8 (mulT s t), .int .i64 (mvx t X Y + U), .int .i64 (mvy t X Y + V)] 51)) := by repeat first | (with_reducible exact hB1) | (with_reducible refine below_on ?_ _) | (with_reducible refine below_alloc ?_ _)
  clear hR b00' b01' b02' b10' b11' b12' B100 B101 B102  hB1
  generalize ((on ux).alloc (.cells #[.int .u8 (mulT s t), .int .i64 (mvx t X Y + U), .int .i64 (mvy t X Y + V)] 51)) = W2 at *
  generalize (on ux).heap.size = B2 at *
  clear ux
  go_wp2_with (first | (go_at_call 35; with_reducible refine (mvalid_yes (mulT s t) (mvx t X Y + U) (mvy t X Y + V) _ HI.out.1 HI.out.2.1 c1 c2 c3 c4 HI.out.2.2).mono ?_; rintro e wx ⟨rfl, hx⟩; obtain ⟨ux, rfl⟩ := after hx; clear hx) | fail)
  refine region_later (by kernel_rfl) (by kernel_rfl) ?_
  repeat (go_big_quiet_step ((first | (go_at_call 33; with_reducible exact Calls.later (FLs _)) | (go_at_call 33; with_reducible exact Calls.later (FLt _)) | (go_at_call 33; with_reducible exact Calls.later (FLm _)) | (go_at_call 28; with_reducible exact Calls.later (lives2_ok _ (hS' _ (by repeat first | (with_reducible exact hB2) | (with_reducible refine below_on ?_ _) | (with_reducible refine below_alloc ?_ _) | (with_reducible refine below_set ?_ (by simp; try omega) _))))))))
  rw [show decide (3 < s) = false from decide_eq_false (by omega), Bool.not_false]
  repeat (go_big_quiet_step ((first | (go_at_call 33; with_reducible exact Calls.later (FLs _)) | (go_at_call 33; with_reducible exact Calls.later (FLt _)) | (go_at_call 33; with_reducible exact Calls.later (FLm _)) | (go_at_call 28; with_reducible exact Calls.later (lives2_ok _ (hS' _ (by repeat first | (with_reducible exact hB2) | (with_reducible refine below_on ?_ _) | (with_reducible refine below_alloc ?_ _) | (with_reducible refine below_set ?_ (by simp; try omega) _))))))))
  refine wpQuiet_nil ?_
  rintro _ ⟨u9, rfl⟩
  go_wp2
  go_ret
  exact ⟨rfl, (by repeat first | (with_reducible exact hB2) | (with_reducible refine below_on ?_ _) | (with_reducible refine below_alloc ?_ _) | (with_reducible refine below_set ?_ (by simp; try omega) _))⟩

set_option maxRecDepth 100000 in
set_option maxHeartbeats 8000000 in
theorem mth_ok10 (s X Y t U V : Int) (w : World) (hS : Std w) (a1 : 0 ≤ s) (a2 : s ≤ 7) (a3 : -16384 ≤ X) (a4 : X ≤ 16384) (a5 : -16384 ≤ Y) (a6 : Y ≤ 16384) (a7 : (X + Y) % 2 = 0) (b1 : 0 ≤ t) (b2 : t ≤ 7) (b3 : -16384 ≤ U) (b4 : U ≤ 16384) (b5 : -16384 ≤ V) (b6 : V ≤ 16384) (b7 : (U + V) % 2 = 0) (c1 : -16384 ≤ mvx t X Y + U) (c2 : mvx t X Y + U ≤ 16384) (c3 : -16384 ≤ mvy t X Y + V) (c4 : mvy t X Y + V ≤ 16384) (hs : 4 ≤ s) (ht : t < 4) (hm : 4 ≤ mulT s t) : Calls Tryd.prog 6 #[mv s X Y, mv t U V] w fun e w' => e = .returned (.bool true) ∧ Below w.heap.size w w' := by
  have hS' : ∀ W, Below w.heap.size w W → Std W := fun W h => std_below hS h
  have FLs : ∀ W, Calls Tryd.prog 33 #[mv s X Y] W fun e w' => e = .returned (.bool true) ∧ Below W.heap.size W w' := fun W => by
    have := flips_ok s X Y W a1 a2 a3 a4 a5 a6 a7
    rwa [decide_eq_true (by omega)] at this
  have FLt : ∀ W, Calls Tryd.prog 33 #[mv t U V] W fun e w' => e = .returned (.bool false) ∧ Below W.heap.size W w' := fun W => by
    have := flips_ok t U V W b1 b2 b3 b4 b5 b6 b7
    rwa [decide_eq_false (by omega)] at this
  have cr := mulT_range s t a1 a2 b1 b2
  have c7 : ((mvx t X Y + U) + (mvy t X Y + V)) % 2 = 0 := by
    have := mv_par t X Y b1 b2
    omega
  have hI : 0 ≤ mulT s t ∧ mulT s t ≤ 7 ∧ ((mvx t X Y + U) + (mvy t X Y + V)) % 2 = 0 := ⟨cr.1, cr.2, c7⟩
  have HI : Hid (0 ≤ mulT s t ∧ mulT s t ≤ 7 ∧ ((mvx t X Y + U) + (mvy t X Y + V)) % 2 = 0) := hI
  clear hI
  clear cr c7
  have FLm : ∀ W, Calls Tryd.prog 33 #[mv (mulT s t) (mvx t X Y + U) (mvy t X Y + V)] W fun e w' => e = .returned (.bool true) ∧ Below W.heap.size W w' := fun W => by
    have := flips_ok (mulT s t) (mvx t X Y + U) (mvy t X Y + V) W HI.out.1 HI.out.2.1 c1 c2 c3 c4 HI.out.2.2
    rwa [decide_eq_true (by omega)] at this
  have h3 : 3 < s := by omega
  clear hm
  have HA : Hid ((X + Y) % 2 = 0) := a7
  clear a7
  have HB : Hid ((U + V) % 2 = 0) := b7
  clear b7
  go_enter Tryd.func6, Tryd.ntmps6
  go_wp2_with fail
  have hB0 : Below w.heap.size w ((w.alloc (.cells #[.int .u8 s, .int .i64 (X), .int .i64 (Y)] 51)).alloc (.cells #[.int .u8 t, .int .i64 (U), .int .i64 (V)] 51)) := (by repeat first | (with_reducible exact Below.refl _ _) | (with_reducible refine below_on ?_ _) | (with_reducible refine below_alloc ?_ _) | (with_reducible refine below_set ?_ (by simp; try omega) _))
  have b00 : ((w.alloc (.cells #[.int .u8 s, .int .i64 (X), .int .i64 (Y)] 51)).alloc (.cells #[.int .u8 t, .int .i64 (U), .int .i64 (V)] 51)).cell? ⟨w.heap.size, 0, none⟩ = some (.int .u8 s) := by simp [go_sem]
  have b01 : ((w.alloc (.cells #[.int .u8 s, .int .i64 (X), .int .i64 (Y)] 51)).alloc (.cells #[.int .u8 t, .int .i64 (U), .int .i64 (V)] 51)).cell? ⟨w.heap.size, 1, none⟩ = some (.int .i64 (X)) := by simp [go_sem]
  have b02 : ((w.alloc (.cells #[.int .u8 s, .int .i64 (X), .int .i64 (Y)] 51)).alloc (.cells #[.int .u8 t, .int .i64 (U), .int .i64 (V)] 51)).cell? ⟨w.heap.size, 2, none⟩ = some (.int .i64 (Y)) := by simp [go_sem]
  have b10 : ((w.alloc (.cells #[.int .u8 s, .int .i64 (X), .int .i64 (Y)] 51)).alloc (.cells #[.int .u8 t, .int .i64 (U), .int .i64 (V)] 51)).cell? ⟨w.heap.size + 1, 0, none⟩ = some (.int .u8 t) := by simp [go_sem]
  have b11 : ((w.alloc (.cells #[.int .u8 s, .int .i64 (X), .int .i64 (Y)] 51)).alloc (.cells #[.int .u8 t, .int .i64 (U), .int .i64 (V)] 51)).cell? ⟨w.heap.size + 1, 1, none⟩ = some (.int .i64 (U)) := by simp [go_sem]
  have b12 : ((w.alloc (.cells #[.int .u8 s, .int .i64 (X), .int .i64 (Y)] 51)).alloc (.cells #[.int .u8 t, .int .i64 (U), .int .i64 (V)] 51)).cell? ⟨w.heap.size + 1, 2, none⟩ = some (.int .i64 (V)) := by simp [go_sem]
  generalize ((w.alloc (.cells #[.int .u8 s, .int .i64 (X), .int .i64 (Y)] 51)).alloc (.cells #[.int .u8 t, .int .i64 (U), .int .i64 (V)] 51)) = W0 at *
  go_wp2_with (first | (go_at_call 30; with_reducible refine (then_ok s X Y t U V _ (hS' _ (by repeat first | (with_reducible exact hB0) | (with_reducible refine below_on ?_ _) | (with_reducible refine below_alloc ?_ _) | (with_reducible refine below_set ?_ (by simp; try omega) _))).turns a1 a2 a3 a4 a5 a6 HA.out b1 b2 b3 b4 b5 b6 HB.out c1 c2 c3 c4).mono ?_; rintro e wx ⟨rfl, hx⟩; obtain ⟨ux, rfl⟩ := after hx; clear hx) | fail)
  have hR : Below (W0).heap.size (W0) ((on ux).alloc (.cells #[.int .u8 (mulT s t), .int .i64 (mvx t X Y + U), .int .i64 (mvy t X Y + V)] 51)) := by repeat first | (with_reducible exact Below.refl _ _) | (with_reducible refine below_on ?_ _) | (with_reducible refine below_alloc ?_ _)
  have b00' : ((on ux).alloc (.cells #[.int .u8 (mulT s t), .int .i64 (mvx t X Y + U), .int .i64 (mvy t X Y + V)] 51)).cell? ⟨w.heap.size, 0, none⟩ = some (.int .u8 s) := (hR.cell (World.block_lt_of_cell? _ _ b00)).trans b00
  have b01' : ((on ux).alloc (.cells #[.int .u8 (mulT s t), .int .i64 (mvx t X Y + U), .int .i64 (mvy t X Y + V)] 51)).cell? ⟨w.heap.size, 1, none⟩ = some (.int .i64 (X)) := (hR.cell (World.block_lt_of_cell? _ _ b01)).trans b01
  have b02' : ((on ux).alloc (.cells #[.int .u8 (mulT s t), .int .i64 (mvx t X Y + U), .int .i64 (mvy t X Y + V)] 51)).cell? ⟨w.heap.size, 2, none⟩ = some (.int .i64 (Y)) := (hR.cell (World.block_lt_of_cell? _ _ b02)).trans b02
  have b10' : ((on ux).alloc (.cells #[.int .u8 (mulT s t), .int .i64 (mvx t X Y + U), .int .i64 (mvy t X Y + V)] 51)).cell? ⟨w.heap.size + 1, 0, none⟩ = some (.int .u8 t) := (hR.cell (World.block_lt_of_cell? _ _ b10)).trans b10
  have b11' : ((on ux).alloc (.cells #[.int .u8 (mulT s t), .int .i64 (mvx t X Y + U), .int .i64 (mvy t X Y + V)] 51)).cell? ⟨w.heap.size + 1, 1, none⟩ = some (.int .i64 (U)) := (hR.cell (World.block_lt_of_cell? _ _ b11)).trans b11
  have b12' : ((on ux).alloc (.cells #[.int .u8 (mulT s t), .int .i64 (mvx t X Y + U), .int .i64 (mvy t X Y + V)] 51)).cell? ⟨w.heap.size + 1, 2, none⟩ = some (.int .i64 (V)) := (hR.cell (World.block_lt_of_cell? _ _ b12)).trans b12
  have B100 : ((on ux).alloc (.cells #[.int .u8 (mulT s t), .int .i64 (mvx t X Y + U), .int .i64 (mvy t X Y + V)] 51)).cell? ⟨(on ux).heap.size, 0, none⟩ = some (.int .u8 (mulT s t)) := by simp [go_sem]
  have B101 : ((on ux).alloc (.cells #[.int .u8 (mulT s t), .int .i64 (mvx t X Y + U), .int .i64 (mvy t X Y + V)] 51)).cell? ⟨(on ux).heap.size, 1, none⟩ = some (.int .i64 (mvx t X Y + U)) := by simp [go_sem]
  have B102 : ((on ux).alloc (.cells #[.int .u8 (mulT s t), .int .i64 (mvx t X Y + U), .int .i64 (mvy t X Y + V)] 51)).cell? ⟨(on ux).heap.size, 2, none⟩ = some (.int .i64 (mvy t X Y + V)) := by simp [go_sem]
  have hB1 : Below w.heap.size w ((on ux).alloc (.cells #[.int .u8 (mulT s t), .int .i64 (mvx t X Y + U), .int .i64 (mvy t X Y + V)] 51)) := by repeat first | (with_reducible exact hB0) | (with_reducible refine below_on ?_ _) | (with_reducible refine below_alloc ?_ _)
  clear hR b00 b01 b02 b10 b11 b12  hB0
  generalize ((on ux).alloc (.cells #[.int .u8 (mulT s t), .int .i64 (mvx t X Y + U), .int .i64 (mvy t X Y + V)] 51)) = W1 at *
  generalize (on ux).heap.size = B1 at *
  clear ux
  go_wp2_with (first | (go_at_call 35; with_reducible refine (mvalid_yes s X Y _ a1 a2 a3 a4 a5 a6 HA.out).mono ?_; rintro e wx ⟨rfl, hx⟩; obtain ⟨ux, rfl⟩ := after hx; clear hx) | (go_at_call 34; with_reducible refine (mcheck_ok s X Y _ a1 a2 a3 a4 a5 a6 HA.out).mono ?_; rintro e wx ⟨rfl, hx⟩; obtain ⟨ux, rfl⟩ := after hx; clear hx) | (go_at_call 35; with_reducible refine (mvalid_yes t U V _ b1 b2 b3 b4 b5 b6 HB.out).mono ?_; rintro e wx ⟨rfl, hx⟩; obtain ⟨ux, rfl⟩ := after hx; clear hx) | fail)
  go_wp2_with (first | (go_at_call 36; with_reducible refine (rthen_any s X Y t U V _ a1 a2 b1 b2 (by omega) (by omega) (by omega) (by omega) (by omega) (by omega) (by omega) (by omega)).mono ?_; rintro e wx ⟨rfl, hx⟩; obtain ⟨ux, rfl⟩ := after hx; clear hx) | fail)
  have hR : Below (W1).heap.size (W1) ((on ux).alloc (.cells #[.int .u8 (mulT s t), .int .i64 (mvx t X Y + U), .int .i64 (mvy t X Y + V)] 51)) := by repeat first | (with_reducible exact Below.refl _ _) | (with_reducible refine below_on ?_ _) | (with_reducible refine below_alloc ?_ _)
  have b00'' : ((on ux).alloc (.cells #[.int .u8 (mulT s t), .int .i64 (mvx t X Y + U), .int .i64 (mvy t X Y + V)] 51)).cell? ⟨w.heap.size, 0, none⟩ = some (.int .u8 s) := (hR.cell (World.block_lt_of_cell? _ _ b00')).trans b00'
  have b01'' : ((on ux).alloc (.cells #[.int .u8 (mulT s t), .int .i64 (mvx t X Y + U), .int .i64 (mvy t X Y + V)] 51)).cell? ⟨w.heap.size, 1, none⟩ = some (.int .i64 (X)) := (hR.cell (World.block_lt_of_cell? _ _ b01')).trans b01'
  have b02'' : ((on ux).alloc (.cells #[.int .u8 (mulT s t), .int .i64 (mvx t X Y + U), .int .i64 (mvy t X Y + V)] 51)).cell? ⟨w.heap.size, 2, none⟩ = some (.int .i64 (Y)) := (hR.cell (World.block_lt_of_cell? _ _ b02')).trans b02'
  have b10'' : ((on ux).alloc (.cells #[.int .u8 (mulT s t), .int .i64 (mvx t X Y + U), .int .i64 (mvy t X Y + V)] 51)).cell? ⟨w.heap.size + 1, 0, none⟩ = some (.int .u8 t) := (hR.cell (World.block_lt_of_cell? _ _ b10')).trans b10'
  have b11'' : ((on ux).alloc (.cells #[.int .u8 (mulT s t), .int .i64 (mvx t X Y + U), .int .i64 (mvy t X Y + V)] 51)).cell? ⟨w.heap.size + 1, 1, none⟩ = some (.int .i64 (U)) := (hR.cell (World.block_lt_of_cell? _ _ b11')).trans b11'
  have b12'' : ((on ux).alloc (.cells #[.int .u8 (mulT s t), .int .i64 (mvx t X Y + U), .int .i64 (mvy t X Y + V)] 51)).cell? ⟨w.heap.size + 1, 2, none⟩ = some (.int .i64 (V)) := (hR.cell (World.block_lt_of_cell? _ _ b12')).trans b12'
  have B100' : ((on ux).alloc (.cells #[.int .u8 (mulT s t), .int .i64 (mvx t X Y + U), .int .i64 (mvy t X Y + V)] 51)).cell? ⟨B1, 0, none⟩ = some (.int .u8 (mulT s t)) := (hR.cell (World.block_lt_of_cell? _ _ B100)).trans B100
  have B101' : ((on ux).alloc (.cells #[.int .u8 (mulT s t), .int .i64 (mvx t X Y + U), .int .i64 (mvy t X Y + V)] 51)).cell? ⟨B1, 1, none⟩ = some (.int .i64 (mvx t X Y + U)) := (hR.cell (World.block_lt_of_cell? _ _ B101)).trans B101
  have B102' : ((on ux).alloc (.cells #[.int .u8 (mulT s t), .int .i64 (mvx t X Y + U), .int .i64 (mvy t X Y + V)] 51)).cell? ⟨B1, 2, none⟩ = some (.int .i64 (mvy t X Y + V)) := (hR.cell (World.block_lt_of_cell? _ _ B102)).trans B102
  have B200 : ((on ux).alloc (.cells #[.int .u8 (mulT s t), .int .i64 (mvx t X Y + U), .int .i64 (mvy t X Y + V)] 51)).cell? ⟨(on ux).heap.size, 0, none⟩ = some (.int .u8 (mulT s t)) := by simp [go_sem]
  have B201 : ((on ux).alloc (.cells #[.int .u8 (mulT s t), .int .i64 (mvx t X Y + U), .int .i64 (mvy t X Y + V)] 51)).cell? ⟨(on ux).heap.size, 1, none⟩ = some (.int .i64 (mvx t X Y + U)) := by simp [go_sem]
  have B202 : ((on ux).alloc (.cells #[.int .u8 (mulT s t), .int .i64 (mvx t X Y + U), .int .i64 (mvy t X Y + V)] 51)).cell? ⟨(on ux).heap.size, 2, none⟩ = some (.int .i64 (mvy t X Y + V)) := by simp [go_sem]
  have hB2 : Below w.heap.size w ((on ux).alloc (.cells #[.int .u8 (mulT s t), .int .i64 (mvx t X Y + U), .int .i64 (mvy t X Y + V)] 51)) := by repeat first | (with_reducible exact hB1) | (with_reducible refine below_on ?_ _) | (with_reducible refine below_alloc ?_ _)
  clear hR b00' b01' b02' b10' b11' b12' B100 B101 B102  hB1
  generalize ((on ux).alloc (.cells #[.int .u8 (mulT s t), .int .i64 (mvx t X Y + U), .int .i64 (mvy t X Y + V)] 51)) = W2 at *
  generalize (on ux).heap.size = B2 at *
  clear ux
  go_wp2_with (first | (go_at_call 35; with_reducible refine (mvalid_yes (mulT s t) (mvx t X Y + U) (mvy t X Y + V) _ HI.out.1 HI.out.2.1 c1 c2 c3 c4 HI.out.2.2).mono ?_; rintro e wx ⟨rfl, hx⟩; obtain ⟨ux, rfl⟩ := after hx; clear hx) | fail)
  refine region_later (by kernel_rfl) (by kernel_rfl) ?_
  repeat (go_big_quiet_step ((first | (go_at_call 33; with_reducible exact Calls.later (FLs _)) | (go_at_call 33; with_reducible exact Calls.later (FLt _)) | (go_at_call 33; with_reducible exact Calls.later (FLm _)) | (go_at_call 28; with_reducible exact Calls.later (lives2_ok _ (hS' _ (by repeat first | (with_reducible exact hB2) | (with_reducible refine below_on ?_ _) | (with_reducible refine below_alloc ?_ _) | (with_reducible refine below_set ?_ (by simp; try omega) _))))))))
  refine wpQuiet_nil ?_
  rintro _ ⟨u9, rfl⟩
  go_wp2
  go_ret
  exact ⟨rfl, (by repeat first | (with_reducible exact hB2) | (with_reducible refine below_on ?_ _) | (with_reducible refine below_alloc ?_ _) | (with_reducible refine below_set ?_ (by simp; try omega) _))⟩

set_option maxRecDepth 100000 in
set_option maxHeartbeats 8000000 in
theorem mth_ok11 (s X Y t U V : Int) (w : World) (hS : Std w) (a1 : 0 ≤ s) (a2 : s ≤ 7) (a3 : -16384 ≤ X) (a4 : X ≤ 16384) (a5 : -16384 ≤ Y) (a6 : Y ≤ 16384) (a7 : (X + Y) % 2 = 0) (b1 : 0 ≤ t) (b2 : t ≤ 7) (b3 : -16384 ≤ U) (b4 : U ≤ 16384) (b5 : -16384 ≤ V) (b6 : V ≤ 16384) (b7 : (U + V) % 2 = 0) (c1 : -16384 ≤ mvx t X Y + U) (c2 : mvx t X Y + U ≤ 16384) (c3 : -16384 ≤ mvy t X Y + V) (c4 : mvy t X Y + V ≤ 16384) (hs : 4 ≤ s) (ht : 4 ≤ t) (hm : mulT s t < 4) : Calls Tryd.prog 6 #[mv s X Y, mv t U V] w fun e w' => e = .returned (.bool true) ∧ Below w.heap.size w w' := by
  have hS' : ∀ W, Below w.heap.size w W → Std W := fun W h => std_below hS h
  have FLs : ∀ W, Calls Tryd.prog 33 #[mv s X Y] W fun e w' => e = .returned (.bool true) ∧ Below W.heap.size W w' := fun W => by
    have := flips_ok s X Y W a1 a2 a3 a4 a5 a6 a7
    rwa [decide_eq_true (by omega)] at this
  have FLt : ∀ W, Calls Tryd.prog 33 #[mv t U V] W fun e w' => e = .returned (.bool true) ∧ Below W.heap.size W w' := fun W => by
    have := flips_ok t U V W b1 b2 b3 b4 b5 b6 b7
    rwa [decide_eq_true (by omega)] at this
  have cr := mulT_range s t a1 a2 b1 b2
  have c7 : ((mvx t X Y + U) + (mvy t X Y + V)) % 2 = 0 := by
    have := mv_par t X Y b1 b2
    omega
  have hI : 0 ≤ mulT s t ∧ mulT s t ≤ 7 ∧ ((mvx t X Y + U) + (mvy t X Y + V)) % 2 = 0 := ⟨cr.1, cr.2, c7⟩
  have HI : Hid (0 ≤ mulT s t ∧ mulT s t ≤ 7 ∧ ((mvx t X Y + U) + (mvy t X Y + V)) % 2 = 0) := hI
  clear hI
  clear cr c7
  have FLm : ∀ W, Calls Tryd.prog 33 #[mv (mulT s t) (mvx t X Y + U) (mvy t X Y + V)] W fun e w' => e = .returned (.bool false) ∧ Below W.heap.size W w' := fun W => by
    have := flips_ok (mulT s t) (mvx t X Y + U) (mvy t X Y + V) W HI.out.1 HI.out.2.1 c1 c2 c3 c4 HI.out.2.2
    rwa [decide_eq_false (by omega)] at this
  have h3 : 3 < s := by omega
  clear hm
  have HA : Hid ((X + Y) % 2 = 0) := a7
  clear a7
  have HB : Hid ((U + V) % 2 = 0) := b7
  clear b7
  go_enter Tryd.func6, Tryd.ntmps6
  go_wp2_with fail
  have hB0 : Below w.heap.size w ((w.alloc (.cells #[.int .u8 s, .int .i64 (X), .int .i64 (Y)] 51)).alloc (.cells #[.int .u8 t, .int .i64 (U), .int .i64 (V)] 51)) := (by repeat first | (with_reducible exact Below.refl _ _) | (with_reducible refine below_on ?_ _) | (with_reducible refine below_alloc ?_ _) | (with_reducible refine below_set ?_ (by simp; try omega) _))
  have b00 : ((w.alloc (.cells #[.int .u8 s, .int .i64 (X), .int .i64 (Y)] 51)).alloc (.cells #[.int .u8 t, .int .i64 (U), .int .i64 (V)] 51)).cell? ⟨w.heap.size, 0, none⟩ = some (.int .u8 s) := by simp [go_sem]
  have b01 : ((w.alloc (.cells #[.int .u8 s, .int .i64 (X), .int .i64 (Y)] 51)).alloc (.cells #[.int .u8 t, .int .i64 (U), .int .i64 (V)] 51)).cell? ⟨w.heap.size, 1, none⟩ = some (.int .i64 (X)) := by simp [go_sem]
  have b02 : ((w.alloc (.cells #[.int .u8 s, .int .i64 (X), .int .i64 (Y)] 51)).alloc (.cells #[.int .u8 t, .int .i64 (U), .int .i64 (V)] 51)).cell? ⟨w.heap.size, 2, none⟩ = some (.int .i64 (Y)) := by simp [go_sem]
  have b10 : ((w.alloc (.cells #[.int .u8 s, .int .i64 (X), .int .i64 (Y)] 51)).alloc (.cells #[.int .u8 t, .int .i64 (U), .int .i64 (V)] 51)).cell? ⟨w.heap.size + 1, 0, none⟩ = some (.int .u8 t) := by simp [go_sem]
  have b11 : ((w.alloc (.cells #[.int .u8 s, .int .i64 (X), .int .i64 (Y)] 51)).alloc (.cells #[.int .u8 t, .int .i64 (U), .int .i64 (V)] 51)).cell? ⟨w.heap.size + 1, 1, none⟩ = some (.int .i64 (U)) := by simp [go_sem]
  have b12 : ((w.alloc (.cells #[.int .u8 s, .int .i64 (X), .int .i64 (Y)] 51)).alloc (.cells #[.int .u8 t, .int .i64 (U), .int .i64 (V)] 51)).cell? ⟨w.heap.size + 1, 2, none⟩ = some (.int .i64 (V)) := by simp [go_sem]
  generalize ((w.alloc (.cells #[.int .u8 s, .int .i64 (X), .int .i64 (Y)] 51)).alloc (.cells #[.int .u8 t, .int .i64 (U), .int .i64 (V)] 51)) = W0 at *
  go_wp2_with (first | (go_at_call 30; with_reducible refine (then_ok s X Y t U V _ (hS' _ (by repeat first | (with_reducible exact hB0) | (with_reducible refine below_on ?_ _) | (with_reducible refine below_alloc ?_ _) | (with_reducible refine below_set ?_ (by simp; try omega) _))).turns a1 a2 a3 a4 a5 a6 HA.out b1 b2 b3 b4 b5 b6 HB.out c1 c2 c3 c4).mono ?_; rintro e wx ⟨rfl, hx⟩; obtain ⟨ux, rfl⟩ := after hx; clear hx) | fail)
  have hR : Below (W0).heap.size (W0) ((on ux).alloc (.cells #[.int .u8 (mulT s t), .int .i64 (mvx t X Y + U), .int .i64 (mvy t X Y + V)] 51)) := by repeat first | (with_reducible exact Below.refl _ _) | (with_reducible refine below_on ?_ _) | (with_reducible refine below_alloc ?_ _)
  have b00' : ((on ux).alloc (.cells #[.int .u8 (mulT s t), .int .i64 (mvx t X Y + U), .int .i64 (mvy t X Y + V)] 51)).cell? ⟨w.heap.size, 0, none⟩ = some (.int .u8 s) := (hR.cell (World.block_lt_of_cell? _ _ b00)).trans b00
  have b01' : ((on ux).alloc (.cells #[.int .u8 (mulT s t), .int .i64 (mvx t X Y + U), .int .i64 (mvy t X Y + V)] 51)).cell? ⟨w.heap.size, 1, none⟩ = some (.int .i64 (X)) := (hR.cell (World.block_lt_of_cell? _ _ b01)).trans b01
  have b02' : ((on ux).alloc (.cells #[.int .u8 (mulT s t), .int .i64 (mvx t X Y + U), .int .i64 (mvy t X Y + V)] 51)).cell? ⟨w.heap.size, 2, none⟩ = some (.int .i64 (Y)) := (hR.cell (World.block_lt_of_cell? _ _ b02)).trans b02
  have b10' : ((on ux).alloc (.cells #[.int .u8 (mulT s t), .int .i64 (mvx t X Y + U), .int .i64 (mvy t X Y + V)] 51)).cell? ⟨w.heap.size + 1, 0, none⟩ = some (.int .u8 t) := (hR.cell (World.block_lt_of_cell? _ _ b10)).trans b10
  have b11' : ((on ux).alloc (.cells #[.int .u8 (mulT s t), .int .i64 (mvx t X Y + U), .int .i64 (mvy t X Y + V)] 51)).cell? ⟨w.heap.size + 1, 1, none⟩ = some (.int .i64 (U)) := (hR.cell (World.block_lt_of_cell? _ _ b11)).trans b11
  have b12' : ((on ux).alloc (.cells #[.int .u8 (mulT s t), .int .i64 (mvx t X Y + U), .int .i64 (mvy t X Y + V)] 51)).cell? ⟨w.heap.size + 1, 2, none⟩ = some (.int .i64 (V)) := (hR.cell (World.block_lt_of_cell? _ _ b12)).trans b12
  have B100 : ((on ux).alloc (.cells #[.int .u8 (mulT s t), .int .i64 (mvx t X Y + U), .int .i64 (mvy t X Y + V)] 51)).cell? ⟨(on ux).heap.size, 0, none⟩ = some (.int .u8 (mulT s t)) := by simp [go_sem]
  have B101 : ((on ux).alloc (.cells #[.int .u8 (mulT s t), .int .i64 (mvx t X Y + U), .int .i64 (mvy t X Y + V)] 51)).cell? ⟨(on ux).heap.size, 1, none⟩ = some (.int .i64 (mvx t X Y + U)) := by simp [go_sem]
  have B102 : ((on ux).alloc (.cells #[.int .u8 (mulT s t), .int .i64 (mvx t X Y + U), .int .i64 (mvy t X Y + V)] 51)).cell? ⟨(on ux).heap.size, 2, none⟩ = some (.int .i64 (mvy t X Y + V)) := by simp [go_sem]
  have hB1 : Below w.heap.size w ((on ux).alloc (.cells #[.int .u8 (mulT s t), .int .i64 (mvx t X Y + U), .int .i64 (mvy t X Y + V)] 51)) := by repeat first | (with_reducible exact hB0) | (with_reducible refine below_on ?_ _) | (with_reducible refine below_alloc ?_ _)
  clear hR b00 b01 b02 b10 b11 b12  hB0
  generalize ((on ux).alloc (.cells #[.int .u8 (mulT s t), .int .i64 (mvx t X Y + U), .int .i64 (mvy t X Y + V)] 51)) = W1 at *
  generalize (on ux).heap.size = B1 at *
  clear ux
  go_wp2_with (first | (go_at_call 35; with_reducible refine (mvalid_yes s X Y _ a1 a2 a3 a4 a5 a6 HA.out).mono ?_; rintro e wx ⟨rfl, hx⟩; obtain ⟨ux, rfl⟩ := after hx; clear hx) | (go_at_call 34; with_reducible refine (mcheck_ok s X Y _ a1 a2 a3 a4 a5 a6 HA.out).mono ?_; rintro e wx ⟨rfl, hx⟩; obtain ⟨ux, rfl⟩ := after hx; clear hx) | (go_at_call 35; with_reducible refine (mvalid_yes t U V _ b1 b2 b3 b4 b5 b6 HB.out).mono ?_; rintro e wx ⟨rfl, hx⟩; obtain ⟨ux, rfl⟩ := after hx; clear hx) | fail)
  go_wp2_with (first | (go_at_call 36; with_reducible refine (rthen_any s X Y t U V _ a1 a2 b1 b2 (by omega) (by omega) (by omega) (by omega) (by omega) (by omega) (by omega) (by omega)).mono ?_; rintro e wx ⟨rfl, hx⟩; obtain ⟨ux, rfl⟩ := after hx; clear hx) | fail)
  have hR : Below (W1).heap.size (W1) ((on ux).alloc (.cells #[.int .u8 (mulT s t), .int .i64 (mvx t X Y + U), .int .i64 (mvy t X Y + V)] 51)) := by repeat first | (with_reducible exact Below.refl _ _) | (with_reducible refine below_on ?_ _) | (with_reducible refine below_alloc ?_ _)
  have b00'' : ((on ux).alloc (.cells #[.int .u8 (mulT s t), .int .i64 (mvx t X Y + U), .int .i64 (mvy t X Y + V)] 51)).cell? ⟨w.heap.size, 0, none⟩ = some (.int .u8 s) := (hR.cell (World.block_lt_of_cell? _ _ b00')).trans b00'
  have b01'' : ((on ux).alloc (.cells #[.int .u8 (mulT s t), .int .i64 (mvx t X Y + U), .int .i64 (mvy t X Y + V)] 51)).cell? ⟨w.heap.size, 1, none⟩ = some (.int .i64 (X)) := (hR.cell (World.block_lt_of_cell? _ _ b01')).trans b01'
  have b02'' : ((on ux).alloc (.cells #[.int .u8 (mulT s t), .int .i64 (mvx t X Y + U), .int .i64 (mvy t X Y + V)] 51)).cell? ⟨w.heap.size, 2, none⟩ = some (.int .i64 (Y)) := (hR.cell (World.block_lt_of_cell? _ _ b02')).trans b02'
  have b10'' : ((on ux).alloc (.cells #[.int .u8 (mulT s t), .int .i64 (mvx t X Y + U), .int .i64 (mvy t X Y + V)] 51)).cell? ⟨w.heap.size + 1, 0, none⟩ = some (.int .u8 t) := (hR.cell (World.block_lt_of_cell? _ _ b10')).trans b10'
  have b11'' : ((on ux).alloc (.cells #[.int .u8 (mulT s t), .int .i64 (mvx t X Y + U), .int .i64 (mvy t X Y + V)] 51)).cell? ⟨w.heap.size + 1, 1, none⟩ = some (.int .i64 (U)) := (hR.cell (World.block_lt_of_cell? _ _ b11')).trans b11'
  have b12'' : ((on ux).alloc (.cells #[.int .u8 (mulT s t), .int .i64 (mvx t X Y + U), .int .i64 (mvy t X Y + V)] 51)).cell? ⟨w.heap.size + 1, 2, none⟩ = some (.int .i64 (V)) := (hR.cell (World.block_lt_of_cell? _ _ b12')).trans b12'
  have B100' : ((on ux).alloc (.cells #[.int .u8 (mulT s t), .int .i64 (mvx t X Y + U), .int .i64 (mvy t X Y + V)] 51)).cell? ⟨B1, 0, none⟩ = some (.int .u8 (mulT s t)) := (hR.cell (World.block_lt_of_cell? _ _ B100)).trans B100
  have B101' : ((on ux).alloc (.cells #[.int .u8 (mulT s t), .int .i64 (mvx t X Y + U), .int .i64 (mvy t X Y + V)] 51)).cell? ⟨B1, 1, none⟩ = some (.int .i64 (mvx t X Y + U)) := (hR.cell (World.block_lt_of_cell? _ _ B101)).trans B101
  have B102' : ((on ux).alloc (.cells #[.int .u8 (mulT s t), .int .i64 (mvx t X Y + U), .int .i64 (mvy t X Y + V)] 51)).cell? ⟨B1, 2, none⟩ = some (.int .i64 (mvy t X Y + V)) := (hR.cell (World.block_lt_of_cell? _ _ B102)).trans B102
  have B200 : ((on ux).alloc (.cells #[.int .u8 (mulT s t), .int .i64 (mvx t X Y + U), .int .i64 (mvy t X Y + V)] 51)).cell? ⟨(on ux).heap.size, 0, none⟩ = some (.int .u8 (mulT s t)) := by simp [go_sem]
  have B201 : ((on ux).alloc (.cells #[.int .u8 (mulT s t), .int .i64 (mvx t X Y + U), .int .i64 (mvy t X Y + V)] 51)).cell? ⟨(on ux).heap.size, 1, none⟩ = some (.int .i64 (mvx t X Y + U)) := by simp [go_sem]
  have B202 : ((on ux).alloc (.cells #[.int .u8 (mulT s t), .int .i64 (mvx t X Y + U), .int .i64 (mvy t X Y + V)] 51)).cell? ⟨(on ux).heap.size, 2, none⟩ = some (.int .i64 (mvy t X Y + V)) := by simp [go_sem]
  have hB2 : Below w.heap.size w ((on ux).alloc (.cells #[.int .u8 (mulT s t), .int .i64 (mvx t X Y + U), .int .i64 (mvy t X Y + V)] 51)) := by repeat first | (with_reducible exact hB1) | (with_reducible refine below_on ?_ _) | (with_reducible refine below_alloc ?_ _)
  clear hR b00' b01' b02' b10' b11' b12' B100 B101 B102  hB1
  generalize ((on ux).alloc (.cells #[.int .u8 (mulT s t), .int .i64 (mvx t X Y + U), .int .i64 (mvy t X Y + V)] 51)) = W2 at *
  generalize (on ux).heap.size = B2 at *
  clear ux
  go_wp2_with (first | (go_at_call 35; with_reducible refine (mvalid_yes (mulT s t) (mvx t X Y + U) (mvy t X Y + V) _ HI.out.1 HI.out.2.1 c1 c2 c3 c4 HI.out.2.2).mono ?_; rintro e wx ⟨rfl, hx⟩; obtain ⟨ux, rfl⟩ := after hx; clear hx) | fail)
  refine region_later (by kernel_rfl) (by kernel_rfl) ?_
  repeat (go_big_quiet_step ((first | (go_at_call 33; with_reducible exact Calls.later (FLs _)) | (go_at_call 33; with_reducible exact Calls.later (FLt _)) | (go_at_call 33; with_reducible exact Calls.later (FLm _)) | (go_at_call 28; with_reducible exact Calls.later (lives2_ok _ (hS' _ (by repeat first | (with_reducible exact hB2) | (with_reducible refine below_on ?_ _) | (with_reducible refine below_alloc ?_ _) | (with_reducible refine below_set ?_ (by simp; try omega) _))))))))
  refine wpQuiet_nil ?_
  rintro _ ⟨u9, rfl⟩
  go_wp2
  go_ret
  exact ⟨rfl, (by repeat first | (with_reducible exact hB2) | (with_reducible refine below_on ?_ _) | (with_reducible refine below_alloc ?_ _) | (with_reducible refine below_set ?_ (by simp; try omega) _))⟩

theorem mulT_flip (s t : Int) (a1 : 0 ≤ s) (a2 : s ≤ 7) (b1 : 0 ≤ t) (b2 : t ≤ 7) : (4 ≤ mulT s t) ↔ ((4 ≤ s) ≠ (4 ≤ t)) := by
  obtain rfl | rfl | rfl | rfl | rfl | rfl | rfl | rfl : s = 0 ∨ s = 1 ∨ s = 2 ∨ s = 3 ∨ s = 4 ∨ s = 5 ∨ s = 6 ∨ s = 7 := by omega
  · rcases (by omega : t = 0 ∨ t = 1 ∨ t = 2 ∨ t = 3 ∨ t = 4 ∨ t = 5 ∨ t = 6 ∨ t = 7) with rfl | rfl | rfl | rfl | rfl | rfl | rfl | rfl <;> decide
  · rcases (by omega : t = 0 ∨ t = 1 ∨ t = 2 ∨ t = 3 ∨ t = 4 ∨ t = 5 ∨ t = 6 ∨ t = 7) with rfl | rfl | rfl | rfl | rfl | rfl | rfl | rfl <;> decide
  · rcases (by omega : t = 0 ∨ t = 1 ∨ t = 2 ∨ t = 3 ∨ t = 4 ∨ t = 5 ∨ t = 6 ∨ t = 7) with rfl | rfl | rfl | rfl | rfl | rfl | rfl | rfl <;> decide
  · rcases (by omega : t = 0 ∨ t = 1 ∨ t = 2 ∨ t = 3 ∨ t = 4 ∨ t = 5 ∨ t = 6 ∨ t = 7) with rfl | rfl | rfl | rfl | rfl | rfl | rfl | rfl <;> decide
  · rcases (by omega : t = 0 ∨ t = 1 ∨ t = 2 ∨ t = 3 ∨ t = 4 ∨ t = 5 ∨ t = 6 ∨ t = 7) with rfl | rfl | rfl | rfl | rfl | rfl | rfl | rfl <;> decide
  · rcases (by omega : t = 0 ∨ t = 1 ∨ t = 2 ∨ t = 3 ∨ t = 4 ∨ t = 5 ∨ t = 6 ∨ t = 7) with rfl | rfl | rfl | rfl | rfl | rfl | rfl | rfl <;> decide
  · rcases (by omega : t = 0 ∨ t = 1 ∨ t = 2 ∨ t = 3 ∨ t = 4 ∨ t = 5 ∨ t = 6 ∨ t = 7) with rfl | rfl | rfl | rfl | rfl | rfl | rfl | rfl <;> decide
  · rcases (by omega : t = 0 ∨ t = 1 ∨ t = 2 ∨ t = 3 ∨ t = 4 ∨ t = 5 ∨ t = 6 ∨ t = 7) with rfl | rfl | rfl | rfl | rfl | rfl | rfl | rfl <;> decide

theorem movesthen_law (s X Y t U V : Int) (w : World) (hS : Std w) (a1 : 0 ≤ s) (b1 : 0 ≤ t) : Calls Tryd.prog 6 #[mv s X Y, mv t U V] w fun e w' => e = .returned (.bool true) ∧ Below w.heap.size w w' := by
  by_cases a : s ≤ 7 ∧ -16384 ≤ X ∧ X ≤ 16384 ∧ -16384 ≤ Y ∧ Y ≤ 16384 ∧ (X + Y) % 2 = 0
  · obtain ⟨a2, a3, a4, a5, a6, a7⟩ := a
    by_cases b : t ≤ 7 ∧ -16384 ≤ U ∧ U ≤ 16384 ∧ -16384 ≤ V ∧ V ≤ 16384 ∧ (U + V) % 2 = 0
    · obtain ⟨b2, b3, b4, b5, b6, b7⟩ := b
      by_cases c : -16384 ≤ mvx t X Y + U ∧ mvx t X Y + U ≤ 16384 ∧ -16384 ≤ mvy t X Y + V ∧ mvy t X Y + V ≤ 16384
      · obtain ⟨c1, c2, c3, c4⟩ := c
        have hf := mulT_flip s t a1 a2 b1 b2
        by_cases hs : 4 ≤ s
        · by_cases ht : 4 ≤ t
          · exact mth_ok11 s X Y t U V w hS a1 a2 a3 a4 a5 a6 a7 b1 b2 b3 b4 b5 b6 b7 c1 c2 c3 c4 hs ht (by simp [hs, ht] at hf; omega)
          · exact mth_ok10 s X Y t U V w hS a1 a2 a3 a4 a5 a6 a7 b1 b2 b3 b4 b5 b6 b7 c1 c2 c3 c4 hs (by omega) (by simp [hs, ht] at hf; omega)
        · by_cases ht : 4 ≤ t
          · exact mth_ok01 s X Y t U V w hS a1 a2 a3 a4 a5 a6 a7 b1 b2 b3 b4 b5 b6 b7 c1 c2 c3 c4 (by omega) ht (by simp [hs, ht] at hf; omega)
          · exact mth_ok00 s X Y t U V w hS a1 a2 a3 a4 a5 a6 a7 b1 b2 b3 b4 b5 b6 b7 c1 c2 c3 c4 (by omega) (by omega) (by simp [hs, ht] at hf; omega)
      · exact mth_far s X Y t U V w hS a1 a2 a3 a4 a5 a6 a7 b1 b2 b3 b4 b5 b6 b7 (by omega)
    · exact mth_bad2 s X Y t U V w hS a1 a2 a3 a4 a5 a6 a7 (by omega)
  · exact mth_bad1 s X Y t U V w hS (by omega)

end Go.Proofs.YtbcmfenekpllhaaDoor
