/-
  Says: CellsLine answers true at every cell and every edge, where the tables stand as they were laid.
-/
import Derived.Test.YtgkiliijefkcaaaDoorCv1
import Derived.Test.YtgkiliijefkcaaaDoorCr5
import Derived.Test.YtgkiliijefkcaaaDoorCf3
set_option linter.unusedVariables false
set_option linter.unusedSimpArgs false
namespace Go.Proofs.YtgkiliijefkcaaaDoor
open Go Go.RowKit

attribute [local go_sem] World.cell?_alloc_some frozen?_alloc_cells fz0 fz1 fz2 fz3 fz4 fz5
attribute [local go_sem] eql_pt3

set_option maxRecDepth 100000 in
set_option maxHeartbeats 8000000 in
theorem clineL_bad (x y q e : Int) (w : World) (hL : Lay w) (h : 3 < q ∨ x < -4096 ∨ 4096 < x ∨ y < -4096 ∨ 4096 < y) : Calls Tryd.prog 3 #[cl x y q, .int .u8 e] w fun r w' => r = .returned (.bool true) ∧ Below w.heap.size w w' := by
  have H : Hid (3 < q ∨ x < -4096 ∨ 4096 < x ∨ y < -4096 ∨ 4096 < y) := h
  clear h
  have hL' : ∀ W, Below w.heap.size w W → Lay W := fun W h => lay_below hL h
  go_enter Tryd.func3, Tryd.ntmps3
  go_wp2_with fail
  have hB0 : Below w.heap.size w (w.alloc (.cells #[.int .i64 (x), .int .i64 (y), .int .u8 (q)] 23)) := (by repeat first | (with_reducible exact Below.refl _ _) | (with_reducible refine below_on ?_ _) | (with_reducible refine below_alloc ?_ _) | (with_reducible refine below_set ?_ (by simp; try omega) _))
  have b00 : (w.alloc (.cells #[.int .i64 (x), .int .i64 (y), .int .u8 (q)] 23)).cell? ⟨w.heap.size, 0, none⟩ = some (.int .i64 (x)) := by simp [go_sem]
  have b01 : (w.alloc (.cells #[.int .i64 (x), .int .i64 (y), .int .u8 (q)] 23)).cell? ⟨w.heap.size, 1, none⟩ = some (.int .i64 (y)) := by simp [go_sem]
  have b02 : (w.alloc (.cells #[.int .i64 (x), .int .i64 (y), .int .u8 (q)] 23)).cell? ⟨w.heap.size, 2, none⟩ = some (.int .u8 (q)) := by simp [go_sem]
  generalize (w.alloc (.cells #[.int .i64 (x), .int .i64 (y), .int .u8 (q)] 23)) = W0 at *
  go_wp2_with (first | (go_at_call 11; with_reducible refine (cline_bad1 x y q e _ H.out).mono ?_; rintro e wx ⟨rfl, hx⟩; obtain ⟨ux, rfl⟩ := after hx; clear hx) | fail)
  have hR : Below (W0).heap.size (W0) ((on ux).alloc (.cells #[.int .u8 (0), .int .i64 (0)] 26)) := by repeat first | (with_reducible exact Below.refl _ _) | (with_reducible refine below_on ?_ _) | (with_reducible refine below_alloc ?_ _)
  have cR : ∀ {b_ i_ : Nat} {v_ : Value}, (W0).cell? ⟨b_, i_, none⟩ = some v_ → ((on ux).alloc (.cells #[.int .u8 (0), .int .i64 (0)] 26)).cell? ⟨b_, i_, none⟩ = some v_ := fun h => (hR.cell (World.block_lt_of_cell? _ _ h)).trans h
  have b00' := cR b00
  have b01' := cR b01
  have b02' := cR b02
  have B100 : ((on ux).alloc (.cells #[.int .u8 (0), .int .i64 (0)] 26)).cell? ⟨(on ux).heap.size, 0, none⟩ = some (.int .u8 (0)) := by simp [go_sem]
  have B101 : ((on ux).alloc (.cells #[.int .u8 (0), .int .i64 (0)] 26)).cell? ⟨(on ux).heap.size, 1, none⟩ = some (.int .i64 (0)) := by simp [go_sem]
  have hB1 : Below w.heap.size w ((on ux).alloc (.cells #[.int .u8 (0), .int .i64 (0)] 26)) := by repeat first | (with_reducible exact hB0) | (with_reducible refine below_on ?_ _) | (with_reducible refine below_alloc ?_ _)
  clear hR cR b00 b01 b02  hB0
  generalize ((on ux).alloc (.cells #[.int .u8 (0), .int .i64 (0)] 26)) = W1 at *
  generalize (on ux).heap.size = B1 at *
  clear ux
  go_wp2_with (first | (go_at_call 12; with_reducible refine (ccor_bad x y q _ H.out).mono ?_; rintro e wx ⟨rfl, hx⟩; obtain ⟨ux, rfl⟩ := after hx; clear hx) | fail)
  have hR : Below (W1).heap.size (W1) ((on ux).alloc (.cells #[.int .i64 0, .int .i64 0, .int .i64 0, .int .i64 0, .int .i64 0, .int .i64 0] 32)) := by repeat first | (with_reducible exact Below.refl _ _) | (with_reducible refine below_on ?_ _) | (with_reducible refine below_alloc ?_ _)
  have cR : ∀ {b_ i_ : Nat} {v_ : Value}, (W1).cell? ⟨b_, i_, none⟩ = some v_ → ((on ux).alloc (.cells #[.int .i64 0, .int .i64 0, .int .i64 0, .int .i64 0, .int .i64 0, .int .i64 0] 32)).cell? ⟨b_, i_, none⟩ = some v_ := fun h => (hR.cell (World.block_lt_of_cell? _ _ h)).trans h
  have b00'' := cR b00'
  have b01'' := cR b01'
  have b02'' := cR b02'
  have B100' := cR B100
  have B101' := cR B101
  have B200 : ((on ux).alloc (.cells #[.int .i64 0, .int .i64 0, .int .i64 0, .int .i64 0, .int .i64 0, .int .i64 0] 32)).cell? ⟨(on ux).heap.size, 0, none⟩ = some (.int .i64 0) := by simp [go_sem]
  have B201 : ((on ux).alloc (.cells #[.int .i64 0, .int .i64 0, .int .i64 0, .int .i64 0, .int .i64 0, .int .i64 0] 32)).cell? ⟨(on ux).heap.size, 1, none⟩ = some (.int .i64 0) := by simp [go_sem]
  have B202 : ((on ux).alloc (.cells #[.int .i64 0, .int .i64 0, .int .i64 0, .int .i64 0, .int .i64 0, .int .i64 0] 32)).cell? ⟨(on ux).heap.size, 2, none⟩ = some (.int .i64 0) := by simp [go_sem]
  have B203 : ((on ux).alloc (.cells #[.int .i64 0, .int .i64 0, .int .i64 0, .int .i64 0, .int .i64 0, .int .i64 0] 32)).cell? ⟨(on ux).heap.size, 3, none⟩ = some (.int .i64 0) := by simp [go_sem]
  have B204 : ((on ux).alloc (.cells #[.int .i64 0, .int .i64 0, .int .i64 0, .int .i64 0, .int .i64 0, .int .i64 0] 32)).cell? ⟨(on ux).heap.size, 4, none⟩ = some (.int .i64 0) := by simp [go_sem]
  have B205 : ((on ux).alloc (.cells #[.int .i64 0, .int .i64 0, .int .i64 0, .int .i64 0, .int .i64 0, .int .i64 0] 32)).cell? ⟨(on ux).heap.size, 5, none⟩ = some (.int .i64 0) := by simp [go_sem]
  have hB2 : Below w.heap.size w ((on ux).alloc (.cells #[.int .i64 0, .int .i64 0, .int .i64 0, .int .i64 0, .int .i64 0, .int .i64 0] 32)) := by repeat first | (with_reducible exact hB1) | (with_reducible refine below_on ?_ _) | (with_reducible refine below_alloc ?_ _)
  clear hR cR b00' b01' b02' B100 B101  hB1
  generalize ((on ux).alloc (.cells #[.int .i64 0, .int .i64 0, .int .i64 0, .int .i64 0, .int .i64 0, .int .i64 0] 32)) = W2 at *
  generalize (on ux).heap.size = B2 at *
  clear ux
  go_wp2_with (first | (go_at_call 13; with_reducible refine (rvalid_no x y q _ H.out).mono ?_; rintro e wx ⟨rfl, hx⟩; obtain ⟨ux, rfl⟩ := after hx; clear hx) | (go_at_call 14; with_reducible refine (ccheck_bad x y q _ H.out).mono ?_; rintro e wx ⟨rfl, hx⟩; obtain ⟨ux, rfl⟩ := after hx; clear hx) | (go_at_call 15; with_reducible refine (clives_ok _ (hL' _ (by repeat first | (with_reducible exact hB2) | (with_reducible refine below_on ?_ _) | (with_reducible refine below_alloc ?_ _) | (with_reducible refine below_set ?_ (by simp; try omega) _)))).mono ?_; rintro e wx ⟨rfl, hx⟩; obtain ⟨ux, rfl⟩ := after hx; clear hx) | fail)
  go_ret
  exact ⟨by first | rfl | (simp; done) | (simp; omega), (by repeat first | (with_reducible exact hB2) | (with_reducible refine below_on ?_ _) | (with_reducible refine below_alloc ?_ _) | (with_reducible refine below_set ?_ (by simp; try omega) _))⟩

set_option maxRecDepth 100000 in
set_option maxHeartbeats 8000000 in
theorem clineL_edge (x y q e px0 py0 px1 py1 px2 py2 : Int) (w : World) (hL : Lay w) (c1 : -4096 ≤ x) (c2 : x ≤ 4096) (c3 : -4096 ≤ y) (c4 : y ≤ 4096) (c5 : 0 ≤ q) (c6 : q ≤ 3)(CO1 : ∀ W, Lay W → Calls Tryd.prog 12 #[cl x y q] W fun r w' => r = .returned (.tuple #[.agg #[.int .i64 px0, .int .i64 py0, .int .i64 px1, .int .i64 py1, .int .i64 px2, .int .i64 py2], .int .i64 0]) ∧ Below W.heap.size W w')(CO2 : ∀ W, Calls Tryd.prog 16 #[cl x y q] W fun r w' => r = .returned (.agg #[.int .i64 px0, .int .i64 py0, .int .i64 px1, .int .i64 py1, .int .i64 px2, .int .i64 py2]) ∧ Below W.heap.size W w')(e1 : 2 < e) : Calls Tryd.prog 3 #[cl x y q, .int .u8 e] w fun r w' => r = .returned (.bool true) ∧ Below w.heap.size w w' := by
  have hL' : ∀ W, Below w.heap.size w W → Lay W := fun W h => lay_below hL h
  go_enter Tryd.func3, Tryd.ntmps3
  go_wp2_with fail
  have hB0 : Below w.heap.size w (w.alloc (.cells #[.int .i64 (x), .int .i64 (y), .int .u8 (q)] 23)) := (by repeat first | (with_reducible exact Below.refl _ _) | (with_reducible refine below_on ?_ _) | (with_reducible refine below_alloc ?_ _) | (with_reducible refine below_set ?_ (by simp; try omega) _))
  have b00 : (w.alloc (.cells #[.int .i64 (x), .int .i64 (y), .int .u8 (q)] 23)).cell? ⟨w.heap.size, 0, none⟩ = some (.int .i64 (x)) := by simp [go_sem]
  have b01 : (w.alloc (.cells #[.int .i64 (x), .int .i64 (y), .int .u8 (q)] 23)).cell? ⟨w.heap.size, 1, none⟩ = some (.int .i64 (y)) := by simp [go_sem]
  have b02 : (w.alloc (.cells #[.int .i64 (x), .int .i64 (y), .int .u8 (q)] 23)).cell? ⟨w.heap.size, 2, none⟩ = some (.int .u8 (q)) := by simp [go_sem]
  generalize (w.alloc (.cells #[.int .i64 (x), .int .i64 (y), .int .u8 (q)] 23)) = W0 at *
  go_wp2_with (first | (go_at_call 11; with_reducible refine (cline_bad2 x y q e _ c1 c2 c3 c4 c5 c6 (by omega)).mono ?_; rintro e wx ⟨rfl, hx⟩; obtain ⟨ux, rfl⟩ := after hx; clear hx) | fail)
  have hR : Below (W0).heap.size (W0) ((on ux).alloc (.cells #[.int .u8 (0), .int .i64 (0)] 26)) := by repeat first | (with_reducible exact Below.refl _ _) | (with_reducible refine below_on ?_ _) | (with_reducible refine below_alloc ?_ _)
  have cR : ∀ {b_ i_ : Nat} {v_ : Value}, (W0).cell? ⟨b_, i_, none⟩ = some v_ → ((on ux).alloc (.cells #[.int .u8 (0), .int .i64 (0)] 26)).cell? ⟨b_, i_, none⟩ = some v_ := fun h => (hR.cell (World.block_lt_of_cell? _ _ h)).trans h
  have b00' := cR b00
  have b01' := cR b01
  have b02' := cR b02
  have B100 : ((on ux).alloc (.cells #[.int .u8 (0), .int .i64 (0)] 26)).cell? ⟨(on ux).heap.size, 0, none⟩ = some (.int .u8 (0)) := by simp [go_sem]
  have B101 : ((on ux).alloc (.cells #[.int .u8 (0), .int .i64 (0)] 26)).cell? ⟨(on ux).heap.size, 1, none⟩ = some (.int .i64 (0)) := by simp [go_sem]
  have hB1 : Below w.heap.size w ((on ux).alloc (.cells #[.int .u8 (0), .int .i64 (0)] 26)) := by repeat first | (with_reducible exact hB0) | (with_reducible refine below_on ?_ _) | (with_reducible refine below_alloc ?_ _)
  clear hR cR b00 b01 b02  hB0
  generalize ((on ux).alloc (.cells #[.int .u8 (0), .int .i64 (0)] 26)) = W1 at *
  generalize (on ux).heap.size = B1 at *
  clear ux
  go_wp2_with (first | (go_at_call 12; with_reducible refine (CO1 _ (hL' _ (by repeat first | (with_reducible exact hB1) | (with_reducible refine below_on ?_ _) | (with_reducible refine below_alloc ?_ _) | (with_reducible refine below_set ?_ (by simp; try omega) _)))).mono ?_; rintro e wx ⟨rfl, hx⟩; obtain ⟨ux, rfl⟩ := after hx; clear hx) | fail)
  have hR : Below (W1).heap.size (W1) ((on ux).alloc (.cells #[.int .i64 px0, .int .i64 py0, .int .i64 px1, .int .i64 py1, .int .i64 px2, .int .i64 py2] 32)) := by repeat first | (with_reducible exact Below.refl _ _) | (with_reducible refine below_on ?_ _) | (with_reducible refine below_alloc ?_ _)
  have cR : ∀ {b_ i_ : Nat} {v_ : Value}, (W1).cell? ⟨b_, i_, none⟩ = some v_ → ((on ux).alloc (.cells #[.int .i64 px0, .int .i64 py0, .int .i64 px1, .int .i64 py1, .int .i64 px2, .int .i64 py2] 32)).cell? ⟨b_, i_, none⟩ = some v_ := fun h => (hR.cell (World.block_lt_of_cell? _ _ h)).trans h
  have b00'' := cR b00'
  have b01'' := cR b01'
  have b02'' := cR b02'
  have B100' := cR B100
  have B101' := cR B101
  have B200 : ((on ux).alloc (.cells #[.int .i64 px0, .int .i64 py0, .int .i64 px1, .int .i64 py1, .int .i64 px2, .int .i64 py2] 32)).cell? ⟨(on ux).heap.size, 0, none⟩ = some (.int .i64 px0) := by simp [go_sem]
  have B201 : ((on ux).alloc (.cells #[.int .i64 px0, .int .i64 py0, .int .i64 px1, .int .i64 py1, .int .i64 px2, .int .i64 py2] 32)).cell? ⟨(on ux).heap.size, 1, none⟩ = some (.int .i64 py0) := by simp [go_sem]
  have B202 : ((on ux).alloc (.cells #[.int .i64 px0, .int .i64 py0, .int .i64 px1, .int .i64 py1, .int .i64 px2, .int .i64 py2] 32)).cell? ⟨(on ux).heap.size, 2, none⟩ = some (.int .i64 px1) := by simp [go_sem]
  have B203 : ((on ux).alloc (.cells #[.int .i64 px0, .int .i64 py0, .int .i64 px1, .int .i64 py1, .int .i64 px2, .int .i64 py2] 32)).cell? ⟨(on ux).heap.size, 3, none⟩ = some (.int .i64 py1) := by simp [go_sem]
  have B204 : ((on ux).alloc (.cells #[.int .i64 px0, .int .i64 py0, .int .i64 px1, .int .i64 py1, .int .i64 px2, .int .i64 py2] 32)).cell? ⟨(on ux).heap.size, 4, none⟩ = some (.int .i64 px2) := by simp [go_sem]
  have B205 : ((on ux).alloc (.cells #[.int .i64 px0, .int .i64 py0, .int .i64 px1, .int .i64 py1, .int .i64 px2, .int .i64 py2] 32)).cell? ⟨(on ux).heap.size, 5, none⟩ = some (.int .i64 py2) := by simp [go_sem]
  have hB2 : Below w.heap.size w ((on ux).alloc (.cells #[.int .i64 px0, .int .i64 py0, .int .i64 px1, .int .i64 py1, .int .i64 px2, .int .i64 py2] 32)) := by repeat first | (with_reducible exact hB1) | (with_reducible refine below_on ?_ _) | (with_reducible refine below_alloc ?_ _)
  clear hR cR b00' b01' b02' B100 B101  hB1
  generalize ((on ux).alloc (.cells #[.int .i64 px0, .int .i64 py0, .int .i64 px1, .int .i64 py1, .int .i64 px2, .int .i64 py2] 32)) = W2 at *
  generalize (on ux).heap.size = B2 at *
  clear ux
  go_wp2_with (first | (go_at_call 13; with_reducible refine (rvalid_yes x y q _ c1 c2 c3 c4 c5 c6).mono ?_; rintro e wx ⟨rfl, hx⟩; obtain ⟨ux, rfl⟩ := after hx; clear hx) | (go_at_call 14; with_reducible refine (ccheck_ok x y q _ c1 c2 c3 c4 c5 c6).mono ?_; rintro e wx ⟨rfl, hx⟩; obtain ⟨ux, rfl⟩ := after hx; clear hx) | fail)
  refine region_later (by kernel_rfl) (by kernel_rfl) ?_
  repeat (go_big_quiet_step ((first | (go_at_call 16; with_reducible exact Calls.later (CO2 _)) | fail)))
  refine wpQuiet_nil ?_
  rintro _ ⟨ux, rfl⟩
  go_wp2_with fail
  have hR : Below (W2).heap.size (W2) (on ux) := by repeat first | (with_reducible exact Below.refl _ _) | (with_reducible refine below_on ?_ _) | (with_reducible refine below_alloc ?_ _)
  have cR : ∀ {b_ i_ : Nat} {v_ : Value}, (W2).cell? ⟨b_, i_, none⟩ = some v_ → (on ux).cell? ⟨b_, i_, none⟩ = some v_ := fun h => (hR.cell (World.block_lt_of_cell? _ _ h)).trans h
  have b00''' := cR b00''
  have b01''' := cR b01''
  have b02''' := cR b02''
  have B100'' := cR B100'
  have B101'' := cR B101'
  have B200' := cR B200
  have B201' := cR B201
  have B202' := cR B202
  have B203' := cR B203
  have B204' := cR B204
  have B205' := cR B205
  have hB3 : Below w.heap.size w (on ux) := by repeat first | (with_reducible exact hB2) | (with_reducible refine below_on ?_ _) | (with_reducible refine below_alloc ?_ _)
  clear hR cR b00'' b01'' b02'' B100' B101' B200 B201 B202 B203 B204 B205  hB2
  generalize (on ux) = W3 at *
  clear ux
  go_wp2_with (first | (go_at_call 15; with_reducible refine (clives_ok _ (hL' _ (by repeat first | (with_reducible exact hB3) | (with_reducible refine below_on ?_ _) | (with_reducible refine below_alloc ?_ _) | (with_reducible refine below_set ?_ (by simp; try omega) _)))).mono ?_; rintro e wx ⟨rfl, hx⟩; obtain ⟨ux, rfl⟩ := after hx; clear hx) | fail)
  go_ret
  exact ⟨by first | rfl | (simp; done) | (simp; omega), (by repeat first | (with_reducible exact hB3) | (with_reducible refine below_on ?_ _) | (with_reducible refine below_alloc ?_ _) | (with_reducible refine below_set ?_ (by simp; try omega) _))⟩

set_option maxRecDepth 100000 in
set_option maxHeartbeats 8000000 in
theorem clineL_far (x y q e px0 py0 px1 py1 px2 py2 : Int) (w : World) (hL : Lay w) (c1 : -4096 ≤ x) (c2 : x ≤ 4096) (c3 : -4096 ≤ y) (c4 : y ≤ 4096) (c5 : 0 ≤ q) (c6 : q ≤ 3)(CO1 : ∀ W, Lay W → Calls Tryd.prog 12 #[cl x y q] W fun r w' => r = .returned (.tuple #[.agg #[.int .i64 px0, .int .i64 py0, .int .i64 px1, .int .i64 py1, .int .i64 px2, .int .i64 py2], .int .i64 0]) ∧ Below W.heap.size W w')(CO2 : ∀ W, Calls Tryd.prog 16 #[cl x y q] W fun r w' => r = .returned (.agg #[.int .i64 px0, .int .i64 py0, .int .i64 px1, .int .i64 py1, .int .i64 px2, .int .i64 py2]) ∧ Below W.heap.size W w')(e1 : 0 ≤ e) (e2 : e ≤ 2) (hm : lnC q e x y < -4096 ∨ 4096 < lnC q e x y) : Calls Tryd.prog 3 #[cl x y q, .int .u8 e] w fun r w' => r = .returned (.bool true) ∧ Below w.heap.size w w' := by
  have HM : Hid (lnC q e x y < -4096 ∨ 4096 < lnC q e x y) := hm
  clear hm
  obtain ⟨kr1, kr2⟩ := lnK_range q e
  have hL' : ∀ W, Below w.heap.size w W → Lay W := fun W h => lay_below hL h
  go_enter Tryd.func3, Tryd.ntmps3
  go_wp2_with fail
  have hB0 : Below w.heap.size w (w.alloc (.cells #[.int .i64 (x), .int .i64 (y), .int .u8 (q)] 23)) := (by repeat first | (with_reducible exact Below.refl _ _) | (with_reducible refine below_on ?_ _) | (with_reducible refine below_alloc ?_ _) | (with_reducible refine below_set ?_ (by simp; try omega) _))
  have b00 : (w.alloc (.cells #[.int .i64 (x), .int .i64 (y), .int .u8 (q)] 23)).cell? ⟨w.heap.size, 0, none⟩ = some (.int .i64 (x)) := by simp [go_sem]
  have b01 : (w.alloc (.cells #[.int .i64 (x), .int .i64 (y), .int .u8 (q)] 23)).cell? ⟨w.heap.size, 1, none⟩ = some (.int .i64 (y)) := by simp [go_sem]
  have b02 : (w.alloc (.cells #[.int .i64 (x), .int .i64 (y), .int .u8 (q)] 23)).cell? ⟨w.heap.size, 2, none⟩ = some (.int .u8 (q)) := by simp [go_sem]
  generalize (w.alloc (.cells #[.int .i64 (x), .int .i64 (y), .int .u8 (q)] 23)) = W0 at *
  go_wp2_with (first | (go_at_call 11; with_reducible refine (cline_far x y q e _ c1 c2 c3 c4 c5 c6 e1 e2 HM.out).mono ?_; rintro e wx ⟨rfl, hx⟩; obtain ⟨ux, rfl⟩ := after hx; clear hx) | fail)
  have hR : Below (W0).heap.size (W0) ((on ux).alloc (.cells #[.int .u8 (0), .int .i64 (0)] 26)) := by repeat first | (with_reducible exact Below.refl _ _) | (with_reducible refine below_on ?_ _) | (with_reducible refine below_alloc ?_ _)
  have cR : ∀ {b_ i_ : Nat} {v_ : Value}, (W0).cell? ⟨b_, i_, none⟩ = some v_ → ((on ux).alloc (.cells #[.int .u8 (0), .int .i64 (0)] 26)).cell? ⟨b_, i_, none⟩ = some v_ := fun h => (hR.cell (World.block_lt_of_cell? _ _ h)).trans h
  have b00' := cR b00
  have b01' := cR b01
  have b02' := cR b02
  have B100 : ((on ux).alloc (.cells #[.int .u8 (0), .int .i64 (0)] 26)).cell? ⟨(on ux).heap.size, 0, none⟩ = some (.int .u8 (0)) := by simp [go_sem]
  have B101 : ((on ux).alloc (.cells #[.int .u8 (0), .int .i64 (0)] 26)).cell? ⟨(on ux).heap.size, 1, none⟩ = some (.int .i64 (0)) := by simp [go_sem]
  have hB1 : Below w.heap.size w ((on ux).alloc (.cells #[.int .u8 (0), .int .i64 (0)] 26)) := by repeat first | (with_reducible exact hB0) | (with_reducible refine below_on ?_ _) | (with_reducible refine below_alloc ?_ _)
  clear hR cR b00 b01 b02  hB0
  generalize ((on ux).alloc (.cells #[.int .u8 (0), .int .i64 (0)] 26)) = W1 at *
  generalize (on ux).heap.size = B1 at *
  clear ux
  go_wp2_with (first | (go_at_call 12; with_reducible refine (CO1 _ (hL' _ (by repeat first | (with_reducible exact hB1) | (with_reducible refine below_on ?_ _) | (with_reducible refine below_alloc ?_ _) | (with_reducible refine below_set ?_ (by simp; try omega) _)))).mono ?_; rintro e wx ⟨rfl, hx⟩; obtain ⟨ux, rfl⟩ := after hx; clear hx) | fail)
  have hR : Below (W1).heap.size (W1) ((on ux).alloc (.cells #[.int .i64 px0, .int .i64 py0, .int .i64 px1, .int .i64 py1, .int .i64 px2, .int .i64 py2] 32)) := by repeat first | (with_reducible exact Below.refl _ _) | (with_reducible refine below_on ?_ _) | (with_reducible refine below_alloc ?_ _)
  have cR : ∀ {b_ i_ : Nat} {v_ : Value}, (W1).cell? ⟨b_, i_, none⟩ = some v_ → ((on ux).alloc (.cells #[.int .i64 px0, .int .i64 py0, .int .i64 px1, .int .i64 py1, .int .i64 px2, .int .i64 py2] 32)).cell? ⟨b_, i_, none⟩ = some v_ := fun h => (hR.cell (World.block_lt_of_cell? _ _ h)).trans h
  have b00'' := cR b00'
  have b01'' := cR b01'
  have b02'' := cR b02'
  have B100' := cR B100
  have B101' := cR B101
  have B200 : ((on ux).alloc (.cells #[.int .i64 px0, .int .i64 py0, .int .i64 px1, .int .i64 py1, .int .i64 px2, .int .i64 py2] 32)).cell? ⟨(on ux).heap.size, 0, none⟩ = some (.int .i64 px0) := by simp [go_sem]
  have B201 : ((on ux).alloc (.cells #[.int .i64 px0, .int .i64 py0, .int .i64 px1, .int .i64 py1, .int .i64 px2, .int .i64 py2] 32)).cell? ⟨(on ux).heap.size, 1, none⟩ = some (.int .i64 py0) := by simp [go_sem]
  have B202 : ((on ux).alloc (.cells #[.int .i64 px0, .int .i64 py0, .int .i64 px1, .int .i64 py1, .int .i64 px2, .int .i64 py2] 32)).cell? ⟨(on ux).heap.size, 2, none⟩ = some (.int .i64 px1) := by simp [go_sem]
  have B203 : ((on ux).alloc (.cells #[.int .i64 px0, .int .i64 py0, .int .i64 px1, .int .i64 py1, .int .i64 px2, .int .i64 py2] 32)).cell? ⟨(on ux).heap.size, 3, none⟩ = some (.int .i64 py1) := by simp [go_sem]
  have B204 : ((on ux).alloc (.cells #[.int .i64 px0, .int .i64 py0, .int .i64 px1, .int .i64 py1, .int .i64 px2, .int .i64 py2] 32)).cell? ⟨(on ux).heap.size, 4, none⟩ = some (.int .i64 px2) := by simp [go_sem]
  have B205 : ((on ux).alloc (.cells #[.int .i64 px0, .int .i64 py0, .int .i64 px1, .int .i64 py1, .int .i64 px2, .int .i64 py2] 32)).cell? ⟨(on ux).heap.size, 5, none⟩ = some (.int .i64 py2) := by simp [go_sem]
  have hB2 : Below w.heap.size w ((on ux).alloc (.cells #[.int .i64 px0, .int .i64 py0, .int .i64 px1, .int .i64 py1, .int .i64 px2, .int .i64 py2] 32)) := by repeat first | (with_reducible exact hB1) | (with_reducible refine below_on ?_ _) | (with_reducible refine below_alloc ?_ _)
  clear hR cR b00' b01' b02' B100 B101  hB1
  generalize ((on ux).alloc (.cells #[.int .i64 px0, .int .i64 py0, .int .i64 px1, .int .i64 py1, .int .i64 px2, .int .i64 py2] 32)) = W2 at *
  generalize (on ux).heap.size = B2 at *
  clear ux
  go_wp2_with (first | (go_at_call 13; with_reducible refine (rvalid_yes x y q _ c1 c2 c3 c4 c5 c6).mono ?_; rintro e wx ⟨rfl, hx⟩; obtain ⟨ux, rfl⟩ := after hx; clear hx) | (go_at_call 14; with_reducible refine (ccheck_ok x y q _ c1 c2 c3 c4 c5 c6).mono ?_; rintro e wx ⟨rfl, hx⟩; obtain ⟨ux, rfl⟩ := after hx; clear hx) | fail)
  refine region_later (by kernel_rfl) (by kernel_rfl) ?_
  repeat (go_big_quiet_step ((first | (go_at_call 16; with_reducible exact Calls.later (CO2 _)) | fail)))
  refine wpQuiet_nil ?_
  rintro _ ⟨ux, rfl⟩
  go_wp2_with fail
  have hR : Below (W2).heap.size (W2) (on ux) := by repeat first | (with_reducible exact Below.refl _ _) | (with_reducible refine below_on ?_ _) | (with_reducible refine below_alloc ?_ _)
  have cR : ∀ {b_ i_ : Nat} {v_ : Value}, (W2).cell? ⟨b_, i_, none⟩ = some v_ → (on ux).cell? ⟨b_, i_, none⟩ = some v_ := fun h => (hR.cell (World.block_lt_of_cell? _ _ h)).trans h
  have b00''' := cR b00''
  have b01''' := cR b01''
  have b02''' := cR b02''
  have B100'' := cR B100'
  have B101'' := cR B101'
  have B200' := cR B200
  have B201' := cR B201
  have B202' := cR B202
  have B203' := cR B203
  have B204' := cR B204
  have B205' := cR B205
  have hB3 : Below w.heap.size w (on ux) := by repeat first | (with_reducible exact hB2) | (with_reducible refine below_on ?_ _) | (with_reducible refine below_alloc ?_ _)
  clear hR cR b00'' b01'' b02'' B100' B101' B200 B201 B202 B203 B204 B205  hB2
  generalize (on ux) = W3 at *
  clear ux
  go_wp2_with (first | (go_at_call 17; with_reducible refine (rlin_any x y q e _ (by omega) (by omega) (by omega) (by omega) c5 c6 e1 e2).mono ?_; rintro e wx ⟨rfl, hx⟩; obtain ⟨ux, rfl⟩ := after hx; clear hx) | fail)
  have hR : Below (W3).heap.size (W3) ((on ux).alloc (.cells #[.int .u8 (lnK q e), .int .i64 (lnC q e x y)] 26)) := by repeat first | (with_reducible exact Below.refl _ _) | (with_reducible refine below_on ?_ _) | (with_reducible refine below_alloc ?_ _)
  have cR : ∀ {b_ i_ : Nat} {v_ : Value}, (W3).cell? ⟨b_, i_, none⟩ = some v_ → ((on ux).alloc (.cells #[.int .u8 (lnK q e), .int .i64 (lnC q e x y)] 26)).cell? ⟨b_, i_, none⟩ = some v_ := fun h => (hR.cell (World.block_lt_of_cell? _ _ h)).trans h
  have b00'''' := cR b00'''
  have b01'''' := cR b01'''
  have b02'''' := cR b02'''
  have B100''' := cR B100''
  have B101''' := cR B101''
  have B200'' := cR B200'
  have B201'' := cR B201'
  have B202'' := cR B202'
  have B203'' := cR B203'
  have B204'' := cR B204'
  have B205'' := cR B205'
  have B400 : ((on ux).alloc (.cells #[.int .u8 (lnK q e), .int .i64 (lnC q e x y)] 26)).cell? ⟨(on ux).heap.size, 0, none⟩ = some (.int .u8 (lnK q e)) := by simp [go_sem]
  have B401 : ((on ux).alloc (.cells #[.int .u8 (lnK q e), .int .i64 (lnC q e x y)] 26)).cell? ⟨(on ux).heap.size, 1, none⟩ = some (.int .i64 (lnC q e x y)) := by simp [go_sem]
  have hB4 : Below w.heap.size w ((on ux).alloc (.cells #[.int .u8 (lnK q e), .int .i64 (lnC q e x y)] 26)) := by repeat first | (with_reducible exact hB3) | (with_reducible refine below_on ?_ _) | (with_reducible refine below_alloc ?_ _)
  clear hR cR b00''' b01''' b02''' B100'' B101'' B200' B201' B202' B203' B204' B205'  hB3
  generalize ((on ux).alloc (.cells #[.int .u8 (lnK q e), .int .i64 (lnC q e x y)] 26)) = W4 at *
  generalize (on ux).heap.size = B4 at *
  clear ux
  go_wp2_with (first | (go_at_call 18; with_reducible refine (valid_no (lnK q e) (lnC q e x y) _ (.inr (.inr HM.out))).mono ?_; rintro e wx ⟨rfl, hx⟩; obtain ⟨ux, rfl⟩ := after hx; clear hx) | (go_at_call 15; with_reducible refine (clives_ok _ (hL' _ (by repeat first | (with_reducible exact hB4) | (with_reducible refine below_on ?_ _) | (with_reducible refine below_alloc ?_ _) | (with_reducible refine below_set ?_ (by simp; try omega) _)))).mono ?_; rintro e wx ⟨rfl, hx⟩; obtain ⟨ux, rfl⟩ := after hx; clear hx) | fail)
  go_ret
  exact ⟨by first | rfl | (simp; done) | (simp; omega), (by repeat first | (with_reducible exact hB4) | (with_reducible refine below_on ?_ _) | (with_reducible refine below_alloc ?_ _) | (with_reducible refine below_set ?_ (by simp; try omega) _))⟩

set_option maxRecDepth 100000 in
set_option maxHeartbeats 8000000 in
theorem clineL_ok (x y q e px0 py0 px1 py1 px2 py2 : Int) (w : World) (hL : Lay w) (c1 : -4096 ≤ x) (c2 : x ≤ 4096) (c3 : -4096 ≤ y) (c4 : y ≤ 4096) (c5 : 0 ≤ q) (c6 : q ≤ 3)(CO1 : ∀ W, Lay W → Calls Tryd.prog 12 #[cl x y q] W fun r w' => r = .returned (.tuple #[.agg #[.int .i64 px0, .int .i64 py0, .int .i64 px1, .int .i64 py1, .int .i64 px2, .int .i64 py2], .int .i64 0]) ∧ Below W.heap.size W w')(CO2 : ∀ W, Calls Tryd.prog 16 #[cl x y q] W fun r w' => r = .returned (.agg #[.int .i64 px0, .int .i64 py0, .int .i64 px1, .int .i64 py1, .int .i64 px2, .int .i64 py2]) ∧ Below W.heap.size W w')(e1 : 0 ≤ e) (e2 : e ≤ 2) (m1 : -4096 ≤ lnC q e x y) (m2 : lnC q e x y ≤ 4096) : Calls Tryd.prog 3 #[cl x y q, .int .u8 e] w fun r w' => r = .returned (.bool true) ∧ Below w.heap.size w w' := by
  obtain ⟨kr1, kr2⟩ := lnK_range q e
  have hL' : ∀ W, Below w.heap.size w W → Lay W := fun W h => lay_below hL h
  go_enter Tryd.func3, Tryd.ntmps3
  go_wp2_with fail
  have hB0 : Below w.heap.size w (w.alloc (.cells #[.int .i64 (x), .int .i64 (y), .int .u8 (q)] 23)) := (by repeat first | (with_reducible exact Below.refl _ _) | (with_reducible refine below_on ?_ _) | (with_reducible refine below_alloc ?_ _) | (with_reducible refine below_set ?_ (by simp; try omega) _))
  have b00 : (w.alloc (.cells #[.int .i64 (x), .int .i64 (y), .int .u8 (q)] 23)).cell? ⟨w.heap.size, 0, none⟩ = some (.int .i64 (x)) := by simp [go_sem]
  have b01 : (w.alloc (.cells #[.int .i64 (x), .int .i64 (y), .int .u8 (q)] 23)).cell? ⟨w.heap.size, 1, none⟩ = some (.int .i64 (y)) := by simp [go_sem]
  have b02 : (w.alloc (.cells #[.int .i64 (x), .int .i64 (y), .int .u8 (q)] 23)).cell? ⟨w.heap.size, 2, none⟩ = some (.int .u8 (q)) := by simp [go_sem]
  generalize (w.alloc (.cells #[.int .i64 (x), .int .i64 (y), .int .u8 (q)] 23)) = W0 at *
  go_wp2_with (first | (go_at_call 11; with_reducible refine (cline_ok x y q e _ c1 c2 c3 c4 c5 c6 e1 e2 m1 m2).mono ?_; rintro e wx ⟨rfl, hx⟩; obtain ⟨ux, rfl⟩ := after hx; clear hx) | fail)
  have hR : Below (W0).heap.size (W0) ((on ux).alloc (.cells #[.int .u8 (lnK q e), .int .i64 (lnC q e x y)] 26)) := by repeat first | (with_reducible exact Below.refl _ _) | (with_reducible refine below_on ?_ _) | (with_reducible refine below_alloc ?_ _)
  have cR : ∀ {b_ i_ : Nat} {v_ : Value}, (W0).cell? ⟨b_, i_, none⟩ = some v_ → ((on ux).alloc (.cells #[.int .u8 (lnK q e), .int .i64 (lnC q e x y)] 26)).cell? ⟨b_, i_, none⟩ = some v_ := fun h => (hR.cell (World.block_lt_of_cell? _ _ h)).trans h
  have b00' := cR b00
  have b01' := cR b01
  have b02' := cR b02
  have B100 : ((on ux).alloc (.cells #[.int .u8 (lnK q e), .int .i64 (lnC q e x y)] 26)).cell? ⟨(on ux).heap.size, 0, none⟩ = some (.int .u8 (lnK q e)) := by simp [go_sem]
  have B101 : ((on ux).alloc (.cells #[.int .u8 (lnK q e), .int .i64 (lnC q e x y)] 26)).cell? ⟨(on ux).heap.size, 1, none⟩ = some (.int .i64 (lnC q e x y)) := by simp [go_sem]
  have hB1 : Below w.heap.size w ((on ux).alloc (.cells #[.int .u8 (lnK q e), .int .i64 (lnC q e x y)] 26)) := by repeat first | (with_reducible exact hB0) | (with_reducible refine below_on ?_ _) | (with_reducible refine below_alloc ?_ _)
  clear hR cR b00 b01 b02  hB0
  generalize ((on ux).alloc (.cells #[.int .u8 (lnK q e), .int .i64 (lnC q e x y)] 26)) = W1 at *
  generalize (on ux).heap.size = B1 at *
  clear ux
  go_wp2_with (first | (go_at_call 12; with_reducible refine (CO1 _ (hL' _ (by repeat first | (with_reducible exact hB1) | (with_reducible refine below_on ?_ _) | (with_reducible refine below_alloc ?_ _) | (with_reducible refine below_set ?_ (by simp; try omega) _)))).mono ?_; rintro e wx ⟨rfl, hx⟩; obtain ⟨ux, rfl⟩ := after hx; clear hx) | fail)
  have hR : Below (W1).heap.size (W1) ((on ux).alloc (.cells #[.int .i64 px0, .int .i64 py0, .int .i64 px1, .int .i64 py1, .int .i64 px2, .int .i64 py2] 32)) := by repeat first | (with_reducible exact Below.refl _ _) | (with_reducible refine below_on ?_ _) | (with_reducible refine below_alloc ?_ _)
  have cR : ∀ {b_ i_ : Nat} {v_ : Value}, (W1).cell? ⟨b_, i_, none⟩ = some v_ → ((on ux).alloc (.cells #[.int .i64 px0, .int .i64 py0, .int .i64 px1, .int .i64 py1, .int .i64 px2, .int .i64 py2] 32)).cell? ⟨b_, i_, none⟩ = some v_ := fun h => (hR.cell (World.block_lt_of_cell? _ _ h)).trans h
  have b00'' := cR b00'
  have b01'' := cR b01'
  have b02'' := cR b02'
  have B100' := cR B100
  have B101' := cR B101
  have B200 : ((on ux).alloc (.cells #[.int .i64 px0, .int .i64 py0, .int .i64 px1, .int .i64 py1, .int .i64 px2, .int .i64 py2] 32)).cell? ⟨(on ux).heap.size, 0, none⟩ = some (.int .i64 px0) := by simp [go_sem]
  have B201 : ((on ux).alloc (.cells #[.int .i64 px0, .int .i64 py0, .int .i64 px1, .int .i64 py1, .int .i64 px2, .int .i64 py2] 32)).cell? ⟨(on ux).heap.size, 1, none⟩ = some (.int .i64 py0) := by simp [go_sem]
  have B202 : ((on ux).alloc (.cells #[.int .i64 px0, .int .i64 py0, .int .i64 px1, .int .i64 py1, .int .i64 px2, .int .i64 py2] 32)).cell? ⟨(on ux).heap.size, 2, none⟩ = some (.int .i64 px1) := by simp [go_sem]
  have B203 : ((on ux).alloc (.cells #[.int .i64 px0, .int .i64 py0, .int .i64 px1, .int .i64 py1, .int .i64 px2, .int .i64 py2] 32)).cell? ⟨(on ux).heap.size, 3, none⟩ = some (.int .i64 py1) := by simp [go_sem]
  have B204 : ((on ux).alloc (.cells #[.int .i64 px0, .int .i64 py0, .int .i64 px1, .int .i64 py1, .int .i64 px2, .int .i64 py2] 32)).cell? ⟨(on ux).heap.size, 4, none⟩ = some (.int .i64 px2) := by simp [go_sem]
  have B205 : ((on ux).alloc (.cells #[.int .i64 px0, .int .i64 py0, .int .i64 px1, .int .i64 py1, .int .i64 px2, .int .i64 py2] 32)).cell? ⟨(on ux).heap.size, 5, none⟩ = some (.int .i64 py2) := by simp [go_sem]
  have hB2 : Below w.heap.size w ((on ux).alloc (.cells #[.int .i64 px0, .int .i64 py0, .int .i64 px1, .int .i64 py1, .int .i64 px2, .int .i64 py2] 32)) := by repeat first | (with_reducible exact hB1) | (with_reducible refine below_on ?_ _) | (with_reducible refine below_alloc ?_ _)
  clear hR cR b00' b01' b02' B100 B101  hB1
  generalize ((on ux).alloc (.cells #[.int .i64 px0, .int .i64 py0, .int .i64 px1, .int .i64 py1, .int .i64 px2, .int .i64 py2] 32)) = W2 at *
  generalize (on ux).heap.size = B2 at *
  clear ux
  go_wp2_with (first | (go_at_call 13; with_reducible refine (rvalid_yes x y q _ c1 c2 c3 c4 c5 c6).mono ?_; rintro e wx ⟨rfl, hx⟩; obtain ⟨ux, rfl⟩ := after hx; clear hx) | (go_at_call 14; with_reducible refine (ccheck_ok x y q _ c1 c2 c3 c4 c5 c6).mono ?_; rintro e wx ⟨rfl, hx⟩; obtain ⟨ux, rfl⟩ := after hx; clear hx) | fail)
  refine region_later (by kernel_rfl) (by kernel_rfl) ?_
  repeat (go_big_quiet_step ((first | (go_at_call 16; with_reducible exact Calls.later (CO2 _)) | fail)))
  refine wpQuiet_nil ?_
  rintro _ ⟨ux, rfl⟩
  go_wp2_with fail
  have hR : Below (W2).heap.size (W2) (on ux) := by repeat first | (with_reducible exact Below.refl _ _) | (with_reducible refine below_on ?_ _) | (with_reducible refine below_alloc ?_ _)
  have cR : ∀ {b_ i_ : Nat} {v_ : Value}, (W2).cell? ⟨b_, i_, none⟩ = some v_ → (on ux).cell? ⟨b_, i_, none⟩ = some v_ := fun h => (hR.cell (World.block_lt_of_cell? _ _ h)).trans h
  have b00''' := cR b00''
  have b01''' := cR b01''
  have b02''' := cR b02''
  have B100'' := cR B100'
  have B101'' := cR B101'
  have B200' := cR B200
  have B201' := cR B201
  have B202' := cR B202
  have B203' := cR B203
  have B204' := cR B204
  have B205' := cR B205
  have hB3 : Below w.heap.size w (on ux) := by repeat first | (with_reducible exact hB2) | (with_reducible refine below_on ?_ _) | (with_reducible refine below_alloc ?_ _)
  clear hR cR b00'' b01'' b02'' B100' B101' B200 B201 B202 B203 B204 B205  hB2
  generalize (on ux) = W3 at *
  clear ux
  go_wp2_with (first | (go_at_call 17; with_reducible refine (rlin_any x y q e _ (by omega) (by omega) (by omega) (by omega) c5 c6 e1 e2).mono ?_; rintro e wx ⟨rfl, hx⟩; obtain ⟨ux, rfl⟩ := after hx; clear hx) | fail)
  have hR : Below (W3).heap.size (W3) ((on ux).alloc (.cells #[.int .u8 (lnK q e), .int .i64 (lnC q e x y)] 26)) := by repeat first | (with_reducible exact Below.refl _ _) | (with_reducible refine below_on ?_ _) | (with_reducible refine below_alloc ?_ _)
  have cR : ∀ {b_ i_ : Nat} {v_ : Value}, (W3).cell? ⟨b_, i_, none⟩ = some v_ → ((on ux).alloc (.cells #[.int .u8 (lnK q e), .int .i64 (lnC q e x y)] 26)).cell? ⟨b_, i_, none⟩ = some v_ := fun h => (hR.cell (World.block_lt_of_cell? _ _ h)).trans h
  have b00'''' := cR b00'''
  have b01'''' := cR b01'''
  have b02'''' := cR b02'''
  have B100''' := cR B100''
  have B101''' := cR B101''
  have B200'' := cR B200'
  have B201'' := cR B201'
  have B202'' := cR B202'
  have B203'' := cR B203'
  have B204'' := cR B204'
  have B205'' := cR B205'
  have B400 : ((on ux).alloc (.cells #[.int .u8 (lnK q e), .int .i64 (lnC q e x y)] 26)).cell? ⟨(on ux).heap.size, 0, none⟩ = some (.int .u8 (lnK q e)) := by simp [go_sem]
  have B401 : ((on ux).alloc (.cells #[.int .u8 (lnK q e), .int .i64 (lnC q e x y)] 26)).cell? ⟨(on ux).heap.size, 1, none⟩ = some (.int .i64 (lnC q e x y)) := by simp [go_sem]
  have hB4 : Below w.heap.size w ((on ux).alloc (.cells #[.int .u8 (lnK q e), .int .i64 (lnC q e x y)] 26)) := by repeat first | (with_reducible exact hB3) | (with_reducible refine below_on ?_ _) | (with_reducible refine below_alloc ?_ _)
  clear hR cR b00''' b01''' b02''' B100'' B101'' B200' B201' B202' B203' B204' B205'  hB3
  generalize ((on ux).alloc (.cells #[.int .u8 (lnK q e), .int .i64 (lnC q e x y)] 26)) = W4 at *
  generalize (on ux).heap.size = B4 at *
  clear ux
  go_wp2_with (first | (go_at_call 18; with_reducible refine (valid_yes (lnK q e) (lnC q e x y) _ kr1 kr2 m1 m2).mono ?_; rintro e wx ⟨rfl, hx⟩; obtain ⟨ux, rfl⟩ := after hx; clear hx) | (go_at_call 15; with_reducible refine (clives_ok _ (hL' _ (by repeat first | (with_reducible exact hB4) | (with_reducible refine below_on ?_ _) | (with_reducible refine below_alloc ?_ _) | (with_reducible refine below_set ?_ (by simp; try omega) _)))).mono ?_; rintro e wx ⟨rfl, hx⟩; obtain ⟨ux, rfl⟩ := after hx; clear hx) | fail)
  go_ret
  exact ⟨by first | rfl | (simp; done) | (simp; omega), (by repeat first | (with_reducible exact hB4) | (with_reducible refine below_on ?_ _) | (with_reducible refine below_alloc ?_ _) | (with_reducible refine below_set ?_ (by simp; try omega) _))⟩

theorem clineL_good (x y q e px0 py0 px1 py1 px2 py2 : Int) (w : World) (hL : Lay w) (c1 : -4096 ≤ x) (c2 : x ≤ 4096) (c3 : -4096 ≤ y) (c4 : y ≤ 4096) (c5 : 0 ≤ q) (c6 : q ≤ 3) (e0 : 0 ≤ e) (CO1 : ∀ W, Lay W → Calls Tryd.prog 12 #[cl x y q] W fun r w' => r = .returned (.tuple #[.agg #[.int .i64 px0, .int .i64 py0, .int .i64 px1, .int .i64 py1, .int .i64 px2, .int .i64 py2], .int .i64 0]) ∧ Below W.heap.size W w') (CO2 : ∀ W, Calls Tryd.prog 16 #[cl x y q] W fun r w' => r = .returned (.agg #[.int .i64 px0, .int .i64 py0, .int .i64 px1, .int .i64 py1, .int .i64 px2, .int .i64 py2]) ∧ Below W.heap.size W w') : Calls Tryd.prog 3 #[cl x y q, .int .u8 e] w fun r w' => r = .returned (.bool true) ∧ Below w.heap.size w w' := by
  by_cases e2 : e ≤ 2
  · by_cases m : -4096 ≤ lnC q e x y ∧ lnC q e x y ≤ 4096
    · exact clineL_ok x y q e _ _ _ _ _ _ w hL c1 c2 c3 c4 c5 c6 CO1 CO2 e0 e2 m.1 m.2
    · exact clineL_far x y q e _ _ _ _ _ _ w hL c1 c2 c3 c4 c5 c6 CO1 CO2 e0 e2 (by omega)
  · exact clineL_edge x y q e _ _ _ _ _ _ w hL c1 c2 c3 c4 c5 c6 CO1 CO2 (by omega)
theorem cellsline_law (x y q e : Int) (w : World) (hL : Lay w) (q0 : 0 ≤ q) (e0 : 0 ≤ e) : Calls Tryd.prog 3 #[cl x y q, .int .u8 e] w fun r w' => r = .returned (.bool true) ∧ Below w.heap.size w w' := by
  by_cases h : -4096 ≤ x ∧ x ≤ 4096 ∧ -4096 ≤ y ∧ y ≤ 4096 ∧ q ≤ 3
  · obtain ⟨c1, c2, c3, c4, c6⟩ := h
    obtain rfl | rfl | rfl | rfl : q = 0 ∨ q = 1 ∨ q = 2 ∨ q = 3 := by omega
    · exact clineL_good x y 0 e (1 + 2 * x) (1 + 2 * y) (2 * x) (2 * y) (2 + 2 * x) (2 * y) w hL c1 c2 c3 c4 (by omega) (by omega) e0 (fun W h => ccor_0 x y W h c1 c2 c3 c4) (fun W => rcor_0 x y W (by omega) (by omega) (by omega) (by omega))
    · exact clineL_good x y 1 e (1 + 2 * x) (1 + 2 * y) (2 + 2 * x) (2 + 2 * y) (2 + 2 * x) (2 * y) w hL c1 c2 c3 c4 (by omega) (by omega) e0 (fun W h => ccor_1 x y W h c1 c2 c3 c4) (fun W => rcor_1 x y W (by omega) (by omega) (by omega) (by omega))
    · exact clineL_good x y 2 e (1 + 2 * x) (1 + 2 * y) (2 + 2 * x) (2 + 2 * y) (2 * x) (2 + 2 * y) w hL c1 c2 c3 c4 (by omega) (by omega) e0 (fun W h => ccor_2 x y W h c1 c2 c3 c4) (fun W => rcor_2 x y W (by omega) (by omega) (by omega) (by omega))
    · exact clineL_good x y 3 e (1 + 2 * x) (1 + 2 * y) (2 * x) (2 * y) (2 * x) (2 + 2 * y) w hL c1 c2 c3 c4 (by omega) (by omega) e0 (fun W h => ccor_3 x y W h c1 c2 c3 c4) (fun W => rcor_3 x y W (by omega) (by omega) (by omega) (by omega))
  · exact clineL_bad x y q e w hL (by omega)

end Go.Proofs.YtgkiliijefkcaaaDoor
