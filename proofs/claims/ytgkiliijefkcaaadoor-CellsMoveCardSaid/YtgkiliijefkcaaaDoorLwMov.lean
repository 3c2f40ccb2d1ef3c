/-
  Says: CellsMove answers true at every move, cell and edge, where the tables stand as they were laid.
-/
import Derived.Test.YtgkiliijefkcaaaDoorCv1
import Derived.Test.YtgkiliijefkcaaaDoorCr5
import Derived.Test.YtgkiliijefkcaaaDoorCf9
import Derived.Test.YtgkiliijefkcaaaDoorCf4
set_option linter.unusedVariables false
set_option linter.unusedSimpArgs false
namespace Go.Proofs.YtgkiliijefkcaaaDoor
open Go Go.RowKit

attribute [local go_sem] World.cell?_alloc_some frozen?_alloc_cells fz0 fz1 fz2 fz3 fz4 fz5
attribute [local go_sem] eql_pt3

/-- Across which edge a neighbour lies. -/
theorem ctouch_nb (x y q e : Int) (w : World) (hL : Lay w) (c1 : -4096 ≤ x) (c2 : x ≤ 4096) (c3 : -4096 ≤ y) (c4 : y ≤ 4096) (c5 : 0 ≤ q) (c6 : q ≤ 3) (d1 : -4096 ≤ (nbX q e x)) (d2 : (nbX q e x) ≤ 4096) (d3 : -4096 ≤ (nbY q e y)) (d4 : (nbY q e y) ≤ 4096) (d5 : 0 ≤ (nbQ q e)) (d6 : (nbQ q e) ≤ 3) (e1 : 0 ≤ e) (e2 : e ≤ 2) : Calls Tryd.prog 20 #[cl x y q, cl (nbX q e x) (nbY q e y) (nbQ q e)] w fun r w' => r = .returned (.tuple #[.int .u8 e, .int .i64 0]) ∧ Below w.heap.size w w' := by
  obtain rfl | rfl | rfl : e = 0 ∨ e = 1 ∨ e = 2 := by omega
  · exact ctouch_t0 x y q _ _ _ w hL c1 c2 c3 c4 c5 c6 d1 d2 d3 d4 d5 d6  (eqR ⟨rfl, rfl, rfl⟩)
  · exact ctouch_t1 x y q _ _ _ w hL c1 c2 c3 c4 c5 c6 d1 d2 d3 d4 d5 d6 (neR (fun h => by have h2 := h.2.2; unfold nbQ at h2; simp at h2; omega)) (eqR ⟨rfl, rfl, rfl⟩)
  · exact ctouch_t2 x y q _ _ _ w hL c1 c2 c3 c4 c5 c6 d1 d2 d3 d4 d5 d6 (neR (fun h => by have h2 := h.2.2; unfold nbQ at h2; simp at h2; omega)) (neR (fun h => by have h2 := h.2.2; unfold nbQ at h2; simp at h2; omega)) (eqR ⟨rfl, rfl, rfl⟩)

set_option maxRecDepth 100000 in
set_option maxHeartbeats 8000000 in
theorem cmoveL_bad1 (t X Y x y q e : Int) (w : World) (hL : Lay w) (h : 7 < t ∨ X < -16384 ∨ 16384 < X ∨ Y < -16384 ∨ 16384 < Y ∨ (X + Y) % 2 ≠ 0) : Calls Tryd.prog 6 #[mv t X Y, cl x y q, .int .u8 e] w fun r w' => r = .returned (.bool true) ∧ Below w.heap.size w w' := by
  have H : Hid (7 < t ∨ X < -16384 ∨ 16384 < X ∨ Y < -16384 ∨ 16384 < Y ∨ (X + Y) % 2 ≠ 0) := h
  clear h
  have hL' : ∀ W, Below w.heap.size w W → Lay W := fun W h => lay_below hL h
  go_enter Tryd.func6, Tryd.ntmps6
  go_wp2_with fail
  have hB0 : Below w.heap.size w ((w.alloc (.cells #[.int .u8 t, .int .i64 X, .int .i64 Y] 54)).alloc (.cells #[.int .i64 (x), .int .i64 (y), .int .u8 (q)] 23)) := (by repeat first | (with_reducible exact Below.refl _ _) | (with_reducible refine below_on ?_ _) | (with_reducible refine below_alloc ?_ _) | (with_reducible refine below_set ?_ (by simp; try omega) _))
  have b00 : ((w.alloc (.cells #[.int .u8 t, .int .i64 X, .int .i64 Y] 54)).alloc (.cells #[.int .i64 (x), .int .i64 (y), .int .u8 (q)] 23)).cell? ⟨w.heap.size, 0, none⟩ = some (.int .u8 t) := by simp [go_sem]
  have b01 : ((w.alloc (.cells #[.int .u8 t, .int .i64 X, .int .i64 Y] 54)).alloc (.cells #[.int .i64 (x), .int .i64 (y), .int .u8 (q)] 23)).cell? ⟨w.heap.size, 1, none⟩ = some (.int .i64 X) := by simp [go_sem]
  have b02 : ((w.alloc (.cells #[.int .u8 t, .int .i64 X, .int .i64 Y] 54)).alloc (.cells #[.int .i64 (x), .int .i64 (y), .int .u8 (q)] 23)).cell? ⟨w.heap.size, 2, none⟩ = some (.int .i64 Y) := by simp [go_sem]
  have b10 : ((w.alloc (.cells #[.int .u8 t, .int .i64 X, .int .i64 Y] 54)).alloc (.cells #[.int .i64 (x), .int .i64 (y), .int .u8 (q)] 23)).cell? ⟨w.heap.size + 1, 0, none⟩ = some (.int .i64 (x)) := by simp [go_sem]
  have b11 : ((w.alloc (.cells #[.int .u8 t, .int .i64 X, .int .i64 Y] 54)).alloc (.cells #[.int .i64 (x), .int .i64 (y), .int .u8 (q)] 23)).cell? ⟨w.heap.size + 1, 1, none⟩ = some (.int .i64 (y)) := by simp [go_sem]
  have b12 : ((w.alloc (.cells #[.int .u8 t, .int .i64 X, .int .i64 Y] 54)).alloc (.cells #[.int .i64 (x), .int .i64 (y), .int .u8 (q)] 23)).cell? ⟨w.heap.size + 1, 2, none⟩ = some (.int .u8 (q)) := by simp [go_sem]
  generalize ((w.alloc (.cells #[.int .u8 t, .int .i64 X, .int .i64 Y] 54)).alloc (.cells #[.int .i64 (x), .int .i64 (y), .int .u8 (q)] 23)) = W0 at *
  go_wp2_with (first | (go_at_call 25; with_reducible refine (cmv_bad1 t X Y x y q _ H.out).mono ?_; rintro e wx ⟨rfl, hx⟩; obtain ⟨ux, rfl⟩ := after hx; clear hx) | fail)
  have hR : Below (W0).heap.size (W0) ((on ux).alloc (.cells #[.int .i64 0, .int .i64 0, .int .u8 0] 23)) := by repeat first | (with_reducible exact Below.refl _ _) | (with_reducible refine below_on ?_ _) | (with_reducible refine below_alloc ?_ _)
  have cR : ∀ {b_ i_ : Nat} {v_ : Value}, (W0).cell? ⟨b_, i_, none⟩ = some v_ → ((on ux).alloc (.cells #[.int .i64 0, .int .i64 0, .int .u8 0] 23)).cell? ⟨b_, i_, none⟩ = some v_ := fun h => (hR.cell (World.block_lt_of_cell? _ _ h)).trans h
  have b00' := cR b00
  have b01' := cR b01
  have b02' := cR b02
  have b10' := cR b10
  have b11' := cR b11
  have b12' := cR b12
  have B100 : ((on ux).alloc (.cells #[.int .i64 0, .int .i64 0, .int .u8 0] 23)).cell? ⟨(on ux).heap.size, 0, none⟩ = some (.int .i64 0) := by simp [go_sem]
  have B101 : ((on ux).alloc (.cells #[.int .i64 0, .int .i64 0, .int .u8 0] 23)).cell? ⟨(on ux).heap.size, 1, none⟩ = some (.int .i64 0) := by simp [go_sem]
  have B102 : ((on ux).alloc (.cells #[.int .i64 0, .int .i64 0, .int .u8 0] 23)).cell? ⟨(on ux).heap.size, 2, none⟩ = some (.int .u8 0) := by simp [go_sem]
  have hB1 : Below w.heap.size w ((on ux).alloc (.cells #[.int .i64 0, .int .i64 0, .int .u8 0] 23)) := by repeat first | (with_reducible exact hB0) | (with_reducible refine below_on ?_ _) | (with_reducible refine below_alloc ?_ _)
  clear hR cR b00 b01 b02 b10 b11 b12  hB0
  generalize ((on ux).alloc (.cells #[.int .i64 0, .int .i64 0, .int .u8 0] 23)) = W1 at *
  generalize (on ux).heap.size = B1 at *
  clear ux
  go_wp2_with (first | (go_at_call 26; with_reducible refine (mvalid_no t X Y _ H.out).mono ?_; rintro e wx ⟨rfl, hx⟩; obtain ⟨ux, rfl⟩ := after hx; clear hx) | (go_at_call 15; with_reducible refine (clives_ok _ (hL' _ (by repeat first | (with_reducible exact hB1) | (with_reducible refine below_on ?_ _) | (with_reducible refine below_alloc ?_ _) | (with_reducible refine below_set ?_ (by simp; try omega) _)))).mono ?_; rintro e wx ⟨rfl, hx⟩; obtain ⟨ux, rfl⟩ := after hx; clear hx) | fail)
  go_ret
  exact ⟨by first | rfl | (simp; done) | (simp; omega), (by repeat first | (with_reducible exact hB1) | (with_reducible refine below_on ?_ _) | (with_reducible refine below_alloc ?_ _) | (with_reducible refine below_set ?_ (by simp; try omega) _))⟩

set_option maxRecDepth 100000 in
set_option maxHeartbeats 8000000 in
theorem cmoveL_bad2 (t X Y x y q e : Int) (w : World) (hL : Lay w) (a1 : 0 ≤ t) (a2 : t ≤ 7) (a3 : -16384 ≤ X) (a4 : X ≤ 16384) (a5 : -16384 ≤ Y) (a6 : Y ≤ 16384) (a7 : (X + Y) % 2 = 0) (h : 3 < q ∨ x < -4096 ∨ 4096 < x ∨ y < -4096 ∨ 4096 < y) : Calls Tryd.prog 6 #[mv t X Y, cl x y q, .int .u8 e] w fun r w' => r = .returned (.bool true) ∧ Below w.heap.size w w' := by
  have HA : Hid ((X + Y) % 2 = 0) := a7
  clear a7
  have H : Hid (3 < q ∨ x < -4096 ∨ 4096 < x ∨ y < -4096 ∨ 4096 < y) := h
  clear h
  have hL' : ∀ W, Below w.heap.size w W → Lay W := fun W h => lay_below hL h
  go_enter Tryd.func6, Tryd.ntmps6
  go_wp2_with fail
  have hB0 : Below w.heap.size w ((w.alloc (.cells #[.int .u8 t, .int .i64 X, .int .i64 Y] 54)).alloc (.cells #[.int .i64 (x), .int .i64 (y), .int .u8 (q)] 23)) := (by repeat first | (with_reducible exact Below.refl _ _) | (with_reducible refine below_on ?_ _) | (with_reducible refine below_alloc ?_ _) | (with_reducible refine below_set ?_ (by simp; try omega) _))
  have b00 : ((w.alloc (.cells #[.int .u8 t, .int .i64 X, .int .i64 Y] 54)).alloc (.cells #[.int .i64 (x), .int .i64 (y), .int .u8 (q)] 23)).cell? ⟨w.heap.size, 0, none⟩ = some (.int .u8 t) := by simp [go_sem]
  have b01 : ((w.alloc (.cells #[.int .u8 t, .int .i64 X, .int .i64 Y] 54)).alloc (.cells #[.int .i64 (x), .int .i64 (y), .int .u8 (q)] 23)).cell? ⟨w.heap.size, 1, none⟩ = some (.int .i64 X) := by simp [go_sem]
  have b02 : ((w.alloc (.cells #[.int .u8 t, .int .i64 X, .int .i64 Y] 54)).alloc (.cells #[.int .i64 (x), .int .i64 (y), .int .u8 (q)] 23)).cell? ⟨w.heap.size, 2, none⟩ = some (.int .i64 Y) := by simp [go_sem]
  have b10 : ((w.alloc (.cells #[.int .u8 t, .int .i64 X, .int .i64 Y] 54)).alloc (.cells #[.int .i64 (x), .int .i64 (y), .int .u8 (q)] 23)).cell? ⟨w.heap.size + 1, 0, none⟩ = some (.int .i64 (x)) := by simp [go_sem]
  have b11 : ((w.alloc (.cells #[.int .u8 t, .int .i64 X, .int .i64 Y] 54)).alloc (.cells #[.int .i64 (x), .int .i64 (y), .int .u8 (q)] 23)).cell? ⟨w.heap.size + 1, 1, none⟩ = some (.int .i64 (y)) := by simp [go_sem]
  have b12 : ((w.alloc (.cells #[.int .u8 t, .int .i64 X, .int .i64 Y] 54)).alloc (.cells #[.int .i64 (x), .int .i64 (y), .int .u8 (q)] 23)).cell? ⟨w.heap.size + 1, 2, none⟩ = some (.int .u8 (q)) := by simp [go_sem]
  generalize ((w.alloc (.cells #[.int .u8 t, .int .i64 X, .int .i64 Y] 54)).alloc (.cells #[.int .i64 (x), .int .i64 (y), .int .u8 (q)] 23)) = W0 at *
  go_wp2_with (first | (go_at_call 25; with_reducible refine (cmv_bad2 t X Y x y q _ a1 a2 a3 a4 a5 a6 HA.out H.out).mono ?_; rintro e wx ⟨rfl, hx⟩; obtain ⟨ux, rfl⟩ := after hx; clear hx) | fail)
  have hR : Below (W0).heap.size (W0) ((on ux).alloc (.cells #[.int .i64 0, .int .i64 0, .int .u8 0] 23)) := by repeat first | (with_reducible exact Below.refl _ _) | (with_reducible refine below_on ?_ _) | (with_reducible refine below_alloc ?_ _)
  have cR : ∀ {b_ i_ : Nat} {v_ : Value}, (W0).cell? ⟨b_, i_, none⟩ = some v_ → ((on ux).alloc (.cells #[.int .i64 0, .int .i64 0, .int .u8 0] 23)).cell? ⟨b_, i_, none⟩ = some v_ := fun h => (hR.cell (World.block_lt_of_cell? _ _ h)).trans h
  have b00' := cR b00
  have b01' := cR b01
  have b02' := cR b02
  have b10' := cR b10
  have b11' := cR b11
  have b12' := cR b12
  have B100 : ((on ux).alloc (.cells #[.int .i64 0, .int .i64 0, .int .u8 0] 23)).cell? ⟨(on ux).heap.size, 0, none⟩ = some (.int .i64 0) := by simp [go_sem]
  have B101 : ((on ux).alloc (.cells #[.int .i64 0, .int .i64 0, .int .u8 0] 23)).cell? ⟨(on ux).heap.size, 1, none⟩ = some (.int .i64 0) := by simp [go_sem]
  have B102 : ((on ux).alloc (.cells #[.int .i64 0, .int .i64 0, .int .u8 0] 23)).cell? ⟨(on ux).heap.size, 2, none⟩ = some (.int .u8 0) := by simp [go_sem]
  have hB1 : Below w.heap.size w ((on ux).alloc (.cells #[.int .i64 0, .int .i64 0, .int .u8 0] 23)) := by repeat first | (with_reducible exact hB0) | (with_reducible refine below_on ?_ _) | (with_reducible refine below_alloc ?_ _)
  clear hR cR b00 b01 b02 b10 b11 b12  hB0
  generalize ((on ux).alloc (.cells #[.int .i64 0, .int .i64 0, .int .u8 0] 23)) = W1 at *
  generalize (on ux).heap.size = B1 at *
  clear ux
  go_wp2_with (first | (go_at_call 26; with_reducible refine (mvalid_yes t X Y _ a1 a2 a3 a4 a5 a6 HA.out).mono ?_; rintro e wx ⟨rfl, hx⟩; obtain ⟨ux, rfl⟩ := after hx; clear hx) | (go_at_call 13; with_reducible refine (rvalid_no x y q _ H.out).mono ?_; rintro e wx ⟨rfl, hx⟩; obtain ⟨ux, rfl⟩ := after hx; clear hx) | (go_at_call 15; with_reducible refine (clives_ok _ (hL' _ (by repeat first | (with_reducible exact hB1) | (with_reducible refine below_on ?_ _) | (with_reducible refine below_alloc ?_ _) | (with_reducible refine below_set ?_ (by simp; try omega) _)))).mono ?_; rintro e wx ⟨rfl, hx⟩; obtain ⟨ux, rfl⟩ := after hx; clear hx) | fail)
  go_ret
  exact ⟨by first | rfl | (simp; done) | (simp; omega), (by repeat first | (with_reducible exact hB1) | (with_reducible refine below_on ?_ _) | (with_reducible refine below_alloc ?_ _) | (with_reducible refine below_set ?_ (by simp; try omega) _))⟩

set_option maxRecDepth 100000 in
set_option maxHeartbeats 8000000 in
theorem cmoveL_far (t X Y x y q e : Int) (w : World) (hL : Lay w) (a1 : 0 ≤ t) (a2 : t ≤ 7) (a3 : -16384 ≤ X) (a4 : X ≤ 16384) (a5 : -16384 ≤ Y) (a6 : Y ≤ 16384) (a7 : (X + Y) % 2 = 0) (c1 : -4096 ≤ x) (c2 : x ≤ 4096) (c3 : -4096 ≤ y) (c4 : y ≤ 4096) (c5 : 0 ≤ q) (c6 : q ≤ 3) (hm : imX t X x y < -4096 ∨ 4096 < imX t X x y ∨ imY t Y x y < -4096 ∨ 4096 < imY t Y x y) : Calls Tryd.prog 6 #[mv t X Y, cl x y q, .int .u8 e] w fun r w' => r = .returned (.bool true) ∧ Below w.heap.size w w' := by
  have HA : Hid ((X + Y) % 2 = 0) := a7
  clear a7
  have HM : Hid (imX t X x y < -4096 ∨ 4096 < imX t X x y ∨ imY t Y x y < -4096 ∨ 4096 < imY t Y x y) := hm
  clear hm
  have hL' : ∀ W, Below w.heap.size w W → Lay W := fun W h => lay_below hL h
  go_enter Tryd.func6, Tryd.ntmps6
  go_wp2_with fail
  have hB0 : Below w.heap.size w ((w.alloc (.cells #[.int .u8 t, .int .i64 X, .int .i64 Y] 54)).alloc (.cells #[.int .i64 (x), .int .i64 (y), .int .u8 (q)] 23)) := (by repeat first | (with_reducible exact Below.refl _ _) | (with_reducible refine below_on ?_ _) | (with_reducible refine below_alloc ?_ _) | (with_reducible refine below_set ?_ (by simp; try omega) _))
  have b00 : ((w.alloc (.cells #[.int .u8 t, .int .i64 X, .int .i64 Y] 54)).alloc (.cells #[.int .i64 (x), .int .i64 (y), .int .u8 (q)] 23)).cell? ⟨w.heap.size, 0, none⟩ = some (.int .u8 t) := by simp [go_sem]
  have b01 : ((w.alloc (.cells #[.int .u8 t, .int .i64 X, .int .i64 Y] 54)).alloc (.cells #[.int .i64 (x), .int .i64 (y), .int .u8 (q)] 23)).cell? ⟨w.heap.size, 1, none⟩ = some (.int .i64 X) := by simp [go_sem]
  have b02 : ((w.alloc (.cells #[.int .u8 t, .int .i64 X, .int .i64 Y] 54)).alloc (.cells #[.int .i64 (x), .int .i64 (y), .int .u8 (q)] 23)).cell? ⟨w.heap.size, 2, none⟩ = some (.int .i64 Y) := by simp [go_sem]
  have b10 : ((w.alloc (.cells #[.int .u8 t, .int .i64 X, .int .i64 Y] 54)).alloc (.cells #[.int .i64 (x), .int .i64 (y), .int .u8 (q)] 23)).cell? ⟨w.heap.size + 1, 0, none⟩ = some (.int .i64 (x)) := by simp [go_sem]
  have b11 : ((w.alloc (.cells #[.int .u8 t, .int .i64 X, .int .i64 Y] 54)).alloc (.cells #[.int .i64 (x), .int .i64 (y), .int .u8 (q)] 23)).cell? ⟨w.heap.size + 1, 1, none⟩ = some (.int .i64 (y)) := by simp [go_sem]
  have b12 : ((w.alloc (.cells #[.int .u8 t, .int .i64 X, .int .i64 Y] 54)).alloc (.cells #[.int .i64 (x), .int .i64 (y), .int .u8 (q)] 23)).cell? ⟨w.heap.size + 1, 2, none⟩ = some (.int .u8 (q)) := by simp [go_sem]
  generalize ((w.alloc (.cells #[.int .u8 t, .int .i64 X, .int .i64 Y] 54)).alloc (.cells #[.int .i64 (x), .int .i64 (y), .int .u8 (q)] 23)) = W0 at *
  go_wp2_with (first | (go_at_call 25; with_reducible refine (cmv_far t X Y x y q _ (hL' _ (by repeat first | (with_reducible exact hB0) | (with_reducible refine below_on ?_ _) | (with_reducible refine below_alloc ?_ _) | (with_reducible refine below_set ?_ (by simp; try omega) _))) a1 a2 a3 a4 a5 a6 HA.out c1 c2 c3 c4 c5 c6 HM.out).mono ?_; rintro e wx ⟨rfl, hx⟩; obtain ⟨ux, rfl⟩ := after hx; clear hx) | fail)
  have hR : Below (W0).heap.size (W0) ((on ux).alloc (.cells #[.int .i64 0, .int .i64 0, .int .u8 0] 23)) := by repeat first | (with_reducible exact Below.refl _ _) | (with_reducible refine below_on ?_ _) | (with_reducible refine below_alloc ?_ _)
  have cR : ∀ {b_ i_ : Nat} {v_ : Value}, (W0).cell? ⟨b_, i_, none⟩ = some v_ → ((on ux).alloc (.cells #[.int .i64 0, .int .i64 0, .int .u8 0] 23)).cell? ⟨b_, i_, none⟩ = some v_ := fun h => (hR.cell (World.block_lt_of_cell? _ _ h)).trans h
  have b00' := cR b00
  have b01' := cR b01
  have b02' := cR b02
  have b10' := cR b10
  have b11' := cR b11
  have b12' := cR b12
  have B100 : ((on ux).alloc (.cells #[.int .i64 0, .int .i64 0, .int .u8 0] 23)).cell? ⟨(on ux).heap.size, 0, none⟩ = some (.int .i64 0) := by simp [go_sem]
  have B101 : ((on ux).alloc (.cells #[.int .i64 0, .int .i64 0, .int .u8 0] 23)).cell? ⟨(on ux).heap.size, 1, none⟩ = some (.int .i64 0) := by simp [go_sem]
  have B102 : ((on ux).alloc (.cells #[.int .i64 0, .int .i64 0, .int .u8 0] 23)).cell? ⟨(on ux).heap.size, 2, none⟩ = some (.int .u8 0) := by simp [go_sem]
  have hB1 : Below w.heap.size w ((on ux).alloc (.cells #[.int .i64 0, .int .i64 0, .int .u8 0] 23)) := by repeat first | (with_reducible exact hB0) | (with_reducible refine below_on ?_ _) | (with_reducible refine below_alloc ?_ _)
  clear hR cR b00 b01 b02 b10 b11 b12  hB0
  generalize ((on ux).alloc (.cells #[.int .i64 0, .int .i64 0, .int .u8 0] 23)) = W1 at *
  generalize (on ux).heap.size = B1 at *
  clear ux
  go_wp2_with (first | (go_at_call 26; with_reducible refine (mvalid_yes t X Y _ a1 a2 a3 a4 a5 a6 HA.out).mono ?_; rintro e wx ⟨rfl, hx⟩; obtain ⟨ux, rfl⟩ := after hx; clear hx) | (go_at_call 13; with_reducible refine (rvalid_yes x y q _ c1 c2 c3 c4 c5 c6).mono ?_; rintro e wx ⟨rfl, hx⟩; obtain ⟨ux, rfl⟩ := after hx; clear hx) | fail)
  go_wp2_with (first | (go_at_call 27; with_reducible refine (rmove_any t X Y x y q _ a1 a2 a3 a4 a5 a6 HA.out (by omega) (by omega) (by omega) (by omega) c5 c6).mono ?_; rintro e wx ⟨rfl, hx⟩; obtain ⟨ux, rfl⟩ := after hx; clear hx) | fail)
  have hR : Below (W1).heap.size (W1) ((on ux).alloc (.cells #[.int .i64 (imX t X x y), .int .i64 (imY t Y x y), .int .u8 (imQ t q)] 23)) := by repeat first | (with_reducible exact Below.refl _ _) | (with_reducible refine below_on ?_ _) | (with_reducible refine below_alloc ?_ _)
  have cR : ∀ {b_ i_ : Nat} {v_ : Value}, (W1).cell? ⟨b_, i_, none⟩ = some v_ → ((on ux).alloc (.cells #[.int .i64 (imX t X x y), .int .i64 (imY t Y x y), .int .u8 (imQ t q)] 23)).cell? ⟨b_, i_, none⟩ = some v_ := fun h => (hR.cell (World.block_lt_of_cell? _ _ h)).trans h
  have b00'' := cR b00'
  have b01'' := cR b01'
  have b02'' := cR b02'
  have b10'' := cR b10'
  have b11'' := cR b11'
  have b12'' := cR b12'
  have B100' := cR B100
  have B101' := cR B101
  have B102' := cR B102
  have B200 : ((on ux).alloc (.cells #[.int .i64 (imX t X x y), .int .i64 (imY t Y x y), .int .u8 (imQ t q)] 23)).cell? ⟨(on ux).heap.size, 0, none⟩ = some (.int .i64 (imX t X x y)) := by simp [go_sem]
  have B201 : ((on ux).alloc (.cells #[.int .i64 (imX t X x y), .int .i64 (imY t Y x y), .int .u8 (imQ t q)] 23)).cell? ⟨(on ux).heap.size, 1, none⟩ = some (.int .i64 (imY t Y x y)) := by simp [go_sem]
  have B202 : ((on ux).alloc (.cells #[.int .i64 (imX t X x y), .int .i64 (imY t Y x y), .int .u8 (imQ t q)] 23)).cell? ⟨(on ux).heap.size, 2, none⟩ = some (.int .u8 (imQ t q)) := by simp [go_sem]
  have hB2 : Below w.heap.size w ((on ux).alloc (.cells #[.int .i64 (imX t X x y), .int .i64 (imY t Y x y), .int .u8 (imQ t q)] 23)) := by repeat first | (with_reducible exact hB1) | (with_reducible refine below_on ?_ _) | (with_reducible refine below_alloc ?_ _)
  clear hR cR b00' b01' b02' b10' b11' b12' B100 B101 B102  hB1
  generalize ((on ux).alloc (.cells #[.int .i64 (imX t X x y), .int .i64 (imY t Y x y), .int .u8 (imQ t q)] 23)) = W2 at *
  generalize (on ux).heap.size = B2 at *
  clear ux
  go_wp2_with (first | (go_at_call 13; with_reducible refine (rvalid_no (imX t X x y) (imY t Y x y) (imQ t q) _ (.inr HM.out)).mono ?_; rintro e wx ⟨rfl, hx⟩; obtain ⟨ux, rfl⟩ := after hx; clear hx) | (go_at_call 15; with_reducible refine (clives_ok _ (hL' _ (by repeat first | (with_reducible exact hB2) | (with_reducible refine below_on ?_ _) | (with_reducible refine below_alloc ?_ _) | (with_reducible refine below_set ?_ (by simp; try omega) _)))).mono ?_; rintro e wx ⟨rfl, hx⟩; obtain ⟨ux, rfl⟩ := after hx; clear hx) | fail)
  go_ret
  exact ⟨by first | rfl | (simp; done) | (simp; omega), (by repeat first | (with_reducible exact hB2) | (with_reducible refine below_on ?_ _) | (with_reducible refine below_alloc ?_ _) | (with_reducible refine below_set ?_ (by simp; try omega) _))⟩

set_option maxRecDepth 100000 in
set_option maxHeartbeats 8000000 in
theorem cmoveL_out (t X Y x y q e A B C a b c k l m g : Int) (w : World) (hL : Lay w) (a1 : 0 ≤ t) (a2 : t ≤ 7) (a3 : -16384 ≤ X) (a4 : X ≤ 16384) (a5 : -16384 ≤ Y) (a6 : Y ≤ 16384) (a7 : (X + Y) % 2 = 0) (c1 : -4096 ≤ x) (c2 : x ≤ 4096) (c3 : -4096 ≤ y) (c4 : y ≤ 4096) (c5 : 0 ≤ q) (c6 : q ≤ 3) (d1 : -4096 ≤ A) (d2 : A ≤ 4096) (d3 : -4096 ≤ B) (d4 : B ≤ 4096) (d5 : 0 ≤ C) (d6 : C ≤ 3) (e0 : 0 ≤ e) (e255 : e ≤ 255)
    (M1 : ∀ W, Lay W → Calls Tryd.prog 25 #[mv t X Y, cl x y q] W fun r w' => r = .returned (.tuple #[cl A B C, .int .i64 0]) ∧ Below W.heap.size W w')
    (M2 : ∀ W, Calls Tryd.prog 27 #[mv t X Y, cl x y q] W fun r w' => r = .returned (cl A B C) ∧ Below W.heap.size W w')
    (M3 : ∀ W, Calls Tryd.prog 21 #[cl x y q, .int .i64 (e % 3)] W fun r w' => r = .returned (cl a b c) ∧ Below W.heap.size W w') (M4 : ∀ W, Lay W → Calls Tryd.prog 25 #[mv t X Y, cl a b c] W fun r w' => r = .returned (.tuple #[cl 0 0 0, .int .i64 1]) ∧ Below W.heap.size W w') (V1 : ∀ W, Calls Tryd.prog 13 #[cl a b c] W fun r w' => r = .returned (.int .i64 0) ∧ Below W.heap.size W w') : Calls Tryd.prog 6 #[mv t X Y, cl x y q, .int .u8 e] w fun r w' => r = .returned (.bool true) ∧ Below w.heap.size w w' := by
  have HA : Hid ((X + Y) % 2 = 0) := a7
  clear a7
  have hL' : ∀ W, Below w.heap.size w W → Lay W := fun W h => lay_below hL h
  go_enter Tryd.func6, Tryd.ntmps6
  go_wp2_with fail
  have hB0 : Below w.heap.size w ((w.alloc (.cells #[.int .u8 t, .int .i64 X, .int .i64 Y] 54)).alloc (.cells #[.int .i64 (x), .int .i64 (y), .int .u8 (q)] 23)) := (by repeat first | (with_reducible exact Below.refl _ _) | (with_reducible refine below_on ?_ _) | (with_reducible refine below_alloc ?_ _) | (with_reducible refine below_set ?_ (by simp; try omega) _))
  have b00 : ((w.alloc (.cells #[.int .u8 t, .int .i64 X, .int .i64 Y] 54)).alloc (.cells #[.int .i64 (x), .int .i64 (y), .int .u8 (q)] 23)).cell? ⟨w.heap.size, 0, none⟩ = some (.int .u8 t) := by simp [go_sem]
  have b01 : ((w.alloc (.cells #[.int .u8 t, .int .i64 X, .int .i64 Y] 54)).alloc (.cells #[.int .i64 (x), .int .i64 (y), .int .u8 (q)] 23)).cell? ⟨w.heap.size, 1, none⟩ = some (.int .i64 X) := by simp [go_sem]
  have b02 : ((w.alloc (.cells #[.int .u8 t, .int .i64 X, .int .i64 Y] 54)).alloc (.cells #[.int .i64 (x), .int .i64 (y), .int .u8 (q)] 23)).cell? ⟨w.heap.size, 2, none⟩ = some (.int .i64 Y) := by simp [go_sem]
  have b10 : ((w.alloc (.cells #[.int .u8 t, .int .i64 X, .int .i64 Y] 54)).alloc (.cells #[.int .i64 (x), .int .i64 (y), .int .u8 (q)] 23)).cell? ⟨w.heap.size + 1, 0, none⟩ = some (.int .i64 (x)) := by simp [go_sem]
  have b11 : ((w.alloc (.cells #[.int .u8 t, .int .i64 X, .int .i64 Y] 54)).alloc (.cells #[.int .i64 (x), .int .i64 (y), .int .u8 (q)] 23)).cell? ⟨w.heap.size + 1, 1, none⟩ = some (.int .i64 (y)) := by simp [go_sem]
  have b12 : ((w.alloc (.cells #[.int .u8 t, .int .i64 X, .int .i64 Y] 54)).alloc (.cells #[.int .i64 (x), .int .i64 (y), .int .u8 (q)] 23)).cell? ⟨w.heap.size + 1, 2, none⟩ = some (.int .u8 (q)) := by simp [go_sem]
  generalize ((w.alloc (.cells #[.int .u8 t, .int .i64 X, .int .i64 Y] 54)).alloc (.cells #[.int .i64 (x), .int .i64 (y), .int .u8 (q)] 23)) = W0 at *
  go_wp2_with (first | (go_at_call 25; with_reducible refine (M1 _ (hL' _ (by repeat first | (with_reducible exact hB0) | (with_reducible refine below_on ?_ _) | (with_reducible refine below_alloc ?_ _) | (with_reducible refine below_set ?_ (by simp; try omega) _)))).mono ?_; rintro e wx ⟨rfl, hx⟩; obtain ⟨ux, rfl⟩ := after hx; clear hx) | fail)
  have hR : Below (W0).heap.size (W0) ((on ux).alloc (.cells #[.int .i64 (A), .int .i64 (B), .int .u8 (C)] 23)) := by repeat first | (with_reducible exact Below.refl _ _) | (with_reducible refine below_on ?_ _) | (with_reducible refine below_alloc ?_ _)
  have cR : ∀ {b_ i_ : Nat} {v_ : Value}, (W0).cell? ⟨b_, i_, none⟩ = some v_ → ((on ux).alloc (.cells #[.int .i64 (A), .int .i64 (B), .int .u8 (C)] 23)).cell? ⟨b_, i_, none⟩ = some v_ := fun h => (hR.cell (World.block_lt_of_cell? _ _ h)).trans h
  have b00' := cR b00
  have b01' := cR b01
  have b02' := cR b02
  have b10' := cR b10
  have b11' := cR b11
  have b12' := cR b12
  have B100 : ((on ux).alloc (.cells #[.int .i64 (A), .int .i64 (B), .int .u8 (C)] 23)).cell? ⟨(on ux).heap.size, 0, none⟩ = some (.int .i64 (A)) := by simp [go_sem]
  have B101 : ((on ux).alloc (.cells #[.int .i64 (A), .int .i64 (B), .int .u8 (C)] 23)).cell? ⟨(on ux).heap.size, 1, none⟩ = some (.int .i64 (B)) := by simp [go_sem]
  have B102 : ((on ux).alloc (.cells #[.int .i64 (A), .int .i64 (B), .int .u8 (C)] 23)).cell? ⟨(on ux).heap.size, 2, none⟩ = some (.int .u8 (C)) := by simp [go_sem]
  have hB1 : Below w.heap.size w ((on ux).alloc (.cells #[.int .i64 (A), .int .i64 (B), .int .u8 (C)] 23)) := by repeat first | (with_reducible exact hB0) | (with_reducible refine below_on ?_ _) | (with_reducible refine below_alloc ?_ _)
  clear hR cR b00 b01 b02 b10 b11 b12  hB0
  generalize ((on ux).alloc (.cells #[.int .i64 (A), .int .i64 (B), .int .u8 (C)] 23)) = W1 at *
  generalize (on ux).heap.size = B1 at *
  clear ux
  go_wp2_with (first | (go_at_call 26; with_reducible refine (mvalid_yes t X Y _ a1 a2 a3 a4 a5 a6 HA.out).mono ?_; rintro e wx ⟨rfl, hx⟩; obtain ⟨ux, rfl⟩ := after hx; clear hx) | (go_at_call 13; with_reducible refine (rvalid_yes x y q _ c1 c2 c3 c4 c5 c6).mono ?_; rintro e wx ⟨rfl, hx⟩; obtain ⟨ux, rfl⟩ := after hx; clear hx) | fail)
  go_wp2_with (first | (go_at_call 27; with_reducible refine (M2 _).mono ?_; rintro e wx ⟨rfl, hx⟩; obtain ⟨ux, rfl⟩ := after hx; clear hx) | fail)
  have hR : Below (W1).heap.size (W1) ((on ux).alloc (.cells #[.int .i64 (A), .int .i64 (B), .int .u8 (C)] 23)) := by repeat first | (with_reducible exact Below.refl _ _) | (with_reducible refine below_on ?_ _) | (with_reducible refine below_alloc ?_ _)
  have cR : ∀ {b_ i_ : Nat} {v_ : Value}, (W1).cell? ⟨b_, i_, none⟩ = some v_ → ((on ux).alloc (.cells #[.int .i64 (A), .int .i64 (B), .int .u8 (C)] 23)).cell? ⟨b_, i_, none⟩ = some v_ := fun h => (hR.cell (World.block_lt_of_cell? _ _ h)).trans h
  have b00'' := cR b00'
  have b01'' := cR b01'
  have b02'' := cR b02'
  have b10'' := cR b10'
  have b11'' := cR b11'
  have b12'' := cR b12'
  have B100' := cR B100
  have B101' := cR B101
  have B102' := cR B102
  have B200 : ((on ux).alloc (.cells #[.int .i64 (A), .int .i64 (B), .int .u8 (C)] 23)).cell? ⟨(on ux).heap.size, 0, none⟩ = some (.int .i64 (A)) := by simp [go_sem]
  have B201 : ((on ux).alloc (.cells #[.int .i64 (A), .int .i64 (B), .int .u8 (C)] 23)).cell? ⟨(on ux).heap.size, 1, none⟩ = some (.int .i64 (B)) := by simp [go_sem]
  have B202 : ((on ux).alloc (.cells #[.int .i64 (A), .int .i64 (B), .int .u8 (C)] 23)).cell? ⟨(on ux).heap.size, 2, none⟩ = some (.int .u8 (C)) := by simp [go_sem]
  have hB2 : Below w.heap.size w ((on ux).alloc (.cells #[.int .i64 (A), .int .i64 (B), .int .u8 (C)] 23)) := by repeat first | (with_reducible exact hB1) | (with_reducible refine below_on ?_ _) | (with_reducible refine below_alloc ?_ _)
  clear hR cR b00' b01' b02' b10' b11' b12' B100 B101 B102  hB1
  generalize ((on ux).alloc (.cells #[.int .i64 (A), .int .i64 (B), .int .u8 (C)] 23)) = W2 at *
  generalize (on ux).heap.size = B2 at *
  clear ux
  go_wp2_with (first | (go_at_call 13; with_reducible refine (rvalid_yes A B C _ d1 d2 d3 d4 d5 d6).mono ?_; rintro e wx ⟨rfl, hx⟩; obtain ⟨ux, rfl⟩ := after hx; clear hx) | fail)
  go_wp2_with (first | (go_at_call 21; with_reducible refine (M3 _).mono ?_; rintro e wx ⟨rfl, hx⟩; obtain ⟨ux, rfl⟩ := after hx; clear hx) | fail)
  have hR : Below (W2).heap.size (W2) ((on ux).alloc (.cells #[.int .i64 (a), .int .i64 (b), .int .u8 (c)] 23)) := by repeat first | (with_reducible exact Below.refl _ _) | (with_reducible refine below_on ?_ _) | (with_reducible refine below_alloc ?_ _)
  have cR : ∀ {b_ i_ : Nat} {v_ : Value}, (W2).cell? ⟨b_, i_, none⟩ = some v_ → ((on ux).alloc (.cells #[.int .i64 (a), .int .i64 (b), .int .u8 (c)] 23)).cell? ⟨b_, i_, none⟩ = some v_ := fun h => (hR.cell (World.block_lt_of_cell? _ _ h)).trans h
  have b00''' := cR b00''
  have b01''' := cR b01''
  have b02''' := cR b02''
  have b10''' := cR b10''
  have b11''' := cR b11''
  have b12''' := cR b12''
  have B100'' := cR B100'
  have B101'' := cR B101'
  have B102'' := cR B102'
  have B200' := cR B200
  have B201' := cR B201
  have B202' := cR B202
  have B300 : ((on ux).alloc (.cells #[.int .i64 (a), .int .i64 (b), .int .u8 (c)] 23)).cell? ⟨(on ux).heap.size, 0, none⟩ = some (.int .i64 (a)) := by simp [go_sem]
  have B301 : ((on ux).alloc (.cells #[.int .i64 (a), .int .i64 (b), .int .u8 (c)] 23)).cell? ⟨(on ux).heap.size, 1, none⟩ = some (.int .i64 (b)) := by simp [go_sem]
  have B302 : ((on ux).alloc (.cells #[.int .i64 (a), .int .i64 (b), .int .u8 (c)] 23)).cell? ⟨(on ux).heap.size, 2, none⟩ = some (.int .u8 (c)) := by simp [go_sem]
  have hB3 : Below w.heap.size w ((on ux).alloc (.cells #[.int .i64 (a), .int .i64 (b), .int .u8 (c)] 23)) := by repeat first | (with_reducible exact hB2) | (with_reducible refine below_on ?_ _) | (with_reducible refine below_alloc ?_ _)
  clear hR cR b00'' b01'' b02'' b10'' b11'' b12'' B100' B101' B102' B200 B201 B202  hB2
  generalize ((on ux).alloc (.cells #[.int .i64 (a), .int .i64 (b), .int .u8 (c)] 23)) = W3 at *
  generalize (on ux).heap.size = B3 at *
  clear ux
  go_wp2_with (first | (go_at_call 25; with_reducible refine (M4 _ (hL' _ (by repeat first | (with_reducible exact hB3) | (with_reducible refine below_on ?_ _) | (with_reducible refine below_alloc ?_ _) | (with_reducible refine below_set ?_ (by simp; try omega) _)))).mono ?_; rintro e wx ⟨rfl, hx⟩; obtain ⟨ux, rfl⟩ := after hx; clear hx) | fail)
  have hR : Below (W3).heap.size (W3) ((on ux).alloc (.cells #[.int .i64 0, .int .i64 0, .int .u8 0] 23)) := by repeat first | (with_reducible exact Below.refl _ _) | (with_reducible refine below_on ?_ _) | (with_reducible refine below_alloc ?_ _)
  have cR : ∀ {b_ i_ : Nat} {v_ : Value}, (W3).cell? ⟨b_, i_, none⟩ = some v_ → ((on ux).alloc (.cells #[.int .i64 0, .int .i64 0, .int .u8 0] 23)).cell? ⟨b_, i_, none⟩ = some v_ := fun h => (hR.cell (World.block_lt_of_cell? _ _ h)).trans h
  have b00'''' := cR b00'''
  have b01'''' := cR b01'''
  have b02'''' := cR b02'''
  have b10'''' := cR b10'''
  have b11'''' := cR b11'''
  have b12'''' := cR b12'''
  have B100''' := cR B100''
  have B101''' := cR B101''
  have B102''' := cR B102''
  have B200'' := cR B200'
  have B201'' := cR B201'
  have B202'' := cR B202'
  have B300' := cR B300
  have B301' := cR B301
  have B302' := cR B302
  have B400 : ((on ux).alloc (.cells #[.int .i64 0, .int .i64 0, .int .u8 0] 23)).cell? ⟨(on ux).heap.size, 0, none⟩ = some (.int .i64 0) := by simp [go_sem]
  have B401 : ((on ux).alloc (.cells #[.int .i64 0, .int .i64 0, .int .u8 0] 23)).cell? ⟨(on ux).heap.size, 1, none⟩ = some (.int .i64 0) := by simp [go_sem]
  have B402 : ((on ux).alloc (.cells #[.int .i64 0, .int .i64 0, .int .u8 0] 23)).cell? ⟨(on ux).heap.size, 2, none⟩ = some (.int .u8 0) := by simp [go_sem]
  have hB4 : Below w.heap.size w ((on ux).alloc (.cells #[.int .i64 0, .int .i64 0, .int .u8 0] 23)) := by repeat first | (with_reducible exact hB3) | (with_reducible refine below_on ?_ _) | (with_reducible refine below_alloc ?_ _)
  clear hR cR b00''' b01''' b02''' b10''' b11''' b12''' B100'' B101'' B102'' B200' B201' B202' B300 B301 B302  hB3
  generalize ((on ux).alloc (.cells #[.int .i64 0, .int .i64 0, .int .u8 0] 23)) = W4 at *
  generalize (on ux).heap.size = B4 at *
  clear ux
  go_wp2_with (first | (go_at_call 13; with_reducible refine (V1 _).mono ?_; rintro e wx ⟨rfl, hx⟩; obtain ⟨ux, rfl⟩ := after hx; clear hx) | (go_at_call 15; with_reducible refine (clives_ok _ (hL' _ (by repeat first | (with_reducible exact hB4) | (with_reducible refine below_on ?_ _) | (with_reducible refine below_alloc ?_ _) | (with_reducible refine below_set ?_ (by simp; try omega) _)))).mono ?_; rintro e wx ⟨rfl, hx⟩; obtain ⟨ux, rfl⟩ := after hx; clear hx) | fail)
  go_ret
  exact ⟨by first | rfl | (simp; done) | (simp; omega), (by repeat first | (with_reducible exact hB4) | (with_reducible refine below_on ?_ _) | (with_reducible refine below_alloc ?_ _) | (with_reducible refine below_set ?_ (by simp; try omega) _))⟩

set_option maxRecDepth 100000 in
set_option maxHeartbeats 8000000 in
theorem cmoveL_beyond (t X Y x y q e A B C a b c k l m g : Int) (w : World) (hL : Lay w) (a1 : 0 ≤ t) (a2 : t ≤ 7) (a3 : -16384 ≤ X) (a4 : X ≤ 16384) (a5 : -16384 ≤ Y) (a6 : Y ≤ 16384) (a7 : (X + Y) % 2 = 0) (c1 : -4096 ≤ x) (c2 : x ≤ 4096) (c3 : -4096 ≤ y) (c4 : y ≤ 4096) (c5 : 0 ≤ q) (c6 : q ≤ 3) (d1 : -4096 ≤ A) (d2 : A ≤ 4096) (d3 : -4096 ≤ B) (d4 : B ≤ 4096) (d5 : 0 ≤ C) (d6 : C ≤ 3) (e0 : 0 ≤ e) (e255 : e ≤ 255)
    (M1 : ∀ W, Lay W → Calls Tryd.prog 25 #[mv t X Y, cl x y q] W fun r w' => r = .returned (.tuple #[cl A B C, .int .i64 0]) ∧ Below W.heap.size W w')
    (M2 : ∀ W, Calls Tryd.prog 27 #[mv t X Y, cl x y q] W fun r w' => r = .returned (cl A B C) ∧ Below W.heap.size W w')
    (M3 : ∀ W, Calls Tryd.prog 21 #[cl x y q, .int .i64 (e % 3)] W fun r w' => r = .returned (cl a b c) ∧ Below W.heap.size W w') (M4 : ∀ W, Lay W → Calls Tryd.prog 25 #[mv t X Y, cl a b c] W fun r w' => r = .returned (.tuple #[cl 0 0 0, .int .i64 3]) ∧ Below W.heap.size W w') (V1 : ∀ W, Calls Tryd.prog 13 #[cl a b c] W fun r w' => r = .returned (.int .i64 1) ∧ Below W.heap.size W w') (M5 : ∀ W, Calls Tryd.prog 27 #[mv t X Y, cl a b c] W fun r w' => r = .returned (cl k l m) ∧ Below W.heap.size W w') (V2 : ∀ W, Calls Tryd.prog 13 #[cl k l m] W fun r w' => r = .returned (.int .i64 0) ∧ Below W.heap.size W w') : Calls Tryd.prog 6 #[mv t X Y, cl x y q, .int .u8 e] w fun r w' => r = .returned (.bool true) ∧ Below w.heap.size w w' := by
  have HA : Hid ((X + Y) % 2 = 0) := a7
  clear a7
  have hL' : ∀ W, Below w.heap.size w W → Lay W := fun W h => lay_below hL h
  go_enter Tryd.func6, Tryd.ntmps6
  go_wp2_with fail
  have hB0 : Below w.heap.size w ((w.alloc (.cells #[.int .u8 t, .int .i64 X, .int .i64 Y] 54)).alloc (.cells #[.int .i64 (x), .int .i64 (y), .int .u8 (q)] 23)) := (by repeat first | (with_reducible exact Below.refl _ _) | (with_reducible refine below_on ?_ _) | (with_reducible refine below_alloc ?_ _) | (with_reducible refine below_set ?_ (by simp; try omega) _))
  have b00 : ((w.alloc (.cells #[.int .u8 t, .int .i64 X, .int .i64 Y] 54)).alloc (.cells #[.int .i64 (x), .int .i64 (y), .int .u8 (q)] 23)).cell? ⟨w.heap.size, 0, none⟩ = some (.int .u8 t) := by simp [go_sem]
  have b01 : ((w.alloc (.cells #[.int .u8 t, .int .i64 X, .int .i64 Y] 54)).alloc (.cells #[.int .i64 (x), .int .i64 (y), .int .u8 (q)] 23)).cell? ⟨w.heap.size, 1, none⟩ = some (.int .i64 X) := by simp [go_sem]
  have b02 : ((w.alloc (.cells #[.int .u8 t, .int .i64 X, .int .i64 Y] 54)).alloc (.cells #[.int .i64 (x), .int .i64 (y), .int .u8 (q)] 23)).cell? ⟨w.heap.size, 2, none⟩ = some (.int .i64 Y) := by simp [go_sem]
  have b10 : ((w.alloc (.cells #[.int .u8 t, .int .i64 X, .int .i64 Y] 54)).alloc (.cells #[.int .i64 (x), .int .i64 (y), .int .u8 (q)] 23)).cell? ⟨w.heap.size + 1, 0, none⟩ = some (.int .i64 (x)) := by simp [go_sem]
  have b11 : ((w.alloc (.cells #[.int .u8 t, .int .i64 X, .int .i64 Y] 54)).alloc (.cells #[.int .i64 (x), .int .i64 (y), .int .u8 (q)] 23)).cell? ⟨w.heap.size + 1, 1, none⟩ = some (.int .i64 (y)) := by simp [go_sem]
  have b12 : ((w.alloc (.cells #[.int .u8 t, .int .i64 X, .int .i64 Y] 54)).alloc (.cells #[.int .i64 (x), .int .i64 (y), .int .u8 (q)] 23)).cell? ⟨w.heap.size + 1, 2, none⟩ = some (.int .u8 (q)) := by simp [go_sem]
  generalize ((w.alloc (.cells #[.int .u8 t, .int .i64 X, .int .i64 Y] 54)).alloc (.cells #[.int .i64 (x), .int .i64 (y), .int .u8 (q)] 23)) = W0 at *
  go_wp2_with (first | (go_at_call 25; with_reducible refine (M1 _ (hL' _ (by repeat first | (with_reducible exact hB0) | (with_reducible refine below_on ?_ _) | (with_reducible refine below_alloc ?_ _) | (with_reducible refine below_set ?_ (by simp; try omega) _)))).mono ?_; rintro e wx ⟨rfl, hx⟩; obtain ⟨ux, rfl⟩ := after hx; clear hx) | fail)
  have hR : Below (W0).heap.size (W0) ((on ux).alloc (.cells #[.int .i64 (A), .int .i64 (B), .int .u8 (C)] 23)) := by repeat first | (with_reducible exact Below.refl _ _) | (with_reducible refine below_on ?_ _) | (with_reducible refine below_alloc ?_ _)
  have cR : ∀ {b_ i_ : Nat} {v_ : Value}, (W0).cell? ⟨b_, i_, none⟩ = some v_ → ((on ux).alloc (.cells #[.int .i64 (A), .int .i64 (B), .int .u8 (C)] 23)).cell? ⟨b_, i_, none⟩ = some v_ := fun h => (hR.cell (World.block_lt_of_cell? _ _ h)).trans h
  have b00' := cR b00
  have b01' := cR b01
  have b02' := cR b02
  have b10' := cR b10
  have b11' := cR b11
  have b12' := cR b12
  have B100 : ((on ux).alloc (.cells #[.int .i64 (A), .int .i64 (B), .int .u8 (C)] 23)).cell? ⟨(on ux).heap.size, 0, none⟩ = some (.int .i64 (A)) := by simp [go_sem]
  have B101 : ((on ux).alloc (.cells #[.int .i64 (A), .int .i64 (B), .int .u8 (C)] 23)).cell? ⟨(on ux).heap.size, 1, none⟩ = some (.int .i64 (B)) := by simp [go_sem]
  have B102 : ((on ux).alloc (.cells #[.int .i64 (A), .int .i64 (B), .int .u8 (C)] 23)).cell? ⟨(on ux).heap.size, 2, none⟩ = some (.int .u8 (C)) := by simp [go_sem]
  have hB1 : Below w.heap.size w ((on ux).alloc (.cells #[.int .i64 (A), .int .i64 (B), .int .u8 (C)] 23)) := by repeat first | (with_reducible exact hB0) | (with_reducible refine below_on ?_ _) | (with_reducible refine below_alloc ?_ _)
  clear hR cR b00 b01 b02 b10 b11 b12  hB0
  generalize ((on ux).alloc (.cells #[.int .i64 (A), .int .i64 (B), .int .u8 (C)] 23)) = W1 at *
  generalize (on ux).heap.size = B1 at *
  clear ux
  go_wp2_with (first | (go_at_call 26; with_reducible refine (mvalid_yes t X Y _ a1 a2 a3 a4 a5 a6 HA.out).mono ?_; rintro e wx ⟨rfl, hx⟩; obtain ⟨ux, rfl⟩ := after hx; clear hx) | (go_at_call 13; with_reducible refine (rvalid_yes x y q _ c1 c2 c3 c4 c5 c6).mono ?_; rintro e wx ⟨rfl, hx⟩; obtain ⟨ux, rfl⟩ := after hx; clear hx) | fail)
  go_wp2_with (first | (go_at_call 27; with_reducible refine (M2 _).mono ?_; rintro e wx ⟨rfl, hx⟩; obtain ⟨ux, rfl⟩ := after hx; clear hx) | fail)
  have hR : Below (W1).heap.size (W1) ((on ux).alloc (.cells #[.int .i64 (A), .int .i64 (B), .int .u8 (C)] 23)) := by repeat first | (with_reducible exact Below.refl _ _) | (with_reducible refine below_on ?_ _) | (with_reducible refine below_alloc ?_ _)
  have cR : ∀ {b_ i_ : Nat} {v_ : Value}, (W1).cell? ⟨b_, i_, none⟩ = some v_ → ((on ux).alloc (.cells #[.int .i64 (A), .int .i64 (B), .int .u8 (C)] 23)).cell? ⟨b_, i_, none⟩ = some v_ := fun h => (hR.cell (World.block_lt_of_cell? _ _ h)).trans h
  have b00'' := cR b00'
  have b01'' := cR b01'
  have b02'' := cR b02'
  have b10'' := cR b10'
  have b11'' := cR b11'
  have b12'' := cR b12'
  have B100' := cR B100
  have B101' := cR B101
  have B102' := cR B102
  have B200 : ((on ux).alloc (.cells #[.int .i64 (A), .int .i64 (B), .int .u8 (C)] 23)).cell? ⟨(on ux).heap.size, 0, none⟩ = some (.int .i64 (A)) := by simp [go_sem]
  have B201 : ((on ux).alloc (.cells #[.int .i64 (A), .int .i64 (B), .int .u8 (C)] 23)).cell? ⟨(on ux).heap.size, 1, none⟩ = some (.int .i64 (B)) := by simp [go_sem]
  have B202 : ((on ux).alloc (.cells #[.int .i64 (A), .int .i64 (B), .int .u8 (C)] 23)).cell? ⟨(on ux).heap.size, 2, none⟩ = some (.int .u8 (C)) := by simp [go_sem]
  have hB2 : Below w.heap.size w ((on ux).alloc (.cells #[.int .i64 (A), .int .i64 (B), .int .u8 (C)] 23)) := by repeat first | (with_reducible exact hB1) | (with_reducible refine below_on ?_ _) | (with_reducible refine below_alloc ?_ _)
  clear hR cR b00' b01' b02' b10' b11' b12' B100 B101 B102  hB1
  generalize ((on ux).alloc (.cells #[.int .i64 (A), .int .i64 (B), .int .u8 (C)] 23)) = W2 at *
  generalize (on ux).heap.size = B2 at *
  clear ux
  go_wp2_with (first | (go_at_call 13; with_reducible refine (rvalid_yes A B C _ d1 d2 d3 d4 d5 d6).mono ?_; rintro e wx ⟨rfl, hx⟩; obtain ⟨ux, rfl⟩ := after hx; clear hx) | fail)
  go_wp2_with (first | (go_at_call 21; with_reducible refine (M3 _).mono ?_; rintro e wx ⟨rfl, hx⟩; obtain ⟨ux, rfl⟩ := after hx; clear hx) | fail)
  have hR : Below (W2).heap.size (W2) ((on ux).alloc (.cells #[.int .i64 (a), .int .i64 (b), .int .u8 (c)] 23)) := by repeat first | (with_reducible exact Below.refl _ _) | (with_reducible refine below_on ?_ _) | (with_reducible refine below_alloc ?_ _)
  have cR : ∀ {b_ i_ : Nat} {v_ : Value}, (W2).cell? ⟨b_, i_, none⟩ = some v_ → ((on ux).alloc (.cells #[.int .i64 (a), .int .i64 (b), .int .u8 (c)] 23)).cell? ⟨b_, i_, none⟩ = some v_ := fun h => (hR.cell (World.block_lt_of_cell? _ _ h)).trans h
  have b00''' := cR b00''
  have b01''' := cR b01''
  have b02''' := cR b02''
  have b10''' := cR b10''
  have b11''' := cR b11''
  have b12''' := cR b12''
  have B100'' := cR B100'
  have B101'' := cR B101'
  have B102'' := cR B102'
  have B200' := cR B200
  have B201' := cR B201
  have B202' := cR B202
  have B300 : ((on ux).alloc (.cells #[.int .i64 (a), .int .i64 (b), .int .u8 (c)] 23)).cell? ⟨(on ux).heap.size, 0, none⟩ = some (.int .i64 (a)) := by simp [go_sem]
  have B301 : ((on ux).alloc (.cells #[.int .i64 (a), .int .i64 (b), .int .u8 (c)] 23)).cell? ⟨(on ux).heap.size, 1, none⟩ = some (.int .i64 (b)) := by simp [go_sem]
  have B302 : ((on ux).alloc (.cells #[.int .i64 (a), .int .i64 (b), .int .u8 (c)] 23)).cell? ⟨(on ux).heap.size, 2, none⟩ = some (.int .u8 (c)) := by simp [go_sem]
  have hB3 : Below w.heap.size w ((on ux).alloc (.cells #[.int .i64 (a), .int .i64 (b), .int .u8 (c)] 23)) := by repeat first | (with_reducible exact hB2) | (with_reducible refine below_on ?_ _) | (with_reducible refine below_alloc ?_ _)
  clear hR cR b00'' b01'' b02'' b10'' b11'' b12'' B100' B101' B102' B200 B201 B202  hB2
  generalize ((on ux).alloc (.cells #[.int .i64 (a), .int .i64 (b), .int .u8 (c)] 23)) = W3 at *
  generalize (on ux).heap.size = B3 at *
  clear ux
  go_wp2_with (first | (go_at_call 25; with_reducible refine (M4 _ (hL' _ (by repeat first | (with_reducible exact hB3) | (with_reducible refine below_on ?_ _) | (with_reducible refine below_alloc ?_ _) | (with_reducible refine below_set ?_ (by simp; try omega) _)))).mono ?_; rintro e wx ⟨rfl, hx⟩; obtain ⟨ux, rfl⟩ := after hx; clear hx) | fail)
  have hR : Below (W3).heap.size (W3) ((on ux).alloc (.cells #[.int .i64 0, .int .i64 0, .int .u8 0] 23)) := by repeat first | (with_reducible exact Below.refl _ _) | (with_reducible refine below_on ?_ _) | (with_reducible refine below_alloc ?_ _)
  have cR : ∀ {b_ i_ : Nat} {v_ : Value}, (W3).cell? ⟨b_, i_, none⟩ = some v_ → ((on ux).alloc (.cells #[.int .i64 0, .int .i64 0, .int .u8 0] 23)).cell? ⟨b_, i_, none⟩ = some v_ := fun h => (hR.cell (World.block_lt_of_cell? _ _ h)).trans h
  have b00'''' := cR b00'''
  have b01'''' := cR b01'''
  have b02'''' := cR b02'''
  have b10'''' := cR b10'''
  have b11'''' := cR b11'''
  have b12'''' := cR b12'''
  have B100''' := cR B100''
  have B101''' := cR B101''
  have B102''' := cR B102''
  have B200'' := cR B200'
  have B201'' := cR B201'
  have B202'' := cR B202'
  have B300' := cR B300
  have B301' := cR B301
  have B302' := cR B302
  have B400 : ((on ux).alloc (.cells #[.int .i64 0, .int .i64 0, .int .u8 0] 23)).cell? ⟨(on ux).heap.size, 0, none⟩ = some (.int .i64 0) := by simp [go_sem]
  have B401 : ((on ux).alloc (.cells #[.int .i64 0, .int .i64 0, .int .u8 0] 23)).cell? ⟨(on ux).heap.size, 1, none⟩ = some (.int .i64 0) := by simp [go_sem]
  have B402 : ((on ux).alloc (.cells #[.int .i64 0, .int .i64 0, .int .u8 0] 23)).cell? ⟨(on ux).heap.size, 2, none⟩ = some (.int .u8 0) := by simp [go_sem]
  have hB4 : Below w.heap.size w ((on ux).alloc (.cells #[.int .i64 0, .int .i64 0, .int .u8 0] 23)) := by repeat first | (with_reducible exact hB3) | (with_reducible refine below_on ?_ _) | (with_reducible refine below_alloc ?_ _)
  clear hR cR b00''' b01''' b02''' b10''' b11''' b12''' B100'' B101'' B102'' B200' B201' B202' B300 B301 B302  hB3
  generalize ((on ux).alloc (.cells #[.int .i64 0, .int .i64 0, .int .u8 0] 23)) = W4 at *
  generalize (on ux).heap.size = B4 at *
  clear ux
  go_wp2_with (first | (go_at_call 13; with_reducible refine (V1 _).mono ?_; rintro e wx ⟨rfl, hx⟩; obtain ⟨ux, rfl⟩ := after hx; clear hx) | (go_at_call 27; with_reducible refine (M5 _).mono ?_; rintro e wx ⟨rfl, hx⟩; obtain ⟨ux, rfl⟩ := after hx; clear hx) | (go_at_call 13; with_reducible refine (V2 _).mono ?_; rintro e wx ⟨rfl, hx⟩; obtain ⟨ux, rfl⟩ := after hx; clear hx) | (go_at_call 15; with_reducible refine (clives_ok _ (hL' _ (by repeat first | (with_reducible exact hB4) | (with_reducible refine below_on ?_ _) | (with_reducible refine below_alloc ?_ _) | (with_reducible refine below_set ?_ (by simp; try omega) _)))).mono ?_; rintro e wx ⟨rfl, hx⟩; obtain ⟨ux, rfl⟩ := after hx; clear hx) | fail)
  go_ret
  exact ⟨by first | rfl | (simp; done) | (simp; omega), (by repeat first | (with_reducible exact hB4) | (with_reducible refine below_on ?_ _) | (with_reducible refine below_alloc ?_ _) | (with_reducible refine below_set ?_ (by simp; try omega) _))⟩

set_option maxRecDepth 100000 in
set_option maxHeartbeats 8000000 in
theorem cmoveL_zero (t X Y x y q e A B C a b c k l m g : Int) (w : World) (hL : Lay w) (a1 : 0 ≤ t) (a2 : t ≤ 7) (a3 : -16384 ≤ X) (a4 : X ≤ 16384) (a5 : -16384 ≤ Y) (a6 : Y ≤ 16384) (a7 : (X + Y) % 2 = 0) (c1 : -4096 ≤ x) (c2 : x ≤ 4096) (c3 : -4096 ≤ y) (c4 : y ≤ 4096) (c5 : 0 ≤ q) (c6 : q ≤ 3) (d1 : -4096 ≤ A) (d2 : A ≤ 4096) (d3 : -4096 ≤ B) (d4 : B ≤ 4096) (d5 : 0 ≤ C) (d6 : C ≤ 3) (e0 : 0 ≤ e) (e255 : e ≤ 255)
    (M1 : ∀ W, Lay W → Calls Tryd.prog 25 #[mv t X Y, cl x y q] W fun r w' => r = .returned (.tuple #[cl A B C, .int .i64 0]) ∧ Below W.heap.size W w')
    (M2 : ∀ W, Calls Tryd.prog 27 #[mv t X Y, cl x y q] W fun r w' => r = .returned (cl A B C) ∧ Below W.heap.size W w')
    (M3 : ∀ W, Calls Tryd.prog 21 #[cl x y q, .int .i64 0] W fun r w' => r = .returned (cl a b c) ∧ Below W.heap.size W w') (M4 : ∀ W, Lay W → Calls Tryd.prog 25 #[mv t X Y, cl a b c] W fun r w' => r = .returned (.tuple #[cl k l m, .int .i64 0]) ∧ Below W.heap.size W w') (T1 : ∀ W, Lay W → Calls Tryd.prog 20 #[cl A B C, cl k l m] W fun r w' => r = .returned (.tuple #[.int .u8 g, .int .i64 0]) ∧ Below W.heap.size W w') (g0 : g = 0) (z0 : e % 3 = 0) : Calls Tryd.prog 6 #[mv t X Y, cl x y q, .int .u8 e] w fun r w' => r = .returned (.bool true) ∧ Below w.heap.size w w' := by
  have HA : Hid ((X + Y) % 2 = 0) := a7
  clear a7
  subst g0
  have hL' : ∀ W, Below w.heap.size w W → Lay W := fun W h => lay_below hL h
  go_enter Tryd.func6, Tryd.ntmps6
  go_wp2_with fail
  have hB0 : Below w.heap.size w ((w.alloc (.cells #[.int .u8 t, .int .i64 X, .int .i64 Y] 54)).alloc (.cells #[.int .i64 (x), .int .i64 (y), .int .u8 (q)] 23)) := (by repeat first | (with_reducible exact Below.refl _ _) | (with_reducible refine below_on ?_ _) | (with_reducible refine below_alloc ?_ _) | (with_reducible refine below_set ?_ (by simp; try omega) _))
  have b00 : ((w.alloc (.cells #[.int .u8 t, .int .i64 X, .int .i64 Y] 54)).alloc (.cells #[.int .i64 (x), .int .i64 (y), .int .u8 (q)] 23)).cell? ⟨w.heap.size, 0, none⟩ = some (.int .u8 t) := by simp [go_sem]
  have b01 : ((w.alloc (.cells #[.int .u8 t, .int .i64 X, .int .i64 Y] 54)).alloc (.cells #[.int .i64 (x), .int .i64 (y), .int .u8 (q)] 23)).cell? ⟨w.heap.size, 1, none⟩ = some (.int .i64 X) := by simp [go_sem]
  have b02 : ((w.alloc (.cells #[.int .u8 t, .int .i64 X, .int .i64 Y] 54)).alloc (.cells #[.int .i64 (x), .int .i64 (y), .int .u8 (q)] 23)).cell? ⟨w.heap.size, 2, none⟩ = some (.int .i64 Y) := by simp [go_sem]
  have b10 : ((w.alloc (.cells #[.int .u8 t, .int .i64 X, .int .i64 Y] 54)).alloc (.cells #[.int .i64 (x), .int .i64 (y), .int .u8 (q)] 23)).cell? ⟨w.heap.size + 1, 0, none⟩ = some (.int .i64 (x)) := by simp [go_sem]
  have b11 : ((w.alloc (.cells #[.int .u8 t, .int .i64 X, .int .i64 Y] 54)).alloc (.cells #[.int .i64 (x), .int .i64 (y), .int .u8 (q)] 23)).cell? ⟨w.heap.size + 1, 1, none⟩ = some (.int .i64 (y)) := by simp [go_sem]
  have b12 : ((w.alloc (.cells #[.int .u8 t, .int .i64 X, .int .i64 Y] 54)).alloc (.cells #[.int .i64 (x), .int .i64 (y), .int .u8 (q)] 23)).cell? ⟨w.heap.size + 1, 2, none⟩ = some (.int .u8 (q)) := by simp [go_sem]
  generalize ((w.alloc (.cells #[.int .u8 t, .int .i64 X, .int .i64 Y] 54)).alloc (.cells #[.int .i64 (x), .int .i64 (y), .int .u8 (q)] 23)) = W0 at *
  go_wp2_with (first | (go_at_call 25; with_reducible refine (M1 _ (hL' _ (by repeat first | (with_reducible exact hB0) | (with_reducible refine below_on ?_ _) | (with_reducible refine below_alloc ?_ _) | (with_reducible refine below_set ?_ (by simp; try omega) _)))).mono ?_; rintro e wx ⟨rfl, hx⟩; obtain ⟨ux, rfl⟩ := after hx; clear hx) | fail)
  have hR : Below (W0).heap.size (W0) ((on ux).alloc (.cells #[.int .i64 (A), .int .i64 (B), .int .u8 (C)] 23)) := by repeat first | (with_reducible exact Below.refl _ _) | (with_reducible refine below_on ?_ _) | (with_reducible refine below_alloc ?_ _)
  have cR : ∀ {b_ i_ : Nat} {v_ : Value}, (W0).cell? ⟨b_, i_, none⟩ = some v_ → ((on ux).alloc (.cells #[.int .i64 (A), .int .i64 (B), .int .u8 (C)] 23)).cell? ⟨b_, i_, none⟩ = some v_ := fun h => (hR.cell (World.block_lt_of_cell? _ _ h)).trans h
  have b00' := cR b00
  have b01' := cR b01
  have b02' := cR b02
  have b10' := cR b10
  have b11' := cR b11
  have b12' := cR b12
  have B100 : ((on ux).alloc (.cells #[.int .i64 (A), .int .i64 (B), .int .u8 (C)] 23)).cell? ⟨(on ux).heap.size, 0, none⟩ = some (.int .i64 (A)) := by simp [go_sem]
  have B101 : ((on ux).alloc (.cells #[.int .i64 (A), .int .i64 (B), .int .u8 (C)] 23)).cell? ⟨(on ux).heap.size, 1, none⟩ = some (.int .i64 (B)) := by simp [go_sem]
  have B102 : ((on ux).alloc (.cells #[.int .i64 (A), .int .i64 (B), .int .u8 (C)] 23)).cell? ⟨(on ux).heap.size, 2, none⟩ = some (.int .u8 (C)) := by simp [go_sem]
  have hB1 : Below w.heap.size w ((on ux).alloc (.cells #[.int .i64 (A), .int .i64 (B), .int .u8 (C)] 23)) := by repeat first | (with_reducible exact hB0) | (with_reducible refine below_on ?_ _) | (with_reducible refine below_alloc ?_ _)
  clear hR cR b00 b01 b02 b10 b11 b12  hB0
  generalize ((on ux).alloc (.cells #[.int .i64 (A), .int .i64 (B), .int .u8 (C)] 23)) = W1 at *
  generalize (on ux).heap.size = B1 at *
  clear ux
  go_wp2_with (first | (go_at_call 26; with_reducible refine (mvalid_yes t X Y _ a1 a2 a3 a4 a5 a6 HA.out).mono ?_; rintro e wx ⟨rfl, hx⟩; obtain ⟨ux, rfl⟩ := after hx; clear hx) | (go_at_call 13; with_reducible refine (rvalid_yes x y q _ c1 c2 c3 c4 c5 c6).mono ?_; rintro e wx ⟨rfl, hx⟩; obtain ⟨ux, rfl⟩ := after hx; clear hx) | fail)
  go_wp2_with (first | (go_at_call 27; with_reducible refine (M2 _).mono ?_; rintro e wx ⟨rfl, hx⟩; obtain ⟨ux, rfl⟩ := after hx; clear hx) | fail)
  have hR : Below (W1).heap.size (W1) ((on ux).alloc (.cells #[.int .i64 (A), .int .i64 (B), .int .u8 (C)] 23)) := by repeat first | (with_reducible exact Below.refl _ _) | (with_reducible refine below_on ?_ _) | (with_reducible refine below_alloc ?_ _)
  have cR : ∀ {b_ i_ : Nat} {v_ : Value}, (W1).cell? ⟨b_, i_, none⟩ = some v_ → ((on ux).alloc (.cells #[.int .i64 (A), .int .i64 (B), .int .u8 (C)] 23)).cell? ⟨b_, i_, none⟩ = some v_ := fun h => (hR.cell (World.block_lt_of_cell? _ _ h)).trans h
  have b00'' := cR b00'
  have b01'' := cR b01'
  have b02'' := cR b02'
  have b10'' := cR b10'
  have b11'' := cR b11'
  have b12'' := cR b12'
  have B100' := cR B100
  have B101' := cR B101
  have B102' := cR B102
  have B200 : ((on ux).alloc (.cells #[.int .i64 (A), .int .i64 (B), .int .u8 (C)] 23)).cell? ⟨(on ux).heap.size, 0, none⟩ = some (.int .i64 (A)) := by simp [go_sem]
  have B201 : ((on ux).alloc (.cells #[.int .i64 (A), .int .i64 (B), .int .u8 (C)] 23)).cell? ⟨(on ux).heap.size, 1, none⟩ = some (.int .i64 (B)) := by simp [go_sem]
  have B202 : ((on ux).alloc (.cells #[.int .i64 (A), .int .i64 (B), .int .u8 (C)] 23)).cell? ⟨(on ux).heap.size, 2, none⟩ = some (.int .u8 (C)) := by simp [go_sem]
  have hB2 : Below w.heap.size w ((on ux).alloc (.cells #[.int .i64 (A), .int .i64 (B), .int .u8 (C)] 23)) := by repeat first | (with_reducible exact hB1) | (with_reducible refine below_on ?_ _) | (with_reducible refine below_alloc ?_ _)
  clear hR cR b00' b01' b02' b10' b11' b12' B100 B101 B102  hB1
  generalize ((on ux).alloc (.cells #[.int .i64 (A), .int .i64 (B), .int .u8 (C)] 23)) = W2 at *
  generalize (on ux).heap.size = B2 at *
  clear ux
  go_wp2_with (first | (go_at_call 13; with_reducible refine (rvalid_yes A B C _ d1 d2 d3 d4 d5 d6).mono ?_; rintro e wx ⟨rfl, hx⟩; obtain ⟨ux, rfl⟩ := after hx; clear hx) | fail)
  go_wp2_with (first | (go_at_call 21; with_reducible refine (M3 _).mono ?_; rintro e wx ⟨rfl, hx⟩; obtain ⟨ux, rfl⟩ := after hx; clear hx) | fail)
  have hR : Below (W2).heap.size (W2) ((on ux).alloc (.cells #[.int .i64 (a), .int .i64 (b), .int .u8 (c)] 23)) := by repeat first | (with_reducible exact Below.refl _ _) | (with_reducible refine below_on ?_ _) | (with_reducible refine below_alloc ?_ _)
  have cR : ∀ {b_ i_ : Nat} {v_ : Value}, (W2).cell? ⟨b_, i_, none⟩ = some v_ → ((on ux).alloc (.cells #[.int .i64 (a), .int .i64 (b), .int .u8 (c)] 23)).cell? ⟨b_, i_, none⟩ = some v_ := fun h => (hR.cell (World.block_lt_of_cell? _ _ h)).trans h
  have b00''' := cR b00''
  have b01''' := cR b01''
  have b02''' := cR b02''
  have b10''' := cR b10''
  have b11''' := cR b11''
  have b12''' := cR b12''
  have B100'' := cR B100'
  have B101'' := cR B101'
  have B102'' := cR B102'
  have B200' := cR B200
  have B201' := cR B201
  have B202' := cR B202
  have B300 : ((on ux).alloc (.cells #[.int .i64 (a), .int .i64 (b), .int .u8 (c)] 23)).cell? ⟨(on ux).heap.size, 0, none⟩ = some (.int .i64 (a)) := by simp [go_sem]
  have B301 : ((on ux).alloc (.cells #[.int .i64 (a), .int .i64 (b), .int .u8 (c)] 23)).cell? ⟨(on ux).heap.size, 1, none⟩ = some (.int .i64 (b)) := by simp [go_sem]
  have B302 : ((on ux).alloc (.cells #[.int .i64 (a), .int .i64 (b), .int .u8 (c)] 23)).cell? ⟨(on ux).heap.size, 2, none⟩ = some (.int .u8 (c)) := by simp [go_sem]
  have hB3 : Below w.heap.size w ((on ux).alloc (.cells #[.int .i64 (a), .int .i64 (b), .int .u8 (c)] 23)) := by repeat first | (with_reducible exact hB2) | (with_reducible refine below_on ?_ _) | (with_reducible refine below_alloc ?_ _)
  clear hR cR b00'' b01'' b02'' b10'' b11'' b12'' B100' B101' B102' B200 B201 B202  hB2
  generalize ((on ux).alloc (.cells #[.int .i64 (a), .int .i64 (b), .int .u8 (c)] 23)) = W3 at *
  generalize (on ux).heap.size = B3 at *
  clear ux
  go_wp2_with (first | (go_at_call 25; with_reducible refine (M4 _ (hL' _ (by repeat first | (with_reducible exact hB3) | (with_reducible refine below_on ?_ _) | (with_reducible refine below_alloc ?_ _) | (with_reducible refine below_set ?_ (by simp; try omega) _)))).mono ?_; rintro e wx ⟨rfl, hx⟩; obtain ⟨ux, rfl⟩ := after hx; clear hx) | fail)
  have hR : Below (W3).heap.size (W3) ((on ux).alloc (.cells #[.int .i64 (k), .int .i64 (l), .int .u8 (m)] 23)) := by repeat first | (with_reducible exact Below.refl _ _) | (with_reducible refine below_on ?_ _) | (with_reducible refine below_alloc ?_ _)
  have cR : ∀ {b_ i_ : Nat} {v_ : Value}, (W3).cell? ⟨b_, i_, none⟩ = some v_ → ((on ux).alloc (.cells #[.int .i64 (k), .int .i64 (l), .int .u8 (m)] 23)).cell? ⟨b_, i_, none⟩ = some v_ := fun h => (hR.cell (World.block_lt_of_cell? _ _ h)).trans h
  have b00'''' := cR b00'''
  have b01'''' := cR b01'''
  have b02'''' := cR b02'''
  have b10'''' := cR b10'''
  have b11'''' := cR b11'''
  have b12'''' := cR b12'''
  have B100''' := cR B100''
  have B101''' := cR B101''
  have B102''' := cR B102''
  have B200'' := cR B200'
  have B201'' := cR B201'
  have B202'' := cR B202'
  have B300' := cR B300
  have B301' := cR B301
  have B302' := cR B302
  have B400 : ((on ux).alloc (.cells #[.int .i64 (k), .int .i64 (l), .int .u8 (m)] 23)).cell? ⟨(on ux).heap.size, 0, none⟩ = some (.int .i64 (k)) := by simp [go_sem]
  have B401 : ((on ux).alloc (.cells #[.int .i64 (k), .int .i64 (l), .int .u8 (m)] 23)).cell? ⟨(on ux).heap.size, 1, none⟩ = some (.int .i64 (l)) := by simp [go_sem]
  have B402 : ((on ux).alloc (.cells #[.int .i64 (k), .int .i64 (l), .int .u8 (m)] 23)).cell? ⟨(on ux).heap.size, 2, none⟩ = some (.int .u8 (m)) := by simp [go_sem]
  have hB4 : Below w.heap.size w ((on ux).alloc (.cells #[.int .i64 (k), .int .i64 (l), .int .u8 (m)] 23)) := by repeat first | (with_reducible exact hB3) | (with_reducible refine below_on ?_ _) | (with_reducible refine below_alloc ?_ _)
  clear hR cR b00''' b01''' b02''' b10''' b11''' b12''' B100'' B101'' B102'' B200' B201' B202' B300 B301 B302  hB3
  generalize ((on ux).alloc (.cells #[.int .i64 (k), .int .i64 (l), .int .u8 (m)] 23)) = W4 at *
  generalize (on ux).heap.size = B4 at *
  clear ux
  go_wp2_with (first | (go_at_call 20; with_reducible refine (T1 _ (hL' _ (by repeat first | (with_reducible exact hB4) | (with_reducible refine below_on ?_ _) | (with_reducible refine below_alloc ?_ _) | (with_reducible refine below_set ?_ (by simp; try omega) _)))).mono ?_; rintro e wx ⟨rfl, hx⟩; obtain ⟨ux, rfl⟩ := after hx; clear hx) | (go_at_call 15; with_reducible refine (clives_ok _ (hL' _ (by repeat first | (with_reducible exact hB4) | (with_reducible refine below_on ?_ _) | (with_reducible refine below_alloc ?_ _) | (with_reducible refine below_set ?_ (by simp; try omega) _)))).mono ?_; rintro e wx ⟨rfl, hx⟩; obtain ⟨ux, rfl⟩ := after hx; clear hx) | fail)
  go_ret
  exact ⟨by first | rfl | (simp; done) | (simp; omega), (by repeat first | (with_reducible exact hB4) | (with_reducible refine below_on ?_ _) | (with_reducible refine below_alloc ?_ _) | (with_reducible refine below_set ?_ (by simp; try omega) _))⟩

set_option maxRecDepth 100000 in
set_option maxHeartbeats 8000000 in
theorem cmoveL_more (t X Y x y q e A B C a b c k l m g : Int) (w : World) (hL : Lay w) (a1 : 0 ≤ t) (a2 : t ≤ 7) (a3 : -16384 ≤ X) (a4 : X ≤ 16384) (a5 : -16384 ≤ Y) (a6 : Y ≤ 16384) (a7 : (X + Y) % 2 = 0) (c1 : -4096 ≤ x) (c2 : x ≤ 4096) (c3 : -4096 ≤ y) (c4 : y ≤ 4096) (c5 : 0 ≤ q) (c6 : q ≤ 3) (d1 : -4096 ≤ A) (d2 : A ≤ 4096) (d3 : -4096 ≤ B) (d4 : B ≤ 4096) (d5 : 0 ≤ C) (d6 : C ≤ 3) (e0 : 0 ≤ e) (e255 : e ≤ 255)
    (M1 : ∀ W, Lay W → Calls Tryd.prog 25 #[mv t X Y, cl x y q] W fun r w' => r = .returned (.tuple #[cl A B C, .int .i64 0]) ∧ Below W.heap.size W w')
    (M2 : ∀ W, Calls Tryd.prog 27 #[mv t X Y, cl x y q] W fun r w' => r = .returned (cl A B C) ∧ Below W.heap.size W w')
    (M3 : ∀ W, Calls Tryd.prog 21 #[cl x y q, .int .i64 (e % 3)] W fun r w' => r = .returned (cl a b c) ∧ Below W.heap.size W w') (M4 : ∀ W, Lay W → Calls Tryd.prog 25 #[mv t X Y, cl a b c] W fun r w' => r = .returned (.tuple #[cl k l m, .int .i64 0]) ∧ Below W.heap.size W w') (T1 : ∀ W, Lay W → Calls Tryd.prog 20 #[cl A B C, cl k l m] W fun r w' => r = .returned (.tuple #[.int .u8 g, .int .i64 0]) ∧ Below W.heap.size W w') (g0 : (g == 0) = false) (z0 : (e % 3 == 0) = false) : Calls Tryd.prog 6 #[mv t X Y, cl x y q, .int .u8 e] w fun r w' => r = .returned (.bool true) ∧ Below w.heap.size w w' := by
  have HA : Hid ((X + Y) % 2 = 0) := a7
  clear a7
  have hL' : ∀ W, Below w.heap.size w W → Lay W := fun W h => lay_below hL h
  go_enter Tryd.func6, Tryd.ntmps6
  go_wp2_with fail
  have hB0 : Below w.heap.size w ((w.alloc (.cells #[.int .u8 t, .int .i64 X, .int .i64 Y] 54)).alloc (.cells #[.int .i64 (x), .int .i64 (y), .int .u8 (q)] 23)) := (by repeat first | (with_reducible exact Below.refl _ _) | (with_reducible refine below_on ?_ _) | (with_reducible refine below_alloc ?_ _) | (with_reducible refine below_set ?_ (by simp; try omega) _))
  have b00 : ((w.alloc (.cells #[.int .u8 t, .int .i64 X, .int .i64 Y] 54)).alloc (.cells #[.int .i64 (x), .int .i64 (y), .int .u8 (q)] 23)).cell? ⟨w.heap.size, 0, none⟩ = some (.int .u8 t) := by simp [go_sem]
  have b01 : ((w.alloc (.cells #[.int .u8 t, .int .i64 X, .int .i64 Y] 54)).alloc (.cells #[.int .i64 (x), .int .i64 (y), .int .u8 (q)] 23)).cell? ⟨w.heap.size, 1, none⟩ = some (.int .i64 X) := by simp [go_sem]
  have b02 : ((w.alloc (.cells #[.int .u8 t, .int .i64 X, .int .i64 Y] 54)).alloc (.cells #[.int .i64 (x), .int .i64 (y), .int .u8 (q)] 23)).cell? ⟨w.heap.size, 2, none⟩ = some (.int .i64 Y) := by simp [go_sem]
  have b10 : ((w.alloc (.cells #[.int .u8 t, .int .i64 X, .int .i64 Y] 54)).alloc (.cells #[.int .i64 (x), .int .i64 (y), .int .u8 (q)] 23)).cell? ⟨w.heap.size + 1, 0, none⟩ = some (.int .i64 (x)) := by simp [go_sem]
  have b11 : ((w.alloc (.cells #[.int .u8 t, .int .i64 X, .int .i64 Y] 54)).alloc (.cells #[.int .i64 (x), .int .i64 (y), .int .u8 (q)] 23)).cell? ⟨w.heap.size + 1, 1, none⟩ = some (.int .i64 (y)) := by simp [go_sem]
  have b12 : ((w.alloc (.cells #[.int .u8 t, .int .i64 X, .int .i64 Y] 54)).alloc (.cells #[.int .i64 (x), .int .i64 (y), .int .u8 (q)] 23)).cell? ⟨w.heap.size + 1, 2, none⟩ = some (.int .u8 (q)) := by simp [go_sem]
  generalize ((w.alloc (.cells #[.int .u8 t, .int .i64 X, .int .i64 Y] 54)).alloc (.cells #[.int .i64 (x), .int .i64 (y), .int .u8 (q)] 23)) = W0 at *
  go_wp2_with (first | (go_at_call 25; with_reducible refine (M1 _ (hL' _ (by repeat first | (with_reducible exact hB0) | (with_reducible refine below_on ?_ _) | (with_reducible refine below_alloc ?_ _) | (with_reducible refine below_set ?_ (by simp; try omega) _)))).mono ?_; rintro e wx ⟨rfl, hx⟩; obtain ⟨ux, rfl⟩ := after hx; clear hx) | fail)
  have hR : Below (W0).heap.size (W0) ((on ux).alloc (.cells #[.int .i64 (A), .int .i64 (B), .int .u8 (C)] 23)) := by repeat first | (with_reducible exact Below.refl _ _) | (with_reducible refine below_on ?_ _) | (with_reducible refine below_alloc ?_ _)
  have cR : ∀ {b_ i_ : Nat} {v_ : Value}, (W0).cell? ⟨b_, i_, none⟩ = some v_ → ((on ux).alloc (.cells #[.int .i64 (A), .int .i64 (B), .int .u8 (C)] 23)).cell? ⟨b_, i_, none⟩ = some v_ := fun h => (hR.cell (World.block_lt_of_cell? _ _ h)).trans h
  have b00' := cR b00
  have b01' := cR b01
  have b02' := cR b02
  have b10' := cR b10
  have b11' := cR b11
  have b12' := cR b12
  have B100 : ((on ux).alloc (.cells #[.int .i64 (A), .int .i64 (B), .int .u8 (C)] 23)).cell? ⟨(on ux).heap.size, 0, none⟩ = some (.int .i64 (A)) := by simp [go_sem]
  have B101 : ((on ux).alloc (.cells #[.int .i64 (A), .int .i64 (B), .int .u8 (C)] 23)).cell? ⟨(on ux).heap.size, 1, none⟩ = some (.int .i64 (B)) := by simp [go_sem]
  have B102 : ((on ux).alloc (.cells #[.int .i64 (A), .int .i64 (B), .int .u8 (C)] 23)).cell? ⟨(on ux).heap.size, 2, none⟩ = some (.int .u8 (C)) := by simp [go_sem]
  have hB1 : Below w.heap.size w ((on ux).alloc (.cells #[.int .i64 (A), .int .i64 (B), .int .u8 (C)] 23)) := by repeat first | (with_reducible exact hB0) | (with_reducible refine below_on ?_ _) | (with_reducible refine below_alloc ?_ _)
  clear hR cR b00 b01 b02 b10 b11 b12  hB0
  generalize ((on ux).alloc (.cells #[.int .i64 (A), .int .i64 (B), .int .u8 (C)] 23)) = W1 at *
  generalize (on ux).heap.size = B1 at *
  clear ux
  go_wp2_with (first | (go_at_call 26; with_reducible refine (mvalid_yes t X Y _ a1 a2 a3 a4 a5 a6 HA.out).mono ?_; rintro e wx ⟨rfl, hx⟩; obtain ⟨ux, rfl⟩ := after hx; clear hx) | (go_at_call 13; with_reducible refine (rvalid_yes x y q _ c1 c2 c3 c4 c5 c6).mono ?_; rintro e wx ⟨rfl, hx⟩; obtain ⟨ux, rfl⟩ := after hx; clear hx) | fail)
  go_wp2_with (first | (go_at_call 27; with_reducible refine (M2 _).mono ?_; rintro e wx ⟨rfl, hx⟩; obtain ⟨ux, rfl⟩ := after hx; clear hx) | fail)
  have hR : Below (W1).heap.size (W1) ((on ux).alloc (.cells #[.int .i64 (A), .int .i64 (B), .int .u8 (C)] 23)) := by repeat first | (with_reducible exact Below.refl _ _) | (with_reducible refine below_on ?_ _) | (with_reducible refine below_alloc ?_ _)
  have cR : ∀ {b_ i_ : Nat} {v_ : Value}, (W1).cell? ⟨b_, i_, none⟩ = some v_ → ((on ux).alloc (.cells #[.int .i64 (A), .int .i64 (B), .int .u8 (C)] 23)).cell? ⟨b_, i_, none⟩ = some v_ := fun h => (hR.cell (World.block_lt_of_cell? _ _ h)).trans h
  have b00'' := cR b00'
  have b01'' := cR b01'
  have b02'' := cR b02'
  have b10'' := cR b10'
  have b11'' := cR b11'
  have b12'' := cR b12'
  have B100' := cR B100
  have B101' := cR B101
  have B102' := cR B102
  have B200 : ((on ux).alloc (.cells #[.int .i64 (A), .int .i64 (B), .int .u8 (C)] 23)).cell? ⟨(on ux).heap.size, 0, none⟩ = some (.int .i64 (A)) := by simp [go_sem]
  have B201 : ((on ux).alloc (.cells #[.int .i64 (A), .int .i64 (B), .int .u8 (C)] 23)).cell? ⟨(on ux).heap.size, 1, none⟩ = some (.int .i64 (B)) := by simp [go_sem]
  have B202 : ((on ux).alloc (.cells #[.int .i64 (A), .int .i64 (B), .int .u8 (C)] 23)).cell? ⟨(on ux).heap.size, 2, none⟩ = some (.int .u8 (C)) := by simp [go_sem]
  have hB2 : Below w.heap.size w ((on ux).alloc (.cells #[.int .i64 (A), .int .i64 (B), .int .u8 (C)] 23)) := by repeat first | (with_reducible exact hB1) | (with_reducible refine below_on ?_ _) | (with_reducible refine below_alloc ?_ _)
  clear hR cR b00' b01' b02' b10' b11' b12' B100 B101 B102  hB1
  generalize ((on ux).alloc (.cells #[.int .i64 (A), .int .i64 (B), .int .u8 (C)] 23)) = W2 at *
  generalize (on ux).heap.size = B2 at *
  clear ux
  go_wp2_with (first | (go_at_call 13; with_reducible refine (rvalid_yes A B C _ d1 d2 d3 d4 d5 d6).mono ?_; rintro e wx ⟨rfl, hx⟩; obtain ⟨ux, rfl⟩ := after hx; clear hx) | fail)
  go_wp2_with (first | (go_at_call 21; with_reducible refine (M3 _).mono ?_; rintro e wx ⟨rfl, hx⟩; obtain ⟨ux, rfl⟩ := after hx; clear hx) | fail)
  have hR : Below (W2).heap.size (W2) ((on ux).alloc (.cells #[.int .i64 (a), .int .i64 (b), .int .u8 (c)] 23)) := by repeat first | (with_reducible exact Below.refl _ _) | (with_reducible refine below_on ?_ _) | (with_reducible refine below_alloc ?_ _)
  have cR : ∀ {b_ i_ : Nat} {v_ : Value}, (W2).cell? ⟨b_, i_, none⟩ = some v_ → ((on ux).alloc (.cells #[.int .i64 (a), .int .i64 (b), .int .u8 (c)] 23)).cell? ⟨b_, i_, none⟩ = some v_ := fun h => (hR.cell (World.block_lt_of_cell? _ _ h)).trans h
  have b00''' := cR b00''
  have b01''' := cR b01''
  have b02''' := cR b02''
  have b10''' := cR b10''
  have b11''' := cR b11''
  have b12''' := cR b12''
  have B100'' := cR B100'
  have B101'' := cR B101'
  have B102'' := cR B102'
  have B200' := cR B200
  have B201' := cR B201
  have B202' := cR B202
  have B300 : ((on ux).alloc (.cells #[.int .i64 (a), .int .i64 (b), .int .u8 (c)] 23)).cell? ⟨(on ux).heap.size, 0, none⟩ = some (.int .i64 (a)) := by simp [go_sem]
  have B301 : ((on ux).alloc (.cells #[.int .i64 (a), .int .i64 (b), .int .u8 (c)] 23)).cell? ⟨(on ux).heap.size, 1, none⟩ = some (.int .i64 (b)) := by simp [go_sem]
  have B302 : ((on ux).alloc (.cells #[.int .i64 (a), .int .i64 (b), .int .u8 (c)] 23)).cell? ⟨(on ux).heap.size, 2, none⟩ = some (.int .u8 (c)) := by simp [go_sem]
  have hB3 : Below w.heap.size w ((on ux).alloc (.cells #[.int .i64 (a), .int .i64 (b), .int .u8 (c)] 23)) := by repeat first | (with_reducible exact hB2) | (with_reducible refine below_on ?_ _) | (with_reducible refine below_alloc ?_ _)
  clear hR cR b00'' b01'' b02'' b10'' b11'' b12'' B100' B101' B102' B200 B201 B202  hB2
  generalize ((on ux).alloc (.cells #[.int .i64 (a), .int .i64 (b), .int .u8 (c)] 23)) = W3 at *
  generalize (on ux).heap.size = B3 at *
  clear ux
  go_wp2_with (first | (go_at_call 25; with_reducible refine (M4 _ (hL' _ (by repeat first | (with_reducible exact hB3) | (with_reducible refine below_on ?_ _) | (with_reducible refine below_alloc ?_ _) | (with_reducible refine below_set ?_ (by simp; try omega) _)))).mono ?_; rintro e wx ⟨rfl, hx⟩; obtain ⟨ux, rfl⟩ := after hx; clear hx) | fail)
  have hR : Below (W3).heap.size (W3) ((on ux).alloc (.cells #[.int .i64 (k), .int .i64 (l), .int .u8 (m)] 23)) := by repeat first | (with_reducible exact Below.refl _ _) | (with_reducible refine below_on ?_ _) | (with_reducible refine below_alloc ?_ _)
  have cR : ∀ {b_ i_ : Nat} {v_ : Value}, (W3).cell? ⟨b_, i_, none⟩ = some v_ → ((on ux).alloc (.cells #[.int .i64 (k), .int .i64 (l), .int .u8 (m)] 23)).cell? ⟨b_, i_, none⟩ = some v_ := fun h => (hR.cell (World.block_lt_of_cell? _ _ h)).trans h
  have b00'''' := cR b00'''
  have b01'''' := cR b01'''
  have b02'''' := cR b02'''
  have b10'''' := cR b10'''
  have b11'''' := cR b11'''
  have b12'''' := cR b12'''
  have B100''' := cR B100''
  have B101''' := cR B101''
  have B102''' := cR B102''
  have B200'' := cR B200'
  have B201'' := cR B201'
  have B202'' := cR B202'
  have B300' := cR B300
  have B301' := cR B301
  have B302' := cR B302
  have B400 : ((on ux).alloc (.cells #[.int .i64 (k), .int .i64 (l), .int .u8 (m)] 23)).cell? ⟨(on ux).heap.size, 0, none⟩ = some (.int .i64 (k)) := by simp [go_sem]
  have B401 : ((on ux).alloc (.cells #[.int .i64 (k), .int .i64 (l), .int .u8 (m)] 23)).cell? ⟨(on ux).heap.size, 1, none⟩ = some (.int .i64 (l)) := by simp [go_sem]
  have B402 : ((on ux).alloc (.cells #[.int .i64 (k), .int .i64 (l), .int .u8 (m)] 23)).cell? ⟨(on ux).heap.size, 2, none⟩ = some (.int .u8 (m)) := by simp [go_sem]
  have hB4 : Below w.heap.size w ((on ux).alloc (.cells #[.int .i64 (k), .int .i64 (l), .int .u8 (m)] 23)) := by repeat first | (with_reducible exact hB3) | (with_reducible refine below_on ?_ _) | (with_reducible refine below_alloc ?_ _)
  clear hR cR b00''' b01''' b02''' b10''' b11''' b12''' B100'' B101'' B102'' B200' B201' B202' B300 B301 B302  hB3
  generalize ((on ux).alloc (.cells #[.int .i64 (k), .int .i64 (l), .int .u8 (m)] 23)) = W4 at *
  generalize (on ux).heap.size = B4 at *
  clear ux
  go_wp2_with (first | (go_at_call 20; with_reducible refine (T1 _ (hL' _ (by repeat first | (with_reducible exact hB4) | (with_reducible refine below_on ?_ _) | (with_reducible refine below_alloc ?_ _) | (with_reducible refine below_set ?_ (by simp; try omega) _)))).mono ?_; rintro e wx ⟨rfl, hx⟩; obtain ⟨ux, rfl⟩ := after hx; clear hx) | (go_at_call 15; with_reducible refine (clives_ok _ (hL' _ (by repeat first | (with_reducible exact hB4) | (with_reducible refine below_on ?_ _) | (with_reducible refine below_alloc ?_ _) | (with_reducible refine below_set ?_ (by simp; try omega) _)))).mono ?_; rintro e wx ⟨rfl, hx⟩; obtain ⟨ux, rfl⟩ := after hx; clear hx) | fail)
  go_ret
  exact ⟨by first | rfl | (simp; done) | (simp; omega), (by repeat first | (with_reducible exact hB4) | (with_reducible refine below_on ?_ _) | (with_reducible refine below_alloc ?_ _) | (with_reducible refine below_set ?_ (by simp; try omega) _))⟩

theorem cellsmove_law (t X Y x y q e : Int) (w : World) (hL : Lay w) (t0 : 0 ≤ t) (q0 : 0 ≤ q) (e0 : 0 ≤ e) (e255 : e ≤ 255) : Calls Tryd.prog 6 #[mv t X Y, cl x y q, .int .u8 e] w fun r w' => r = .returned (.bool true) ∧ Below w.heap.size w w' := by
  by_cases hm : t ≤ 7 ∧ -16384 ≤ X ∧ X ≤ 16384 ∧ -16384 ≤ Y ∧ Y ≤ 16384 ∧ (X + Y) % 2 = 0
  · obtain ⟨a2, a3, a4, a5, a6, a7⟩ := hm
    have a1 := t0
    by_cases h : -4096 ≤ x ∧ x ≤ 4096 ∧ -4096 ≤ y ∧ y ≤ 4096 ∧ q ≤ 3
    · obtain ⟨c1, c2, c3, c4, c6⟩ := h
      have c5 := q0
      have ir := imQ_range t q
      by_cases hi : -4096 ≤ imX t X x y ∧ imX t X x y ≤ 4096 ∧ -4096 ≤ imY t Y x y ∧ imY t Y x y ≤ 4096
      · obtain ⟨d1, d2, d3, d4⟩ := hi
        have r0 : 0 ≤ e % 3 := by omega
        have r2 : e % 3 ≤ 2 := by omega
        have nr := nbQ_range q (e % 3)
        have nb1 : x - 1 ≤ nbX q (e % 3) x ∧ nbX q (e % 3) x ≤ x + 1 := by unfold nbX; (repeat' split) <;> omega
        have nb2 : y - 1 ≤ nbY q (e % 3) y ∧ nbY q (e % 3) y ≤ y + 1 := by unfold nbY; (repeat' split) <;> omega
        have M1 := fun W (h : Lay W) => cmv_ok t X Y x y q W h a1 a2 a3 a4 a5 a6 a7 c1 c2 c3 c4 c5 c6 d1 d2 d3 d4
        have M2 := fun W => rmove_any t X Y x y q W a1 a2 a3 a4 a5 a6 a7 (by omega) (by omega) (by omega) (by omega) c5 c6
        have M3 := fun W => rnei_any x y q (e % 3) W (by omega) (by omega) (by omega) (by omega) c5 c6 r0 r2
        by_cases hn : -4096 ≤ nbX q (e % 3) x ∧ nbX q (e % 3) x ≤ 4096 ∧ -4096 ≤ nbY q (e % 3) y ∧ nbY q (e % 3) y ≤ 4096
        · obtain ⟨n1, n2, n3, n4⟩ := hn
          by_cases hj : -4096 ≤ imX t X (nbX q (e % 3) x) (nbY q (e % 3) y) ∧ imX t X (nbX q (e % 3) x) (nbY q (e % 3) y) ≤ 4096 ∧ -4096 ≤ imY t Y (nbX q (e % 3) x) (nbY q (e % 3) y) ∧ imY t Y (nbX q (e % 3) x) (nbY q (e % 3) y) ≤ 4096
          · obtain ⟨j1, j2, j3, j4⟩ := hj
            have M4 := fun W (h : Lay W) => cmv_ok t X Y (nbX q (e % 3) x) (nbY q (e % 3) y) (nbQ q (e % 3)) W h a1 a2 a3 a4 a5 a6 a7 n1 n2 n3 n4 nr.1 nr.2 j1 j2 j3 j4
            have k := im_nb t X Y x y q (e % 3) a1 a2 c5 c6 r0 r2
            have er : 0 ≤ edT t (e % 3) ∧ edT t (e % 3) ≤ 2 := by unfold edT; (repeat' split) <;> omega
            have jr := imQ_range t (nbQ q (e % 3))
            rw [k.1] at j1 j2
            rw [k.2.1] at j3 j4
            rw [k.2.2] at jr
            rw [k.1, k.2.1, k.2.2] at M4
            have T1 := fun W (h : Lay W) => ctouch_nb (imX t X x y) (imY t Y x y) (imQ t q) (edT t (e % 3)) W h d1 d2 d3 d4 ir.1 ir.2 j1 j2 j3 j4 jr.1 jr.2 er.1 er.2
            by_cases ez : e % 3 = 0
            · rw [ez] at M3 M4 T1
              exact cmoveL_zero t X Y x y q e _ _ _ _ _ _ _ _ _ _ w hL a1 a2 a3 a4 a5 a6 a7 c1 c2 c3 c4 c5 c6 d1 d2 d3 d4 ir.1 ir.2 e0 e255 M1 M2 M3 M4 T1 (by unfold edT; rw [if_pos rfl]) ez
            · exact cmoveL_more t X Y x y q e _ _ _ _ _ _ _ _ _ _ w hL a1 a2 a3 a4 a5 a6 a7 c1 c2 c3 c4 c5 c6 d1 d2 d3 d4 ir.1 ir.2 e0 e255 M1 M2 M3 M4 T1 (eqf (by unfold edT; (repeat' split) <;> omega)) (eqf ez)
          · have jr := imQ_range t (nbQ q (e % 3))
            exact cmoveL_beyond t X Y x y q e _ _ _ _ _ _ (imX t X (nbX q (e % 3) x) (nbY q (e % 3) y)) (imY t Y (nbX q (e % 3) x) (nbY q (e % 3) y)) (imQ t (nbQ q (e % 3))) 0 w hL a1 a2 a3 a4 a5 a6 a7 c1 c2 c3 c4 c5 c6 d1 d2 d3 d4 ir.1 ir.2 e0 e255 M1 M2 M3 (fun W h => cmv_far t X Y (nbX q (e % 3) x) (nbY q (e % 3) y) (nbQ q (e % 3)) W h a1 a2 a3 a4 a5 a6 a7 n1 n2 n3 n4 nr.1 nr.2 (by omega)) (fun W => rvalid_yes _ _ _ W n1 n2 n3 n4 nr.1 nr.2) (fun W => rmove_any t X Y _ _ _ W a1 a2 a3 a4 a5 a6 a7 (by omega) (by omega) (by omega) (by omega) nr.1 nr.2) (fun W => rvalid_no _ _ _ W (by omega))
        · exact cmoveL_out t X Y x y q e _ _ _ _ _ _ 0 0 0 0 w hL a1 a2 a3 a4 a5 a6 a7 c1 c2 c3 c4 c5 c6 d1 d2 d3 d4 ir.1 ir.2 e0 e255 M1 M2 M3 (fun W h => cmv_bad2 t X Y (nbX q (e % 3) x) (nbY q (e % 3) y) (nbQ q (e % 3)) W a1 a2 a3 a4 a5 a6 a7 (by omega)) (fun W => rvalid_no _ _ _ W (by omega))
      · exact cmoveL_far t X Y x y q e w hL a1 a2 a3 a4 a5 a6 a7 c1 c2 c3 c4 c5 c6 (by omega)
    · exact cmoveL_bad2 t X Y x y q e w hL a1 a2 a3 a4 a5 a6 a7 (by omega)
  · exact cmoveL_bad1 t X Y x y q e w hL (by omega)

end Go.Proofs.YtgkiliijefkcaaaDoor
