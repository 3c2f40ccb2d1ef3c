/-
  Says: CellsBetween answers true at every two cells, where the tables stand as they were laid.
-/
import Derived.Test.YtgkiliijefkcaaaDoorCv1
import Derived.Test.YtgkiliijefkcaaaDoorCr6
import Derived.Test.YtgkiliijefkcaaaDoorCf9
set_option linter.unusedVariables false
set_option linter.unusedSimpArgs false
namespace Go.Proofs.YtgkiliijefkcaaaDoor
open Go Go.RowKit

attribute [local go_sem] World.cell?_alloc_some frozen?_alloc_cells fz0 fz1 fz2 fz3 fz4 fz5
attribute [local go_sem] eql_pt3

set_option maxRecDepth 100000 in
set_option maxHeartbeats 8000000 in
theorem cbetween_bad1 (x y q a b c : Int) (w : World) (hL : Lay w) (h : 3 < q ∨ x < -4096 ∨ 4096 < x ∨ y < -4096 ∨ 4096 < y) : Calls Tryd.prog 7 #[cl x y q, cl a b c] w fun r w' => r = .returned (.bool true) ∧ Below w.heap.size w w' := by
  have H : Hid (3 < q ∨ x < -4096 ∨ 4096 < x ∨ y < -4096 ∨ 4096 < y) := h
  clear h
  have hL' : ∀ W, Below w.heap.size w W → Lay W := fun W h => lay_below hL h
  go_enter Tryd.func7, Tryd.ntmps7
  go_wp2_with fail
  have hB0 : Below w.heap.size w ((w.alloc (.cells #[.int .i64 (x), .int .i64 (y), .int .u8 (q)] 23)).alloc (.cells #[.int .i64 (a), .int .i64 (b), .int .u8 (c)] 23)) := (by repeat first | (with_reducible exact Below.refl _ _) | (with_reducible refine below_on ?_ _) | (with_reducible refine below_alloc ?_ _) | (with_reducible refine below_set ?_ (by simp; try omega) _))
  have b00 : ((w.alloc (.cells #[.int .i64 (x), .int .i64 (y), .int .u8 (q)] 23)).alloc (.cells #[.int .i64 (a), .int .i64 (b), .int .u8 (c)] 23)).cell? ⟨w.heap.size, 0, none⟩ = some (.int .i64 (x)) := by simp [go_sem]
  have b01 : ((w.alloc (.cells #[.int .i64 (x), .int .i64 (y), .int .u8 (q)] 23)).alloc (.cells #[.int .i64 (a), .int .i64 (b), .int .u8 (c)] 23)).cell? ⟨w.heap.size, 1, none⟩ = some (.int .i64 (y)) := by simp [go_sem]
  have b02 : ((w.alloc (.cells #[.int .i64 (x), .int .i64 (y), .int .u8 (q)] 23)).alloc (.cells #[.int .i64 (a), .int .i64 (b), .int .u8 (c)] 23)).cell? ⟨w.heap.size, 2, none⟩ = some (.int .u8 (q)) := by simp [go_sem]
  have b10 : ((w.alloc (.cells #[.int .i64 (x), .int .i64 (y), .int .u8 (q)] 23)).alloc (.cells #[.int .i64 (a), .int .i64 (b), .int .u8 (c)] 23)).cell? ⟨w.heap.size + 1, 0, none⟩ = some (.int .i64 (a)) := by simp [go_sem]
  have b11 : ((w.alloc (.cells #[.int .i64 (x), .int .i64 (y), .int .u8 (q)] 23)).alloc (.cells #[.int .i64 (a), .int .i64 (b), .int .u8 (c)] 23)).cell? ⟨w.heap.size + 1, 1, none⟩ = some (.int .i64 (b)) := by simp [go_sem]
  have b12 : ((w.alloc (.cells #[.int .i64 (x), .int .i64 (y), .int .u8 (q)] 23)).alloc (.cells #[.int .i64 (a), .int .i64 (b), .int .u8 (c)] 23)).cell? ⟨w.heap.size + 1, 2, none⟩ = some (.int .u8 (c)) := by simp [go_sem]
  generalize ((w.alloc (.cells #[.int .i64 (x), .int .i64 (y), .int .u8 (q)] 23)).alloc (.cells #[.int .i64 (a), .int .i64 (b), .int .u8 (c)] 23)) = W0 at *
  go_wp2_with (first | (go_at_call 28; with_reducible refine (cbt_bad1 x y q a b c _ H.out).mono ?_; rintro e wx ⟨rfl, hx⟩; obtain ⟨ux, rfl⟩ := after hx; clear hx) | fail)
  have hR : Below (W0).heap.size (W0) ((on ux).alloc (.cells #[.int .u8 0, .int .i64 0, .int .i64 0] 54)) := by repeat first | (with_reducible exact Below.refl _ _) | (with_reducible refine below_on ?_ _) | (with_reducible refine below_alloc ?_ _)
  have cR : ∀ {b_ i_ : Nat} {v_ : Value}, (W0).cell? ⟨b_, i_, none⟩ = some v_ → ((on ux).alloc (.cells #[.int .u8 0, .int .i64 0, .int .i64 0] 54)).cell? ⟨b_, i_, none⟩ = some v_ := fun h => (hR.cell (World.block_lt_of_cell? _ _ h)).trans h
  have b00' := cR b00
  have b01' := cR b01
  have b02' := cR b02
  have b10' := cR b10
  have b11' := cR b11
  have b12' := cR b12
  have B100 : ((on ux).alloc (.cells #[.int .u8 0, .int .i64 0, .int .i64 0] 54)).cell? ⟨(on ux).heap.size, 0, none⟩ = some (.int .u8 0) := by simp [go_sem]
  have B101 : ((on ux).alloc (.cells #[.int .u8 0, .int .i64 0, .int .i64 0] 54)).cell? ⟨(on ux).heap.size, 1, none⟩ = some (.int .i64 0) := by simp [go_sem]
  have B102 : ((on ux).alloc (.cells #[.int .u8 0, .int .i64 0, .int .i64 0] 54)).cell? ⟨(on ux).heap.size, 2, none⟩ = some (.int .i64 0) := by simp [go_sem]
  have hB1 : Below w.heap.size w ((on ux).alloc (.cells #[.int .u8 0, .int .i64 0, .int .i64 0] 54)) := by repeat first | (with_reducible exact hB0) | (with_reducible refine below_on ?_ _) | (with_reducible refine below_alloc ?_ _)
  clear hR cR b00 b01 b02 b10 b11 b12  hB0
  generalize ((on ux).alloc (.cells #[.int .u8 0, .int .i64 0, .int .i64 0] 54)) = W1 at *
  generalize (on ux).heap.size = B1 at *
  clear ux
  go_wp2_with (first | (go_at_call 13; with_reducible refine (rvalid_no x y q _ H.out).mono ?_; rintro e wx ⟨rfl, hx⟩; obtain ⟨ux, rfl⟩ := after hx; clear hx) | (go_at_call 15; with_reducible refine (clives_ok _ (hL' _ (by repeat first | (with_reducible exact hB1) | (with_reducible refine below_on ?_ _) | (with_reducible refine below_alloc ?_ _) | (with_reducible refine below_set ?_ (by simp; try omega) _)))).mono ?_; rintro e wx ⟨rfl, hx⟩; obtain ⟨ux, rfl⟩ := after hx; clear hx) | fail)
  go_ret
  exact ⟨by first | rfl | (simp; done) | (simp; omega), (by repeat first | (with_reducible exact hB1) | (with_reducible refine below_on ?_ _) | (with_reducible refine below_alloc ?_ _) | (with_reducible refine below_set ?_ (by simp; try omega) _))⟩

set_option maxRecDepth 100000 in
set_option maxHeartbeats 8000000 in
theorem cbetween_bad2 (x y q a b c : Int) (w : World) (hL : Lay w) (c1 : -4096 ≤ x) (c2 : x ≤ 4096) (c3 : -4096 ≤ y) (c4 : y ≤ 4096) (c5 : 0 ≤ q) (c6 : q ≤ 3)(h : 3 < c ∨ a < -4096 ∨ 4096 < a ∨ b < -4096 ∨ 4096 < b) : Calls Tryd.prog 7 #[cl x y q, cl a b c] w fun r w' => r = .returned (.bool true) ∧ Below w.heap.size w w' := by
  have H : Hid (3 < c ∨ a < -4096 ∨ 4096 < a ∨ b < -4096 ∨ 4096 < b) := h
  clear h
  have hL' : ∀ W, Below w.heap.size w W → Lay W := fun W h => lay_below hL h
  go_enter Tryd.func7, Tryd.ntmps7
  go_wp2_with fail
  have hB0 : Below w.heap.size w ((w.alloc (.cells #[.int .i64 (x), .int .i64 (y), .int .u8 (q)] 23)).alloc (.cells #[.int .i64 (a), .int .i64 (b), .int .u8 (c)] 23)) := (by repeat first | (with_reducible exact Below.refl _ _) | (with_reducible refine below_on ?_ _) | (with_reducible refine below_alloc ?_ _) | (with_reducible refine below_set ?_ (by simp; try omega) _))
  have b00 : ((w.alloc (.cells #[.int .i64 (x), .int .i64 (y), .int .u8 (q)] 23)).alloc (.cells #[.int .i64 (a), .int .i64 (b), .int .u8 (c)] 23)).cell? ⟨w.heap.size, 0, none⟩ = some (.int .i64 (x)) := by simp [go_sem]
  have b01 : ((w.alloc (.cells #[.int .i64 (x), .int .i64 (y), .int .u8 (q)] 23)).alloc (.cells #[.int .i64 (a), .int .i64 (b), .int .u8 (c)] 23)).cell? ⟨w.heap.size, 1, none⟩ = some (.int .i64 (y)) := by simp [go_sem]
  have b02 : ((w.alloc (.cells #[.int .i64 (x), .int .i64 (y), .int .u8 (q)] 23)).alloc (.cells #[.int .i64 (a), .int .i64 (b), .int .u8 (c)] 23)).cell? ⟨w.heap.size, 2, none⟩ = some (.int .u8 (q)) := by simp [go_sem]
  have b10 : ((w.alloc (.cells #[.int .i64 (x), .int .i64 (y), .int .u8 (q)] 23)).alloc (.cells #[.int .i64 (a), .int .i64 (b), .int .u8 (c)] 23)).cell? ⟨w.heap.size + 1, 0, none⟩ = some (.int .i64 (a)) := by simp [go_sem]
  have b11 : ((w.alloc (.cells #[.int .i64 (x), .int .i64 (y), .int .u8 (q)] 23)).alloc (.cells #[.int .i64 (a), .int .i64 (b), .int .u8 (c)] 23)).cell? ⟨w.heap.size + 1, 1, none⟩ = some (.int .i64 (b)) := by simp [go_sem]
  have b12 : ((w.alloc (.cells #[.int .i64 (x), .int .i64 (y), .int .u8 (q)] 23)).alloc (.cells #[.int .i64 (a), .int .i64 (b), .int .u8 (c)] 23)).cell? ⟨w.heap.size + 1, 2, none⟩ = some (.int .u8 (c)) := by simp [go_sem]
  generalize ((w.alloc (.cells #[.int .i64 (x), .int .i64 (y), .int .u8 (q)] 23)).alloc (.cells #[.int .i64 (a), .int .i64 (b), .int .u8 (c)] 23)) = W0 at *
  go_wp2_with (first | (go_at_call 28; with_reducible refine (cbt_bad2 x y q a b c _ c1 c2 c3 c4 c5 c6 H.out).mono ?_; rintro e wx ⟨rfl, hx⟩; obtain ⟨ux, rfl⟩ := after hx; clear hx) | fail)
  have hR : Below (W0).heap.size (W0) ((on ux).alloc (.cells #[.int .u8 0, .int .i64 0, .int .i64 0] 54)) := by repeat first | (with_reducible exact Below.refl _ _) | (with_reducible refine below_on ?_ _) | (with_reducible refine below_alloc ?_ _)
  have cR : ∀ {b_ i_ : Nat} {v_ : Value}, (W0).cell? ⟨b_, i_, none⟩ = some v_ → ((on ux).alloc (.cells #[.int .u8 0, .int .i64 0, .int .i64 0] 54)).cell? ⟨b_, i_, none⟩ = some v_ := fun h => (hR.cell (World.block_lt_of_cell? _ _ h)).trans h
  have b00' := cR b00
  have b01' := cR b01
  have b02' := cR b02
  have b10' := cR b10
  have b11' := cR b11
  have b12' := cR b12
  have B100 : ((on ux).alloc (.cells #[.int .u8 0, .int .i64 0, .int .i64 0] 54)).cell? ⟨(on ux).heap.size, 0, none⟩ = some (.int .u8 0) := by simp [go_sem]
  have B101 : ((on ux).alloc (.cells #[.int .u8 0, .int .i64 0, .int .i64 0] 54)).cell? ⟨(on ux).heap.size, 1, none⟩ = some (.int .i64 0) := by simp [go_sem]
  have B102 : ((on ux).alloc (.cells #[.int .u8 0, .int .i64 0, .int .i64 0] 54)).cell? ⟨(on ux).heap.size, 2, none⟩ = some (.int .i64 0) := by simp [go_sem]
  have hB1 : Below w.heap.size w ((on ux).alloc (.cells #[.int .u8 0, .int .i64 0, .int .i64 0] 54)) := by repeat first | (with_reducible exact hB0) | (with_reducible refine below_on ?_ _) | (with_reducible refine below_alloc ?_ _)
  clear hR cR b00 b01 b02 b10 b11 b12  hB0
  generalize ((on ux).alloc (.cells #[.int .u8 0, .int .i64 0, .int .i64 0] 54)) = W1 at *
  generalize (on ux).heap.size = B1 at *
  clear ux
  go_wp2_with (first | (go_at_call 13; with_reducible refine (rvalid_yes x y q _ c1 c2 c3 c4 c5 c6).mono ?_; rintro e wx ⟨rfl, hx⟩; obtain ⟨ux, rfl⟩ := after hx; clear hx) | (go_at_call 13; with_reducible refine (rvalid_no a b c _ H.out).mono ?_; rintro e wx ⟨rfl, hx⟩; obtain ⟨ux, rfl⟩ := after hx; clear hx) | (go_at_call 15; with_reducible refine (clives_ok _ (hL' _ (by repeat first | (with_reducible exact hB1) | (with_reducible refine below_on ?_ _) | (with_reducible refine below_alloc ?_ _) | (with_reducible refine below_set ?_ (by simp; try omega) _)))).mono ?_; rintro e wx ⟨rfl, hx⟩; obtain ⟨ux, rfl⟩ := after hx; clear hx) | fail)
  go_ret
  exact ⟨by first | rfl | (simp; done) | (simp; omega), (by repeat first | (with_reducible exact hB1) | (with_reducible refine below_on ?_ _) | (with_reducible refine below_alloc ?_ _) | (with_reducible refine below_set ?_ (by simp; try omega) _))⟩

set_option maxRecDepth 100000 in
set_option maxHeartbeats 8000000 in
theorem cbetween_core (x y q a b c T X Y : Int) (w : World) (hL : Lay w) (c1 : -4096 ≤ x) (c2 : x ≤ 4096) (c3 : -4096 ≤ y) (c4 : y ≤ 4096) (c5 : 0 ≤ q) (c6 : q ≤ 3)(d1 : -4096 ≤ a) (d2 : a ≤ 4096) (d3 : -4096 ≤ b) (d4 : b ≤ 4096) (d5 : 0 ≤ c) (d6 : c ≤ 3)
    (B1 : ∀ W, Lay W → Calls Tryd.prog 28 #[cl x y q, cl a b c] W fun r w' => r = .returned (.tuple #[mv T X Y, .int .i64 0]) ∧ Below W.heap.size W w')
    (B2 : ∀ W, Calls Tryd.prog 29 #[cl x y q, cl a b c] W fun r w' => r = .returned (.tuple #[mv T X Y, .int .i64 1]) ∧ Below W.heap.size W w')
    (B3 : ∀ W, Lay W → Calls Tryd.prog 25 #[mv T X Y, cl x y q] W fun r w' => r = .returned (.tuple #[cl a b c, .int .i64 0]) ∧ Below W.heap.size W w') : Calls Tryd.prog 7 #[cl x y q, cl a b c] w fun r w' => r = .returned (.bool true) ∧ Below w.heap.size w w' := by
  have hL' : ∀ W, Below w.heap.size w W → Lay W := fun W h => lay_below hL h
  go_enter Tryd.func7, Tryd.ntmps7
  go_wp2_with fail
  have hB0 : Below w.heap.size w ((w.alloc (.cells #[.int .i64 (x), .int .i64 (y), .int .u8 (q)] 23)).alloc (.cells #[.int .i64 (a), .int .i64 (b), .int .u8 (c)] 23)) := (by repeat first | (with_reducible exact Below.refl _ _) | (with_reducible refine below_on ?_ _) | (with_reducible refine below_alloc ?_ _) | (with_reducible refine below_set ?_ (by simp; try omega) _))
  have b00 : ((w.alloc (.cells #[.int .i64 (x), .int .i64 (y), .int .u8 (q)] 23)).alloc (.cells #[.int .i64 (a), .int .i64 (b), .int .u8 (c)] 23)).cell? ⟨w.heap.size, 0, none⟩ = some (.int .i64 (x)) := by simp [go_sem]
  have b01 : ((w.alloc (.cells #[.int .i64 (x), .int .i64 (y), .int .u8 (q)] 23)).alloc (.cells #[.int .i64 (a), .int .i64 (b), .int .u8 (c)] 23)).cell? ⟨w.heap.size, 1, none⟩ = some (.int .i64 (y)) := by simp [go_sem]
  have b02 : ((w.alloc (.cells #[.int .i64 (x), .int .i64 (y), .int .u8 (q)] 23)).alloc (.cells #[.int .i64 (a), .int .i64 (b), .int .u8 (c)] 23)).cell? ⟨w.heap.size, 2, none⟩ = some (.int .u8 (q)) := by simp [go_sem]
  have b10 : ((w.alloc (.cells #[.int .i64 (x), .int .i64 (y), .int .u8 (q)] 23)).alloc (.cells #[.int .i64 (a), .int .i64 (b), .int .u8 (c)] 23)).cell? ⟨w.heap.size + 1, 0, none⟩ = some (.int .i64 (a)) := by simp [go_sem]
  have b11 : ((w.alloc (.cells #[.int .i64 (x), .int .i64 (y), .int .u8 (q)] 23)).alloc (.cells #[.int .i64 (a), .int .i64 (b), .int .u8 (c)] 23)).cell? ⟨w.heap.size + 1, 1, none⟩ = some (.int .i64 (b)) := by simp [go_sem]
  have b12 : ((w.alloc (.cells #[.int .i64 (x), .int .i64 (y), .int .u8 (q)] 23)).alloc (.cells #[.int .i64 (a), .int .i64 (b), .int .u8 (c)] 23)).cell? ⟨w.heap.size + 1, 2, none⟩ = some (.int .u8 (c)) := by simp [go_sem]
  generalize ((w.alloc (.cells #[.int .i64 (x), .int .i64 (y), .int .u8 (q)] 23)).alloc (.cells #[.int .i64 (a), .int .i64 (b), .int .u8 (c)] 23)) = W0 at *
  go_wp2_with (first | (go_at_call 28; with_reducible refine (B1 _ (hL' _ (by repeat first | (with_reducible exact hB0) | (with_reducible refine below_on ?_ _) | (with_reducible refine below_alloc ?_ _) | (with_reducible refine below_set ?_ (by simp; try omega) _)))).mono ?_; rintro e wx ⟨rfl, hx⟩; obtain ⟨ux, rfl⟩ := after hx; clear hx) | fail)
  have hR : Below (W0).heap.size (W0) ((on ux).alloc (.cells #[.int .u8 T, .int .i64 X, .int .i64 Y] 54)) := by repeat first | (with_reducible exact Below.refl _ _) | (with_reducible refine below_on ?_ _) | (with_reducible refine below_alloc ?_ _)
  have cR : ∀ {b_ i_ : Nat} {v_ : Value}, (W0).cell? ⟨b_, i_, none⟩ = some v_ → ((on ux).alloc (.cells #[.int .u8 T, .int .i64 X, .int .i64 Y] 54)).cell? ⟨b_, i_, none⟩ = some v_ := fun h => (hR.cell (World.block_lt_of_cell? _ _ h)).trans h
  have b00' := cR b00
  have b01' := cR b01
  have b02' := cR b02
  have b10' := cR b10
  have b11' := cR b11
  have b12' := cR b12
  have B100 : ((on ux).alloc (.cells #[.int .u8 T, .int .i64 X, .int .i64 Y] 54)).cell? ⟨(on ux).heap.size, 0, none⟩ = some (.int .u8 T) := by simp [go_sem]
  have B101 : ((on ux).alloc (.cells #[.int .u8 T, .int .i64 X, .int .i64 Y] 54)).cell? ⟨(on ux).heap.size, 1, none⟩ = some (.int .i64 X) := by simp [go_sem]
  have B102 : ((on ux).alloc (.cells #[.int .u8 T, .int .i64 X, .int .i64 Y] 54)).cell? ⟨(on ux).heap.size, 2, none⟩ = some (.int .i64 Y) := by simp [go_sem]
  have hB1 : Below w.heap.size w ((on ux).alloc (.cells #[.int .u8 T, .int .i64 X, .int .i64 Y] 54)) := by repeat first | (with_reducible exact hB0) | (with_reducible refine below_on ?_ _) | (with_reducible refine below_alloc ?_ _)
  clear hR cR b00 b01 b02 b10 b11 b12  hB0
  generalize ((on ux).alloc (.cells #[.int .u8 T, .int .i64 X, .int .i64 Y] 54)) = W1 at *
  generalize (on ux).heap.size = B1 at *
  clear ux
  go_wp2_with (first | (go_at_call 13; with_reducible refine (rvalid_yes x y q _ c1 c2 c3 c4 c5 c6).mono ?_; rintro e wx ⟨rfl, hx⟩; obtain ⟨ux, rfl⟩ := after hx; clear hx) | (go_at_call 13; with_reducible refine (rvalid_yes a b c _ d1 d2 d3 d4 d5 d6).mono ?_; rintro e wx ⟨rfl, hx⟩; obtain ⟨ux, rfl⟩ := after hx; clear hx) | fail)
  go_wp2_with (first | (go_at_call 29; with_reducible refine (B2 _).mono ?_; rintro e wx ⟨rfl, hx⟩; obtain ⟨ux, rfl⟩ := after hx; clear hx) | fail)
  have hR : Below (W1).heap.size (W1) ((on ux).alloc (.cells #[.int .u8 T, .int .i64 X, .int .i64 Y] 54)) := by repeat first | (with_reducible exact Below.refl _ _) | (with_reducible refine below_on ?_ _) | (with_reducible refine below_alloc ?_ _)
  have cR : ∀ {b_ i_ : Nat} {v_ : Value}, (W1).cell? ⟨b_, i_, none⟩ = some v_ → ((on ux).alloc (.cells #[.int .u8 T, .int .i64 X, .int .i64 Y] 54)).cell? ⟨b_, i_, none⟩ = some v_ := fun h => (hR.cell (World.block_lt_of_cell? _ _ h)).trans h
  have b00'' := cR b00'
  have b01'' := cR b01'
  have b02'' := cR b02'
  have b10'' := cR b10'
  have b11'' := cR b11'
  have b12'' := cR b12'
  have B100' := cR B100
  have B101' := cR B101
  have B102' := cR B102
  have B200 : ((on ux).alloc (.cells #[.int .u8 T, .int .i64 X, .int .i64 Y] 54)).cell? ⟨(on ux).heap.size, 0, none⟩ = some (.int .u8 T) := by simp [go_sem]
  have B201 : ((on ux).alloc (.cells #[.int .u8 T, .int .i64 X, .int .i64 Y] 54)).cell? ⟨(on ux).heap.size, 1, none⟩ = some (.int .i64 X) := by simp [go_sem]
  have B202 : ((on ux).alloc (.cells #[.int .u8 T, .int .i64 X, .int .i64 Y] 54)).cell? ⟨(on ux).heap.size, 2, none⟩ = some (.int .i64 Y) := by simp [go_sem]
  have hB2 : Below w.heap.size w ((on ux).alloc (.cells #[.int .u8 T, .int .i64 X, .int .i64 Y] 54)) := by repeat first | (with_reducible exact hB1) | (with_reducible refine below_on ?_ _) | (with_reducible refine below_alloc ?_ _)
  clear hR cR b00' b01' b02' b10' b11' b12' B100 B101 B102  hB1
  generalize ((on ux).alloc (.cells #[.int .u8 T, .int .i64 X, .int .i64 Y] 54)) = W2 at *
  generalize (on ux).heap.size = B2 at *
  clear ux
  go_wp2_with (first | (go_at_call 25; with_reducible refine (B3 _ (hL' _ (by repeat first | (with_reducible exact hB2) | (with_reducible refine below_on ?_ _) | (with_reducible refine below_alloc ?_ _) | (with_reducible refine below_set ?_ (by simp; try omega) _)))).mono ?_; rintro e wx ⟨rfl, hx⟩; obtain ⟨ux, rfl⟩ := after hx; clear hx) | fail)
  have hR : Below (W2).heap.size (W2) ((on ux).alloc (.cells #[.int .i64 (a), .int .i64 (b), .int .u8 (c)] 23)) := by repeat first | (with_reducible exact Below.refl _ _) | (with_reducible refine below_on ?_ _) | (with_reducible refine below_alloc ?_ _)
  have cR : ∀ {b_ i_ : Nat} {v_ : Value}, (W2).cell? ⟨b_, i_, none⟩ = some v_ → ((on ux).alloc (.cells #[.int .i64 (a), .int .i64 (b), .int .u8 (c)] 23)).cell? ⟨b_, i_, none⟩ = some v_ := fun h => (hR.cell (World.block_lt_of_cell? _ _ h)).trans h
  have b00''' := cR b00''
  have b01''' := cR b01''
  have b02''' := cR b02''
  have b10''' := cR b10''
  have b11''' := cR b11''
  have b12''' := cR b12''
  have B100'' := cR B100'
  have B101'' := cR B101'
  have B102'' := cR B102'
  have B200' := cR B200
  have B201' := cR B201
  have B202' := cR B202
  have B300 : ((on ux).alloc (.cells #[.int .i64 (a), .int .i64 (b), .int .u8 (c)] 23)).cell? ⟨(on ux).heap.size, 0, none⟩ = some (.int .i64 (a)) := by simp [go_sem]
  have B301 : ((on ux).alloc (.cells #[.int .i64 (a), .int .i64 (b), .int .u8 (c)] 23)).cell? ⟨(on ux).heap.size, 1, none⟩ = some (.int .i64 (b)) := by simp [go_sem]
  have B302 : ((on ux).alloc (.cells #[.int .i64 (a), .int .i64 (b), .int .u8 (c)] 23)).cell? ⟨(on ux).heap.size, 2, none⟩ = some (.int .u8 (c)) := by simp [go_sem]
  have hB3 : Below w.heap.size w ((on ux).alloc (.cells #[.int .i64 (a), .int .i64 (b), .int .u8 (c)] 23)) := by repeat first | (with_reducible exact hB2) | (with_reducible refine below_on ?_ _) | (with_reducible refine below_alloc ?_ _)
  clear hR cR b00'' b01'' b02'' b10'' b11'' b12'' B100' B101' B102' B200 B201 B202  hB2
  generalize ((on ux).alloc (.cells #[.int .i64 (a), .int .i64 (b), .int .u8 (c)] 23)) = W3 at *
  generalize (on ux).heap.size = B3 at *
  clear ux
  go_wp2_with (first | (go_at_call 15; with_reducible refine (clives_ok _ (hL' _ (by repeat first | (with_reducible exact hB3) | (with_reducible refine below_on ?_ _) | (with_reducible refine below_alloc ?_ _) | (with_reducible refine below_set ?_ (by simp; try omega) _)))).mono ?_; rintro e wx ⟨rfl, hx⟩; obtain ⟨ux, rfl⟩ := after hx; clear hx) | fail)
  go_ret
  exact ⟨by first | rfl | (simp; done) | (simp; omega), (by repeat first | (with_reducible exact hB3) | (with_reducible refine below_on ?_ _) | (with_reducible refine below_alloc ?_ _) | (with_reducible refine below_set ?_ (by simp; try omega) _))⟩

theorem cbetween_ok (x y q a b c : Int) (w : World) (hL : Lay w) (c1 : -4096 ≤ x) (c2 : x ≤ 4096) (c3 : -4096 ≤ y) (c4 : y ≤ 4096) (c5 : 0 ≤ q) (c6 : q ≤ 3) (d1 : -4096 ≤ a) (d2 : a ≤ 4096) (d3 : -4096 ≤ b) (d4 : b ≤ 4096) (d5 : 0 ≤ c) (d6 : c ≤ 3) (px1 py1 px2 py2 rx1 ry1 rx2 ry2 : Int)
    (CA : ∀ W, Calls Tryd.prog 16 #[cl x y q] W fun e w' => e = .returned (.agg #[.int .i64 (1 + 2 * x), .int .i64 (1 + 2 * y), .int .i64 px1, .int .i64 py1, .int .i64 px2, .int .i64 py2]) ∧ Below W.heap.size W w')
    (CB : ∀ W, Calls Tryd.prog 16 #[cl a b c] W fun e w' => e = .returned (.agg #[.int .i64 (1 + 2 * a), .int .i64 (1 + 2 * b), .int .i64 rx1, .int .i64 ry1, .int .i64 rx2, .int .i64 ry2]) ∧ Below W.heap.size W w') : Calls Tryd.prog 7 #[cl x y q, cl a b c] w fun r w' => r = .returned (.bool true) ∧ Below w.heap.size w w' := by
  have tr := btT_range x y q a b c c5 c6 d5 d6
  have tp := btT_par x y q a b c c5 c6 d5 d6
  have tq := btT_q x y q a b c c5 c6 d5 d6
  have jr := im0_range (btT x y q a b c) x y 4096 tr.1 tr.2 c1 c2 c3 c4
  refine cbetween_core x y q a b c _ _ _ w hL c1 c2 c3 c4 c5 c6 d1 d2 d3 d4 d5 d6 (fun W h => cbt_ok x y q a b c W h c1 c2 c3 c4 c5 c6 d1 d2 d3 d4 d5 d6) (fun W => rbet_of x y q a b c px1 py1 px2 py2 rx1 ry1 rx2 ry2 W CA CB c1 c2 c3 c4 c5 c6 d1 d2 d3 d4 d5 d6) (fun W h => ?_)
  have e1 : imX (btT x y q a b c) (a - imX (btT x y q a b c) 0 x y) x y = a := by rw [imX_add]; omega
  have e2 : imY (btT x y q a b c) (b - imY (btT x y q a b c) 0 x y) x y = b := by rw [imY_add]; omega
  have := cmv_ok (btT x y q a b c) (a - imX (btT x y q a b c) 0 x y) (b - imY (btT x y q a b c) 0 x y) x y q W h tr.1 tr.2 (by omega) (by omega) (by omega) (by omega) tp c1 c2 c3 c4 c5 c6 (by omega) (by omega) (by omega) (by omega)
  rw [e1, e2, tq] at this
  exact this
theorem rcor_first (x y q : Int) (q1 : 0 ≤ q) (q2 : q ≤ 3) (x1 : -100000 ≤ x) (x2 : x ≤ 100000) (y1 : -100000 ≤ y) (y2 : y ≤ 100000) : ∃ p1 p2 p3 p4 : Int, ∀ W, Calls Tryd.prog 16 #[cl x y q] W fun e w' => e = .returned (.agg #[.int .i64 (1 + 2 * x), .int .i64 (1 + 2 * y), .int .i64 p1, .int .i64 p2, .int .i64 p3, .int .i64 p4]) ∧ Below W.heap.size W w' := by
  obtain rfl | rfl | rfl | rfl : q = 0 ∨ q = 1 ∨ q = 2 ∨ q = 3 := by omega
  · exact ⟨_, _, _, _, fun W => rcor_0 x y W x1 x2 y1 y2⟩
  · exact ⟨_, _, _, _, fun W => rcor_1 x y W x1 x2 y1 y2⟩
  · exact ⟨_, _, _, _, fun W => rcor_2 x y W x1 x2 y1 y2⟩
  · exact ⟨_, _, _, _, fun W => rcor_3 x y W x1 x2 y1 y2⟩
theorem cellsbetween_law (x y q a b c : Int) (w : World) (hL : Lay w) (q0 : 0 ≤ q) (r0 : 0 ≤ c) : Calls Tryd.prog 7 #[cl x y q, cl a b c] w fun r w' => r = .returned (.bool true) ∧ Below w.heap.size w w' := by
  by_cases h : -4096 ≤ x ∧ x ≤ 4096 ∧ -4096 ≤ y ∧ y ≤ 4096 ∧ q ≤ 3
  · obtain ⟨c1, c2, c3, c4, c6⟩ := h
    by_cases h : -4096 ≤ a ∧ a ≤ 4096 ∧ -4096 ≤ b ∧ b ≤ 4096 ∧ c ≤ 3
    · obtain ⟨d1, d2, d3, d4, d6⟩ := h
      obtain ⟨p1, p2, p3, p4, CA⟩ := rcor_first x y q q0 c6 (by omega) (by omega) (by omega) (by omega)
      obtain ⟨r1, r2, r3, r4, CB⟩ := rcor_first a b c r0 d6 (by omega) (by omega) (by omega) (by omega)
      exact cbetween_ok x y q a b c w hL c1 c2 c3 c4 q0 c6 d1 d2 d3 d4 r0 d6 p1 p2 p3 p4 r1 r2 r3 r4 CA CB
    · exact cbetween_bad2 x y q a b c w hL c1 c2 c3 c4 q0 c6 (by omega)
  · exact cbetween_bad1 x y q a b c w hL (by omega)

end Go.Proofs.YtgkiliijefkcaaaDoor
