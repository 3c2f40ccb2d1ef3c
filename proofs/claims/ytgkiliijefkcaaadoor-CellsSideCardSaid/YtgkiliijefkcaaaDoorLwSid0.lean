/-
  Says: CellsSide answers true, by where the corners lie.
-/
import Derived.Test.YtgkiliijefkcaaaDoorCv1
import Derived.Test.YtgkiliijefkcaaaDoorCr5
import Derived.Test.YtgkiliijefkcaaaDoorCf5
set_option linter.unusedVariables false
set_option linter.unusedSimpArgs false
namespace Go.Proofs.YtgkiliijefkcaaaDoor
open Go Go.RowKit

attribute [local go_sem] World.cell?_alloc_some frozen?_alloc_cells fz0 fz1 fz2 fz3 fz4 fz5
attribute [local go_sem] eql_pt3

set_option maxRecDepth 100000 in
set_option maxHeartbeats 8000000 in
theorem csideL_bad1 (k c x y q : Int) (w : World) (hL : Lay w) (h : k < 1 ∨ 4 < k ∨ c < -4096 ∨ 4096 < c) : Calls Tryd.prog 5 #[ln k c, cl x y q] w fun r w' => r = .returned (.bool true) ∧ Below w.heap.size w w' := by
  have H : Hid (k < 1 ∨ 4 < k ∨ c < -4096 ∨ 4096 < c) := h
  clear h
  have hL' : ∀ W, Below w.heap.size w W → Lay W := fun W h => lay_below hL h
  go_enter Tryd.func5, Tryd.ntmps5
  go_wp2_with fail
  have hB0 : Below w.heap.size w ((w.alloc (.cells #[.int .u8 (k), .int .i64 (c)] 26)).alloc (.cells #[.int .i64 (x), .int .i64 (y), .int .u8 (q)] 23)) := (by repeat first | (with_reducible exact Below.refl _ _) | (with_reducible refine below_on ?_ _) | (with_reducible refine below_alloc ?_ _) | (with_reducible refine below_set ?_ (by simp; try omega) _))
  have b00 : ((w.alloc (.cells #[.int .u8 (k), .int .i64 (c)] 26)).alloc (.cells #[.int .i64 (x), .int .i64 (y), .int .u8 (q)] 23)).cell? ⟨w.heap.size, 0, none⟩ = some (.int .u8 (k)) := by simp [go_sem]
  have b01 : ((w.alloc (.cells #[.int .u8 (k), .int .i64 (c)] 26)).alloc (.cells #[.int .i64 (x), .int .i64 (y), .int .u8 (q)] 23)).cell? ⟨w.heap.size, 1, none⟩ = some (.int .i64 (c)) := by simp [go_sem]
  have b10 : ((w.alloc (.cells #[.int .u8 (k), .int .i64 (c)] 26)).alloc (.cells #[.int .i64 (x), .int .i64 (y), .int .u8 (q)] 23)).cell? ⟨w.heap.size + 1, 0, none⟩ = some (.int .i64 (x)) := by simp [go_sem]
  have b11 : ((w.alloc (.cells #[.int .u8 (k), .int .i64 (c)] 26)).alloc (.cells #[.int .i64 (x), .int .i64 (y), .int .u8 (q)] 23)).cell? ⟨w.heap.size + 1, 1, none⟩ = some (.int .i64 (y)) := by simp [go_sem]
  have b12 : ((w.alloc (.cells #[.int .u8 (k), .int .i64 (c)] 26)).alloc (.cells #[.int .i64 (x), .int .i64 (y), .int .u8 (q)] 23)).cell? ⟨w.heap.size + 1, 2, none⟩ = some (.int .u8 (q)) := by simp [go_sem]
  generalize ((w.alloc (.cells #[.int .u8 (k), .int .i64 (c)] 26)).alloc (.cells #[.int .i64 (x), .int .i64 (y), .int .u8 (q)] 23)) = W0 at *
  go_wp2_with (first | (go_at_call 22; with_reducible refine (cside_bad1 k c x y q _ H.out).mono ?_; rintro e wx ⟨rfl, hx⟩; obtain ⟨ux, rfl⟩ := after hx; clear hx) | fail)
  have hR : Below (W0).heap.size (W0) (on ux) := by repeat first | (with_reducible exact Below.refl _ _) | (with_reducible refine below_on ?_ _) | (with_reducible refine below_alloc ?_ _)
  have cR : ∀ {b_ i_ : Nat} {v_ : Value}, (W0).cell? ⟨b_, i_, none⟩ = some v_ → (on ux).cell? ⟨b_, i_, none⟩ = some v_ := fun h => (hR.cell (World.block_lt_of_cell? _ _ h)).trans h
  have b00' := cR b00
  have b01' := cR b01
  have b10' := cR b10
  have b11' := cR b11
  have b12' := cR b12
  have hB1 : Below w.heap.size w (on ux) := by repeat first | (with_reducible exact hB0) | (with_reducible refine below_on ?_ _) | (with_reducible refine below_alloc ?_ _)
  clear hR cR b00 b01 b10 b11 b12  hB0
  generalize (on ux) = W1 at *
  clear ux
  go_wp2_with (first | (go_at_call 18; with_reducible refine (valid_no k c _ H.out).mono ?_; rintro e wx ⟨rfl, hx⟩; obtain ⟨ux, rfl⟩ := after hx; clear hx) | (go_at_call 15; with_reducible refine (clives_ok _ (hL' _ (by repeat first | (with_reducible exact hB1) | (with_reducible refine below_on ?_ _) | (with_reducible refine below_alloc ?_ _) | (with_reducible refine below_set ?_ (by simp; try omega) _)))).mono ?_; rintro e wx ⟨rfl, hx⟩; obtain ⟨ux, rfl⟩ := after hx; clear hx) | fail)
  go_ret
  exact ⟨by first | rfl | (simp; done) | (simp; omega), (by repeat first | (with_reducible exact hB1) | (with_reducible refine below_on ?_ _) | (with_reducible refine below_alloc ?_ _) | (with_reducible refine below_set ?_ (by simp; try omega) _))⟩

set_option maxRecDepth 100000 in
set_option maxHeartbeats 8000000 in
theorem csideL_bad2 (k c x y q : Int) (w : World) (hL : Lay w) (h1 : 1 ≤ k) (h2 : k ≤ 4) (h3 : -4096 ≤ c) (h4 : c ≤ 4096) (h : 3 < q ∨ x < -4096 ∨ 4096 < x ∨ y < -4096 ∨ 4096 < y) : Calls Tryd.prog 5 #[ln k c, cl x y q] w fun r w' => r = .returned (.bool true) ∧ Below w.heap.size w w' := by
  have H : Hid (3 < q ∨ x < -4096 ∨ 4096 < x ∨ y < -4096 ∨ 4096 < y) := h
  clear h
  have hL' : ∀ W, Below w.heap.size w W → Lay W := fun W h => lay_below hL h
  go_enter Tryd.func5, Tryd.ntmps5
  go_wp2_with fail
  have hB0 : Below w.heap.size w ((w.alloc (.cells #[.int .u8 (k), .int .i64 (c)] 26)).alloc (.cells #[.int .i64 (x), .int .i64 (y), .int .u8 (q)] 23)) := (by repeat first | (with_reducible exact Below.refl _ _) | (with_reducible refine below_on ?_ _) | (with_reducible refine below_alloc ?_ _) | (with_reducible refine below_set ?_ (by simp; try omega) _))
  have b00 : ((w.alloc (.cells #[.int .u8 (k), .int .i64 (c)] 26)).alloc (.cells #[.int .i64 (x), .int .i64 (y), .int .u8 (q)] 23)).cell? ⟨w.heap.size, 0, none⟩ = some (.int .u8 (k)) := by simp [go_sem]
  have b01 : ((w.alloc (.cells #[.int .u8 (k), .int .i64 (c)] 26)).alloc (.cells #[.int .i64 (x), .int .i64 (y), .int .u8 (q)] 23)).cell? ⟨w.heap.size, 1, none⟩ = some (.int .i64 (c)) := by simp [go_sem]
  have b10 : ((w.alloc (.cells #[.int .u8 (k), .int .i64 (c)] 26)).alloc (.cells #[.int .i64 (x), .int .i64 (y), .int .u8 (q)] 23)).cell? ⟨w.heap.size + 1, 0, none⟩ = some (.int .i64 (x)) := by simp [go_sem]
  have b11 : ((w.alloc (.cells #[.int .u8 (k), .int .i64 (c)] 26)).alloc (.cells #[.int .i64 (x), .int .i64 (y), .int .u8 (q)] 23)).cell? ⟨w.heap.size + 1, 1, none⟩ = some (.int .i64 (y)) := by simp [go_sem]
  have b12 : ((w.alloc (.cells #[.int .u8 (k), .int .i64 (c)] 26)).alloc (.cells #[.int .i64 (x), .int .i64 (y), .int .u8 (q)] 23)).cell? ⟨w.heap.size + 1, 2, none⟩ = some (.int .u8 (q)) := by simp [go_sem]
  generalize ((w.alloc (.cells #[.int .u8 (k), .int .i64 (c)] 26)).alloc (.cells #[.int .i64 (x), .int .i64 (y), .int .u8 (q)] 23)) = W0 at *
  go_wp2_with (first | (go_at_call 22; with_reducible refine (cside_bad2 k c x y q _ h1 h2 h3 h4 H.out).mono ?_; rintro e wx ⟨rfl, hx⟩; obtain ⟨ux, rfl⟩ := after hx; clear hx) | fail)
  have hR : Below (W0).heap.size (W0) (on ux) := by repeat first | (with_reducible exact Below.refl _ _) | (with_reducible refine below_on ?_ _) | (with_reducible refine below_alloc ?_ _)
  have cR : ∀ {b_ i_ : Nat} {v_ : Value}, (W0).cell? ⟨b_, i_, none⟩ = some v_ → (on ux).cell? ⟨b_, i_, none⟩ = some v_ := fun h => (hR.cell (World.block_lt_of_cell? _ _ h)).trans h
  have b00' := cR b00
  have b01' := cR b01
  have b10' := cR b10
  have b11' := cR b11
  have b12' := cR b12
  have hB1 : Below w.heap.size w (on ux) := by repeat first | (with_reducible exact hB0) | (with_reducible refine below_on ?_ _) | (with_reducible refine below_alloc ?_ _)
  clear hR cR b00 b01 b10 b11 b12  hB0
  generalize (on ux) = W1 at *
  clear ux
  go_wp2_with (first | (go_at_call 18; with_reducible refine (valid_yes k c _ h1 h2 h3 h4).mono ?_; rintro e wx ⟨rfl, hx⟩; obtain ⟨ux, rfl⟩ := after hx; clear hx) | (go_at_call 13; with_reducible refine (rvalid_no x y q _ H.out).mono ?_; rintro e wx ⟨rfl, hx⟩; obtain ⟨ux, rfl⟩ := after hx; clear hx) | (go_at_call 15; with_reducible refine (clives_ok _ (hL' _ (by repeat first | (with_reducible exact hB1) | (with_reducible refine below_on ?_ _) | (with_reducible refine below_alloc ?_ _) | (with_reducible refine below_set ?_ (by simp; try omega) _)))).mono ?_; rintro e wx ⟨rfl, hx⟩; obtain ⟨ux, rfl⟩ := after hx; clear hx) | fail)
  go_ret
  exact ⟨by first | rfl | (simp; done) | (simp; omega), (by repeat first | (with_reducible exact hB1) | (with_reducible refine below_on ?_ _) | (with_reducible refine below_alloc ?_ _) | (with_reducible refine below_set ?_ (by simp; try omega) _))⟩

set_option maxRecDepth 100000 in
set_option maxHeartbeats 8000000 in
theorem csideL_hi (k c x y q px0 py0 px1 py1 px2 py2 f0 f1 f2 : Int) (w : World) (hL : Lay w) (h1 : 1 ≤ k) (h2 : k ≤ 4) (h3 : -4096 ≤ c) (h4 : c ≤ 4096) (d1 : -4096 ≤ x) (d2 : x ≤ 4096) (d3 : -4096 ≤ y) (d4 : y ≤ 4096) (d5 : 0 ≤ q) (d6 : q ≤ 3)
    (CO2 : ∀ W, Calls Tryd.prog 16 #[cl x y q] W fun r w' => r = .returned (.agg #[.int .i64 px0, .int .i64 py0, .int .i64 px1, .int .i64 py1, .int .i64 px2, .int .i64 py2]) ∧ Below W.heap.size W w') (F0 : ∀ W, Calls Tryd.prog 23 #[ln k c, pt px0 py0] W fun e w' => e = .returned (.int .i64 f0) ∧ Below W.heap.size W w') (F1 : ∀ W, Calls Tryd.prog 23 #[ln k c, pt px1 py1] W fun e w' => e = .returned (.int .i64 f1) ∧ Below W.heap.size W w') (F2 : ∀ W, Calls Tryd.prog 23 #[ln k c, pt px2 py2] W fun e w' => e = .returned (.int .i64 f2) ∧ Below W.heap.size W w') (S1 : ∀ W, Lay W → Calls Tryd.prog 22 #[ln k c, cl x y q] W fun r w' => r = .returned (.tuple #[.int .i64 1, .int .i64 0]) ∧ Below W.heap.size W w') (S2 : ∀ W, Calls Tryd.prog 24 #[ln k c, cl x y q] W fun r w' => r = .returned (.int .i64 1) ∧ Below W.heap.size W w') (g0 : 0 ≤ f0) (g1 : 0 ≤ f1) (g2 : 0 ≤ f2) (gx : 0 < f0 ∨ 0 < f1 ∨ 0 < f2) : Calls Tryd.prog 5 #[ln k c, cl x y q] w fun r w' => r = .returned (.bool true) ∧ Below w.heap.size w w' := by
  have hL' : ∀ W, Below w.heap.size w W → Lay W := fun W h => lay_below hL h
  go_enter Tryd.func5, Tryd.ntmps5
  go_wp2_with fail
  have hB0 : Below w.heap.size w ((w.alloc (.cells #[.int .u8 (k), .int .i64 (c)] 26)).alloc (.cells #[.int .i64 (x), .int .i64 (y), .int .u8 (q)] 23)) := (by repeat first | (with_reducible exact Below.refl _ _) | (with_reducible refine below_on ?_ _) | (with_reducible refine below_alloc ?_ _) | (with_reducible refine below_set ?_ (by simp; try omega) _))
  have b00 : ((w.alloc (.cells #[.int .u8 (k), .int .i64 (c)] 26)).alloc (.cells #[.int .i64 (x), .int .i64 (y), .int .u8 (q)] 23)).cell? ⟨w.heap.size, 0, none⟩ = some (.int .u8 (k)) := by simp [go_sem]
  have b01 : ((w.alloc (.cells #[.int .u8 (k), .int .i64 (c)] 26)).alloc (.cells #[.int .i64 (x), .int .i64 (y), .int .u8 (q)] 23)).cell? ⟨w.heap.size, 1, none⟩ = some (.int .i64 (c)) := by simp [go_sem]
  have b10 : ((w.alloc (.cells #[.int .u8 (k), .int .i64 (c)] 26)).alloc (.cells #[.int .i64 (x), .int .i64 (y), .int .u8 (q)] 23)).cell? ⟨w.heap.size + 1, 0, none⟩ = some (.int .i64 (x)) := by simp [go_sem]
  have b11 : ((w.alloc (.cells #[.int .u8 (k), .int .i64 (c)] 26)).alloc (.cells #[.int .i64 (x), .int .i64 (y), .int .u8 (q)] 23)).cell? ⟨w.heap.size + 1, 1, none⟩ = some (.int .i64 (y)) := by simp [go_sem]
  have b12 : ((w.alloc (.cells #[.int .u8 (k), .int .i64 (c)] 26)).alloc (.cells #[.int .i64 (x), .int .i64 (y), .int .u8 (q)] 23)).cell? ⟨w.heap.size + 1, 2, none⟩ = some (.int .u8 (q)) := by simp [go_sem]
  generalize ((w.alloc (.cells #[.int .u8 (k), .int .i64 (c)] 26)).alloc (.cells #[.int .i64 (x), .int .i64 (y), .int .u8 (q)] 23)) = W0 at *
  go_wp2_with (first | (go_at_call 22; with_reducible refine (S1 _ (hL' _ (by repeat first | (with_reducible exact hB0) | (with_reducible refine below_on ?_ _) | (with_reducible refine below_alloc ?_ _) | (with_reducible refine below_set ?_ (by simp; try omega) _)))).mono ?_; rintro e wx ⟨rfl, hx⟩; obtain ⟨ux, rfl⟩ := after hx; clear hx) | fail)
  have hR : Below (W0).heap.size (W0) (on ux) := by repeat first | (with_reducible exact Below.refl _ _) | (with_reducible refine below_on ?_ _) | (with_reducible refine below_alloc ?_ _)
  have cR : ∀ {b_ i_ : Nat} {v_ : Value}, (W0).cell? ⟨b_, i_, none⟩ = some v_ → (on ux).cell? ⟨b_, i_, none⟩ = some v_ := fun h => (hR.cell (World.block_lt_of_cell? _ _ h)).trans h
  have b00' := cR b00
  have b01' := cR b01
  have b10' := cR b10
  have b11' := cR b11
  have b12' := cR b12
  have hB1 : Below w.heap.size w (on ux) := by repeat first | (with_reducible exact hB0) | (with_reducible refine below_on ?_ _) | (with_reducible refine below_alloc ?_ _)
  clear hR cR b00 b01 b10 b11 b12  hB0
  generalize (on ux) = W1 at *
  clear ux
  go_wp2_with (first | (go_at_call 18; with_reducible refine (valid_yes k c _ h1 h2 h3 h4).mono ?_; rintro e wx ⟨rfl, hx⟩; obtain ⟨ux, rfl⟩ := after hx; clear hx) | (go_at_call 13; with_reducible refine (rvalid_yes x y q _ d1 d2 d3 d4 d5 d6).mono ?_; rintro e wx ⟨rfl, hx⟩; obtain ⟨ux, rfl⟩ := after hx; clear hx) | fail)
  go_wp2_with (first | (go_at_call 16; with_reducible refine (CO2 _).mono ?_; rintro e wx ⟨rfl, hx⟩; obtain ⟨ux, rfl⟩ := after hx; clear hx) | fail)
  have hR : Below (W1).heap.size (W1) ((on ux).alloc (.cells #[.int .i64 px0, .int .i64 py0, .int .i64 px1, .int .i64 py1, .int .i64 px2, .int .i64 py2] 32)) := by repeat first | (with_reducible exact Below.refl _ _) | (with_reducible refine below_on ?_ _) | (with_reducible refine below_alloc ?_ _)
  have cR : ∀ {b_ i_ : Nat} {v_ : Value}, (W1).cell? ⟨b_, i_, none⟩ = some v_ → ((on ux).alloc (.cells #[.int .i64 px0, .int .i64 py0, .int .i64 px1, .int .i64 py1, .int .i64 px2, .int .i64 py2] 32)).cell? ⟨b_, i_, none⟩ = some v_ := fun h => (hR.cell (World.block_lt_of_cell? _ _ h)).trans h
  have b00'' := cR b00'
  have b01'' := cR b01'
  have b10'' := cR b10'
  have b11'' := cR b11'
  have b12'' := cR b12'
  have B200 : ((on ux).alloc (.cells #[.int .i64 px0, .int .i64 py0, .int .i64 px1, .int .i64 py1, .int .i64 px2, .int .i64 py2] 32)).cell? ⟨(on ux).heap.size, 0, none⟩ = some (.int .i64 px0) := by simp [go_sem]
  have B201 : ((on ux).alloc (.cells #[.int .i64 px0, .int .i64 py0, .int .i64 px1, .int .i64 py1, .int .i64 px2, .int .i64 py2] 32)).cell? ⟨(on ux).heap.size, 1, none⟩ = some (.int .i64 py0) := by simp [go_sem]
  have B202 : ((on ux).alloc (.cells #[.int .i64 px0, .int .i64 py0, .int .i64 px1, .int .i64 py1, .int .i64 px2, .int .i64 py2] 32)).cell? ⟨(on ux).heap.size, 2, none⟩ = some (.int .i64 px1) := by simp [go_sem]
  have B203 : ((on ux).alloc (.cells #[.int .i64 px0, .int .i64 py0, .int .i64 px1, .int .i64 py1, .int .i64 px2, .int .i64 py2] 32)).cell? ⟨(on ux).heap.size, 3, none⟩ = some (.int .i64 py1) := by simp [go_sem]
  have B204 : ((on ux).alloc (.cells #[.int .i64 px0, .int .i64 py0, .int .i64 px1, .int .i64 py1, .int .i64 px2, .int .i64 py2] 32)).cell? ⟨(on ux).heap.size, 4, none⟩ = some (.int .i64 px2) := by simp [go_sem]
  have B205 : ((on ux).alloc (.cells #[.int .i64 px0, .int .i64 py0, .int .i64 px1, .int .i64 py1, .int .i64 px2, .int .i64 py2] 32)).cell? ⟨(on ux).heap.size, 5, none⟩ = some (.int .i64 py2) := by simp [go_sem]
  have hB2 : Below w.heap.size w ((on ux).alloc (.cells #[.int .i64 px0, .int .i64 py0, .int .i64 px1, .int .i64 py1, .int .i64 px2, .int .i64 py2] 32)) := by repeat first | (with_reducible exact hB1) | (with_reducible refine below_on ?_ _) | (with_reducible refine below_alloc ?_ _)
  clear hR cR b00' b01' b10' b11' b12'  hB1
  generalize ((on ux).alloc (.cells #[.int .i64 px0, .int .i64 py0, .int .i64 px1, .int .i64 py1, .int .i64 px2, .int .i64 py2] 32)) = W2 at *
  generalize (on ux).heap.size = B2 at *
  clear ux
  have GX : Hid (0 < f0 ∨ 0 < f1 ∨ 0 < f2) := gx
  clear gx
  go_loopw [8, 9, 10] (fun lv hv iv wr => ∃ i h : Int, iv = .int .i64 i ∧ lv = .int .i64 0 ∧ hv = .int .i64 h ∧ 0 ≤ h ∧ h ≤ 3 ∧ ((i = 0 ∧ h ≤ 0 ∧ Hid (True)) ∨ (i = 1 ∧ h ≤ 1 ∧ Hid (0 < f0 → 0 < h)) ∨ (i = 2 ∧ h ≤ 2 ∧ Hid ((0 < f0 ∨ 0 < f1) → 0 < h)) ∨ (i = 3 ∧ h ≤ 3 ∧ Hid ((0 < f0 ∨ 0 < f1 ∨ 0 < f2) → 0 < h))) ∧ ∃ u : Later W2, wr = on u) (fun _ _ iv _ => (3 - intOf iv).toNat)
  case atStart => exact ⟨0, 0, rfl, rfl, rfl, by omega, by omega, .inl ⟨rfl, by omega, trivial⟩, ⟨_, Below.refl _ _⟩, rfl⟩
  case round =>
    obtain ⟨i, h, rfl, rfl, rfl, hh0, hh3, hi, u0, rfl⟩ := hrel
    have hq : Below w.heap.size w (on u0) := below_on hB2 u0
    obtain ⟨rfl, hj, HR⟩ | ⟨rfl, hj, HR⟩ | ⟨rfl, hj, HR⟩ | ⟨rfl, hj, HR⟩ := hi
    · by_cases hp : 0 < f0
      · have p1 : 0 < f0 := hp
        have p2 : ¬ f0 < 0 := by omega
        clear hp
        go_wp2_with fail
        refine region_later (by kernel_rfl) (by kernel_rfl) ?_
        repeat (go_big_quiet_step ((first | (go_at_call 23; with_reducible exact Calls.later (F0 _)) | fail)))
        refine wpQuiet_nil ?_
        rintro _ ⟨u9, rfl⟩
        go_wp2_with fail
        refine region_later (by kernel_rfl) (by kernel_rfl) ?_
        repeat (go_big_quiet_step ((first | (go_at_call 23; with_reducible exact Calls.later (F0 _)) | fail)))
        refine wpQuiet_nil ?_
        rintro _ ⟨u8_, rfl⟩
        go_wp2_with fail
        exact ⟨⟨0 + 1, h + 1, rfl, rfl, rfl, by omega, by omega, .inr (.inl ⟨rfl, by omega, (fun _ => by omega)⟩), after (by repeat first | (with_reducible exact Below.refl _ _) | (with_reducible refine below_on ?_ _) | (with_reducible refine below_alloc ?_ _) | (with_reducible refine below_set ?_ (by simp; try omega) _))⟩, by simp [intOf]⟩
      · have p1 : ¬ 0 < f0 := hp
        have p2 : ¬ f0 < 0 := by omega
        clear hp
        go_wp2_with fail
        refine region_later (by kernel_rfl) (by kernel_rfl) ?_
        repeat (go_big_quiet_step ((first | (go_at_call 23; with_reducible exact Calls.later (F0 _)) | fail)))
        refine wpQuiet_nil ?_
        rintro _ ⟨u9, rfl⟩
        go_wp2_with fail
        refine region_later (by kernel_rfl) (by kernel_rfl) ?_
        repeat (go_big_quiet_step ((first | (go_at_call 23; with_reducible exact Calls.later (F0 _)) | fail)))
        refine wpQuiet_nil ?_
        rintro _ ⟨u8_, rfl⟩
        go_wp2_with fail
        exact ⟨⟨0 + 1, h, rfl, rfl, rfl, by omega, by omega, .inr (.inl ⟨rfl, by omega, (fun q => by omega)⟩), after (by repeat first | (with_reducible exact Below.refl _ _) | (with_reducible refine below_on ?_ _) | (with_reducible refine below_alloc ?_ _) | (with_reducible refine below_set ?_ (by simp; try omega) _))⟩, by simp [intOf]⟩
    · by_cases hp : 0 < f1
      · have p1 : 0 < f1 := hp
        have p2 : ¬ f1 < 0 := by omega
        clear hp
        go_wp2_with fail
        refine region_later (by kernel_rfl) (by kernel_rfl) ?_
        repeat (go_big_quiet_step ((first | (go_at_call 23; with_reducible exact Calls.later (F1 _)) | fail)))
        refine wpQuiet_nil ?_
        rintro _ ⟨u9, rfl⟩
        go_wp2_with fail
        refine region_later (by kernel_rfl) (by kernel_rfl) ?_
        repeat (go_big_quiet_step ((first | (go_at_call 23; with_reducible exact Calls.later (F1 _)) | fail)))
        refine wpQuiet_nil ?_
        rintro _ ⟨u8_, rfl⟩
        go_wp2_with fail
        exact ⟨⟨1 + 1, h + 1, rfl, rfl, rfl, by omega, by omega, .inr (.inr (.inl ⟨rfl, by omega, (fun _ => by omega)⟩)), after (by repeat first | (with_reducible exact Below.refl _ _) | (with_reducible refine below_on ?_ _) | (with_reducible refine below_alloc ?_ _) | (with_reducible refine below_set ?_ (by simp; try omega) _))⟩, by simp [intOf]⟩
      · have p1 : ¬ 0 < f1 := hp
        have p2 : ¬ f1 < 0 := by omega
        clear hp
        go_wp2_with fail
        refine region_later (by kernel_rfl) (by kernel_rfl) ?_
        repeat (go_big_quiet_step ((first | (go_at_call 23; with_reducible exact Calls.later (F1 _)) | fail)))
        refine wpQuiet_nil ?_
        rintro _ ⟨u9, rfl⟩
        go_wp2_with fail
        refine region_later (by kernel_rfl) (by kernel_rfl) ?_
        repeat (go_big_quiet_step ((first | (go_at_call 23; with_reducible exact Calls.later (F1 _)) | fail)))
        refine wpQuiet_nil ?_
        rintro _ ⟨u8_, rfl⟩
        go_wp2_with fail
        exact ⟨⟨1 + 1, h, rfl, rfl, rfl, by omega, by omega, .inr (.inr (.inl ⟨rfl, by omega, (fun q => HR (by omega))⟩)), after (by repeat first | (with_reducible exact Below.refl _ _) | (with_reducible refine below_on ?_ _) | (with_reducible refine below_alloc ?_ _) | (with_reducible refine below_set ?_ (by simp; try omega) _))⟩, by simp [intOf]⟩
    · by_cases hp : 0 < f2
      · have p1 : 0 < f2 := hp
        have p2 : ¬ f2 < 0 := by omega
        clear hp
        go_wp2_with fail
        refine region_later (by kernel_rfl) (by kernel_rfl) ?_
        repeat (go_big_quiet_step ((first | (go_at_call 23; with_reducible exact Calls.later (F2 _)) | fail)))
        refine wpQuiet_nil ?_
        rintro _ ⟨u9, rfl⟩
        go_wp2_with fail
        refine region_later (by kernel_rfl) (by kernel_rfl) ?_
        repeat (go_big_quiet_step ((first | (go_at_call 23; with_reducible exact Calls.later (F2 _)) | fail)))
        refine wpQuiet_nil ?_
        rintro _ ⟨u8_, rfl⟩
        go_wp2_with fail
        exact ⟨⟨2 + 1, h + 1, rfl, rfl, rfl, by omega, by omega, .inr (.inr (.inr (⟨rfl, by omega, (fun _ => by omega)⟩))), after (by repeat first | (with_reducible exact Below.refl _ _) | (with_reducible refine below_on ?_ _) | (with_reducible refine below_alloc ?_ _) | (with_reducible refine below_set ?_ (by simp; try omega) _))⟩, by simp [intOf]⟩
      · have p1 : ¬ 0 < f2 := hp
        have p2 : ¬ f2 < 0 := by omega
        clear hp
        go_wp2_with fail
        refine region_later (by kernel_rfl) (by kernel_rfl) ?_
        repeat (go_big_quiet_step ((first | (go_at_call 23; with_reducible exact Calls.later (F2 _)) | fail)))
        refine wpQuiet_nil ?_
        rintro _ ⟨u9, rfl⟩
        go_wp2_with fail
        refine region_later (by kernel_rfl) (by kernel_rfl) ?_
        repeat (go_big_quiet_step ((first | (go_at_call 23; with_reducible exact Calls.later (F2 _)) | fail)))
        refine wpQuiet_nil ?_
        rintro _ ⟨u8_, rfl⟩
        go_wp2_with fail
        exact ⟨⟨2 + 1, h, rfl, rfl, rfl, by omega, by omega, .inr (.inr (.inr (⟨rfl, by omega, (fun q => HR (by omega))⟩))), after (by repeat first | (with_reducible exact Below.refl _ _) | (with_reducible refine below_on ?_ _) | (with_reducible refine below_alloc ?_ _) | (with_reducible refine below_set ?_ (by simp; try omega) _))⟩, by simp [intOf]⟩
    · have h0 : 0 < h := HR GX.out
      have h1_ : (h == 0) = false := eqf (by omega)
      go_wp2_with (first | (go_at_call 24; with_reducible refine (S2 _).mono ?_; rintro e wx ⟨rfl, hx⟩; obtain ⟨ux, rfl⟩ := after hx; clear hx) | (go_at_call 15; with_reducible refine (clives_ok _ (hL' _ (by repeat first | (with_reducible exact hq) | (with_reducible refine below_on ?_ _) | (with_reducible refine below_alloc ?_ _) | (with_reducible refine below_set ?_ (by simp; try omega) _)))).mono ?_; rintro e wx ⟨rfl, hx⟩; obtain ⟨ux, rfl⟩ := after hx; clear hx) | fail)
      go_ret
      exact ⟨by first | rfl | (simp; done) | (simp; omega), (by repeat first | (with_reducible exact hq) | (with_reducible refine below_on ?_ _) | (with_reducible refine below_alloc ?_ _) | (with_reducible refine below_set ?_ (by simp; try omega) _))⟩

set_option maxRecDepth 100000 in
set_option maxHeartbeats 8000000 in
theorem csideL_lo (k c x y q px0 py0 px1 py1 px2 py2 f0 f1 f2 : Int) (w : World) (hL : Lay w) (h1 : 1 ≤ k) (h2 : k ≤ 4) (h3 : -4096 ≤ c) (h4 : c ≤ 4096) (d1 : -4096 ≤ x) (d2 : x ≤ 4096) (d3 : -4096 ≤ y) (d4 : y ≤ 4096) (d5 : 0 ≤ q) (d6 : q ≤ 3)
    (CO2 : ∀ W, Calls Tryd.prog 16 #[cl x y q] W fun r w' => r = .returned (.agg #[.int .i64 px0, .int .i64 py0, .int .i64 px1, .int .i64 py1, .int .i64 px2, .int .i64 py2]) ∧ Below W.heap.size W w') (F0 : ∀ W, Calls Tryd.prog 23 #[ln k c, pt px0 py0] W fun e w' => e = .returned (.int .i64 f0) ∧ Below W.heap.size W w') (F1 : ∀ W, Calls Tryd.prog 23 #[ln k c, pt px1 py1] W fun e w' => e = .returned (.int .i64 f1) ∧ Below W.heap.size W w') (F2 : ∀ W, Calls Tryd.prog 23 #[ln k c, pt px2 py2] W fun e w' => e = .returned (.int .i64 f2) ∧ Below W.heap.size W w') (S1 : ∀ W, Lay W → Calls Tryd.prog 22 #[ln k c, cl x y q] W fun r w' => r = .returned (.tuple #[.int .i64 0, .int .i64 0]) ∧ Below W.heap.size W w') (S2 : ∀ W, Calls Tryd.prog 24 #[ln k c, cl x y q] W fun r w' => r = .returned (.int .i64 0) ∧ Below W.heap.size W w') (g0 : f0 ≤ 0) (g1 : f1 ≤ 0) (g2 : f2 ≤ 0) : Calls Tryd.prog 5 #[ln k c, cl x y q] w fun r w' => r = .returned (.bool true) ∧ Below w.heap.size w w' := by
  have hL' : ∀ W, Below w.heap.size w W → Lay W := fun W h => lay_below hL h
  go_enter Tryd.func5, Tryd.ntmps5
  go_wp2_with fail
  have hB0 : Below w.heap.size w ((w.alloc (.cells #[.int .u8 (k), .int .i64 (c)] 26)).alloc (.cells #[.int .i64 (x), .int .i64 (y), .int .u8 (q)] 23)) := (by repeat first | (with_reducible exact Below.refl _ _) | (with_reducible refine below_on ?_ _) | (with_reducible refine below_alloc ?_ _) | (with_reducible refine below_set ?_ (by simp; try omega) _))
  have b00 : ((w.alloc (.cells #[.int .u8 (k), .int .i64 (c)] 26)).alloc (.cells #[.int .i64 (x), .int .i64 (y), .int .u8 (q)] 23)).cell? ⟨w.heap.size, 0, none⟩ = some (.int .u8 (k)) := by simp [go_sem]
  have b01 : ((w.alloc (.cells #[.int .u8 (k), .int .i64 (c)] 26)).alloc (.cells #[.int .i64 (x), .int .i64 (y), .int .u8 (q)] 23)).cell? ⟨w.heap.size, 1, none⟩ = some (.int .i64 (c)) := by simp [go_sem]
  have b10 : ((w.alloc (.cells #[.int .u8 (k), .int .i64 (c)] 26)).alloc (.cells #[.int .i64 (x), .int .i64 (y), .int .u8 (q)] 23)).cell? ⟨w.heap.size + 1, 0, none⟩ = some (.int .i64 (x)) := by simp [go_sem]
  have b11 : ((w.alloc (.cells #[.int .u8 (k), .int .i64 (c)] 26)).alloc (.cells #[.int .i64 (x), .int .i64 (y), .int .u8 (q)] 23)).cell? ⟨w.heap.size + 1, 1, none⟩ = some (.int .i64 (y)) := by simp [go_sem]
  have b12 : ((w.alloc (.cells #[.int .u8 (k), .int .i64 (c)] 26)).alloc (.cells #[.int .i64 (x), .int .i64 (y), .int .u8 (q)] 23)).cell? ⟨w.heap.size + 1, 2, none⟩ = some (.int .u8 (q)) := by simp [go_sem]
  generalize ((w.alloc (.cells #[.int .u8 (k), .int .i64 (c)] 26)).alloc (.cells #[.int .i64 (x), .int .i64 (y), .int .u8 (q)] 23)) = W0 at *
  go_wp2_with (first | (go_at_call 22; with_reducible refine (S1 _ (hL' _ (by repeat first | (with_reducible exact hB0) | (with_reducible refine below_on ?_ _) | (with_reducible refine below_alloc ?_ _) | (with_reducible refine below_set ?_ (by simp; try omega) _)))).mono ?_; rintro e wx ⟨rfl, hx⟩; obtain ⟨ux, rfl⟩ := after hx; clear hx) | fail)
  have hR : Below (W0).heap.size (W0) (on ux) := by repeat first | (with_reducible exact Below.refl _ _) | (with_reducible refine below_on ?_ _) | (with_reducible refine below_alloc ?_ _)
  have cR : ∀ {b_ i_ : Nat} {v_ : Value}, (W0).cell? ⟨b_, i_, none⟩ = some v_ → (on ux).cell? ⟨b_, i_, none⟩ = some v_ := fun h => (hR.cell (World.block_lt_of_cell? _ _ h)).trans h
  have b00' := cR b00
  have b01' := cR b01
  have b10' := cR b10
  have b11' := cR b11
  have b12' := cR b12
  have hB1 : Below w.heap.size w (on ux) := by repeat first | (with_reducible exact hB0) | (with_reducible refine below_on ?_ _) | (with_reducible refine below_alloc ?_ _)
  clear hR cR b00 b01 b10 b11 b12  hB0
  generalize (on ux) = W1 at *
  clear ux
  go_wp2_with (first | (go_at_call 18; with_reducible refine (valid_yes k c _ h1 h2 h3 h4).mono ?_; rintro e wx ⟨rfl, hx⟩; obtain ⟨ux, rfl⟩ := after hx; clear hx) | (go_at_call 13; with_reducible refine (rvalid_yes x y q _ d1 d2 d3 d4 d5 d6).mono ?_; rintro e wx ⟨rfl, hx⟩; obtain ⟨ux, rfl⟩ := after hx; clear hx) | fail)
  go_wp2_with (first | (go_at_call 16; with_reducible refine (CO2 _).mono ?_; rintro e wx ⟨rfl, hx⟩; obtain ⟨ux, rfl⟩ := after hx; clear hx) | fail)
  have hR : Below (W1).heap.size (W1) ((on ux).alloc (.cells #[.int .i64 px0, .int .i64 py0, .int .i64 px1, .int .i64 py1, .int .i64 px2, .int .i64 py2] 32)) := by repeat first | (with_reducible exact Below.refl _ _) | (with_reducible refine below_on ?_ _) | (with_reducible refine below_alloc ?_ _)
  have cR : ∀ {b_ i_ : Nat} {v_ : Value}, (W1).cell? ⟨b_, i_, none⟩ = some v_ → ((on ux).alloc (.cells #[.int .i64 px0, .int .i64 py0, .int .i64 px1, .int .i64 py1, .int .i64 px2, .int .i64 py2] 32)).cell? ⟨b_, i_, none⟩ = some v_ := fun h => (hR.cell (World.block_lt_of_cell? _ _ h)).trans h
  have b00'' := cR b00'
  have b01'' := cR b01'
  have b10'' := cR b10'
  have b11'' := cR b11'
  have b12'' := cR b12'
  have B200 : ((on ux).alloc (.cells #[.int .i64 px0, .int .i64 py0, .int .i64 px1, .int .i64 py1, .int .i64 px2, .int .i64 py2] 32)).cell? ⟨(on ux).heap.size, 0, none⟩ = some (.int .i64 px0) := by simp [go_sem]
  have B201 : ((on ux).alloc (.cells #[.int .i64 px0, .int .i64 py0, .int .i64 px1, .int .i64 py1, .int .i64 px2, .int .i64 py2] 32)).cell? ⟨(on ux).heap.size, 1, none⟩ = some (.int .i64 py0) := by simp [go_sem]
  have B202 : ((on ux).alloc (.cells #[.int .i64 px0, .int .i64 py0, .int .i64 px1, .int .i64 py1, .int .i64 px2, .int .i64 py2] 32)).cell? ⟨(on ux).heap.size, 2, none⟩ = some (.int .i64 px1) := by simp [go_sem]
  have B203 : ((on ux).alloc (.cells #[.int .i64 px0, .int .i64 py0, .int .i64 px1, .int .i64 py1, .int .i64 px2, .int .i64 py2] 32)).cell? ⟨(on ux).heap.size, 3, none⟩ = some (.int .i64 py1) := by simp [go_sem]
  have B204 : ((on ux).alloc (.cells #[.int .i64 px0, .int .i64 py0, .int .i64 px1, .int .i64 py1, .int .i64 px2, .int .i64 py2] 32)).cell? ⟨(on ux).heap.size, 4, none⟩ = some (.int .i64 px2) := by simp [go_sem]
  have B205 : ((on ux).alloc (.cells #[.int .i64 px0, .int .i64 py0, .int .i64 px1, .int .i64 py1, .int .i64 px2, .int .i64 py2] 32)).cell? ⟨(on ux).heap.size, 5, none⟩ = some (.int .i64 py2) := by simp [go_sem]
  have hB2 : Below w.heap.size w ((on ux).alloc (.cells #[.int .i64 px0, .int .i64 py0, .int .i64 px1, .int .i64 py1, .int .i64 px2, .int .i64 py2] 32)) := by repeat first | (with_reducible exact hB1) | (with_reducible refine below_on ?_ _) | (with_reducible refine below_alloc ?_ _)
  clear hR cR b00' b01' b10' b11' b12'  hB1
  generalize ((on ux).alloc (.cells #[.int .i64 px0, .int .i64 py0, .int .i64 px1, .int .i64 py1, .int .i64 px2, .int .i64 py2] 32)) = W2 at *
  generalize (on ux).heap.size = B2 at *
  clear ux
  
  go_loopw [8, 9, 10] (fun lv hv iv wr => ∃ i h : Int, iv = .int .i64 i ∧ lv = .int .i64 h ∧ hv = .int .i64 0 ∧ 0 ≤ h ∧ h ≤ 3 ∧ ((i = 0 ∧ h ≤ 0 ∧ Hid (True)) ∨ (i = 1 ∧ h ≤ 1 ∧ Hid (True)) ∨ (i = 2 ∧ h ≤ 2 ∧ Hid (True)) ∨ (i = 3 ∧ h ≤ 3 ∧ Hid (True))) ∧ ∃ u : Later W2, wr = on u) (fun _ _ iv _ => (3 - intOf iv).toNat)
  case atStart => exact ⟨0, 0, rfl, rfl, rfl, by omega, by omega, .inl ⟨rfl, by omega, trivial⟩, ⟨_, Below.refl _ _⟩, rfl⟩
  case round =>
    obtain ⟨i, h, rfl, rfl, rfl, hh0, hh3, hi, u0, rfl⟩ := hrel
    have hq : Below w.heap.size w (on u0) := below_on hB2 u0
    obtain ⟨rfl, hj, HR⟩ | ⟨rfl, hj, HR⟩ | ⟨rfl, hj, HR⟩ | ⟨rfl, hj, HR⟩ := hi
    · by_cases hp : f0 < 0
      · have p1 : f0 < 0 := hp
        have p2 : ¬ 0 < f0 := by omega
        clear hp
        go_wp2_with fail
        refine region_later (by kernel_rfl) (by kernel_rfl) ?_
        repeat (go_big_quiet_step ((first | (go_at_call 23; with_reducible exact Calls.later (F0 _)) | fail)))
        refine wpQuiet_nil ?_
        rintro _ ⟨u9, rfl⟩
        go_wp2_with fail
        refine region_later (by kernel_rfl) (by kernel_rfl) ?_
        repeat (go_big_quiet_step ((first | (go_at_call 23; with_reducible exact Calls.later (F0 _)) | fail)))
        refine wpQuiet_nil ?_
        rintro _ ⟨u8_, rfl⟩
        go_wp2_with fail
        exact ⟨⟨0 + 1, h + 1, rfl, rfl, rfl, by omega, by omega, .inr (.inl ⟨rfl, by omega, trivial⟩), after (by repeat first | (with_reducible exact Below.refl _ _) | (with_reducible refine below_on ?_ _) | (with_reducible refine below_alloc ?_ _) | (with_reducible refine below_set ?_ (by simp; try omega) _))⟩, by simp [intOf]⟩
      · have p1 : ¬ f0 < 0 := hp
        have p2 : ¬ 0 < f0 := by omega
        clear hp
        go_wp2_with fail
        refine region_later (by kernel_rfl) (by kernel_rfl) ?_
        repeat (go_big_quiet_step ((first | (go_at_call 23; with_reducible exact Calls.later (F0 _)) | fail)))
        refine wpQuiet_nil ?_
        rintro _ ⟨u9, rfl⟩
        go_wp2_with fail
        refine region_later (by kernel_rfl) (by kernel_rfl) ?_
        repeat (go_big_quiet_step ((first | (go_at_call 23; with_reducible exact Calls.later (F0 _)) | fail)))
        refine wpQuiet_nil ?_
        rintro _ ⟨u8_, rfl⟩
        go_wp2_with fail
        exact ⟨⟨0 + 1, h, rfl, rfl, rfl, by omega, by omega, .inr (.inl ⟨rfl, by omega, trivial⟩), after (by repeat first | (with_reducible exact Below.refl _ _) | (with_reducible refine below_on ?_ _) | (with_reducible refine below_alloc ?_ _) | (with_reducible refine below_set ?_ (by simp; try omega) _))⟩, by simp [intOf]⟩
    · by_cases hp : f1 < 0
      · have p1 : f1 < 0 := hp
        have p2 : ¬ 0 < f1 := by omega
        clear hp
        go_wp2_with fail
        refine region_later (by kernel_rfl) (by kernel_rfl) ?_
        repeat (go_big_quiet_step ((first | (go_at_call 23; with_reducible exact Calls.later (F1 _)) | fail)))
        refine wpQuiet_nil ?_
        rintro _ ⟨u9, rfl⟩
        go_wp2_with fail
        refine region_later (by kernel_rfl) (by kernel_rfl) ?_
        repeat (go_big_quiet_step ((first | (go_at_call 23; with_reducible exact Calls.later (F1 _)) | fail)))
        refine wpQuiet_nil ?_
        rintro _ ⟨u8_, rfl⟩
        go_wp2_with fail
        exact ⟨⟨1 + 1, h + 1, rfl, rfl, rfl, by omega, by omega, .inr (.inr (.inl ⟨rfl, by omega, trivial⟩)), after (by repeat first | (with_reducible exact Below.refl _ _) | (with_reducible refine below_on ?_ _) | (with_reducible refine below_alloc ?_ _) | (with_reducible refine below_set ?_ (by simp; try omega) _))⟩, by simp [intOf]⟩
      · have p1 : ¬ f1 < 0 := hp
        have p2 : ¬ 0 < f1 := by omega
        clear hp
        go_wp2_with fail
        refine region_later (by kernel_rfl) (by kernel_rfl) ?_
        repeat (go_big_quiet_step ((first | (go_at_call 23; with_reducible exact Calls.later (F1 _)) | fail)))
        refine wpQuiet_nil ?_
        rintro _ ⟨u9, rfl⟩
        go_wp2_with fail
        refine region_later (by kernel_rfl) (by kernel_rfl) ?_
        repeat (go_big_quiet_step ((first | (go_at_call 23; with_reducible exact Calls.later (F1 _)) | fail)))
        refine wpQuiet_nil ?_
        rintro _ ⟨u8_, rfl⟩
        go_wp2_with fail
        exact ⟨⟨1 + 1, h, rfl, rfl, rfl, by omega, by omega, .inr (.inr (.inl ⟨rfl, by omega, trivial⟩)), after (by repeat first | (with_reducible exact Below.refl _ _) | (with_reducible refine below_on ?_ _) | (with_reducible refine below_alloc ?_ _) | (with_reducible refine below_set ?_ (by simp; try omega) _))⟩, by simp [intOf]⟩
    · by_cases hp : f2 < 0
      · have p1 : f2 < 0 := hp
        have p2 : ¬ 0 < f2 := by omega
        clear hp
        go_wp2_with fail
        refine region_later (by kernel_rfl) (by kernel_rfl) ?_
        repeat (go_big_quiet_step ((first | (go_at_call 23; with_reducible exact Calls.later (F2 _)) | fail)))
        refine wpQuiet_nil ?_
        rintro _ ⟨u9, rfl⟩
        go_wp2_with fail
        refine region_later (by kernel_rfl) (by kernel_rfl) ?_
        repeat (go_big_quiet_step ((first | (go_at_call 23; with_reducible exact Calls.later (F2 _)) | fail)))
        refine wpQuiet_nil ?_
        rintro _ ⟨u8_, rfl⟩
        go_wp2_with fail
        exact ⟨⟨2 + 1, h + 1, rfl, rfl, rfl, by omega, by omega, .inr (.inr (.inr (⟨rfl, by omega, trivial⟩))), after (by repeat first | (with_reducible exact Below.refl _ _) | (with_reducible refine below_on ?_ _) | (with_reducible refine below_alloc ?_ _) | (with_reducible refine below_set ?_ (by simp; try omega) _))⟩, by simp [intOf]⟩
      · have p1 : ¬ f2 < 0 := hp
        have p2 : ¬ 0 < f2 := by omega
        clear hp
        go_wp2_with fail
        refine region_later (by kernel_rfl) (by kernel_rfl) ?_
        repeat (go_big_quiet_step ((first | (go_at_call 23; with_reducible exact Calls.later (F2 _)) | fail)))
        refine wpQuiet_nil ?_
        rintro _ ⟨u9, rfl⟩
        go_wp2_with fail
        refine region_later (by kernel_rfl) (by kernel_rfl) ?_
        repeat (go_big_quiet_step ((first | (go_at_call 23; with_reducible exact Calls.later (F2 _)) | fail)))
        refine wpQuiet_nil ?_
        rintro _ ⟨u8_, rfl⟩
        go_wp2_with fail
        exact ⟨⟨2 + 1, h, rfl, rfl, rfl, by omega, by omega, .inr (.inr (.inr (⟨rfl, by omega, trivial⟩))), after (by repeat first | (with_reducible exact Below.refl _ _) | (with_reducible refine below_on ?_ _) | (with_reducible refine below_alloc ?_ _) | (with_reducible refine below_set ?_ (by simp; try omega) _))⟩, by simp [intOf]⟩
    · skip
      go_wp2_with (first | (go_at_call 24; with_reducible refine (S2 _).mono ?_; rintro e wx ⟨rfl, hx⟩; obtain ⟨ux, rfl⟩ := after hx; clear hx) | (go_at_call 15; with_reducible refine (clives_ok _ (hL' _ (by repeat first | (with_reducible exact hq) | (with_reducible refine below_on ?_ _) | (with_reducible refine below_alloc ?_ _) | (with_reducible refine below_set ?_ (by simp; try omega) _)))).mono ?_; rintro e wx ⟨rfl, hx⟩; obtain ⟨ux, rfl⟩ := after hx; clear hx) | fail)
      go_ret
      exact ⟨by first | rfl | (simp; done) | (simp; omega), (by repeat first | (with_reducible exact hq) | (with_reducible refine below_on ?_ _) | (with_reducible refine below_alloc ?_ _) | (with_reducible refine below_set ?_ (by simp; try omega) _))⟩

end Go.Proofs.YtgkiliijefkcaaaDoor
