/-
  Says: what Line, Neighbour, Corners and Compare of package cells give.
-/
import Derived.Test.YtgkiliijefkcaaaDoorCf2
set_option linter.unusedVariables false
set_option linter.unusedSimpArgs false
namespace Go.Proofs.YtgkiliijefkcaaaDoor
open Go Go.RowKit

attribute [local go_sem] World.cell?_alloc_some frozen?_alloc_cells fz0 fz1 fz2 fz3 fz4 fz5

theorem lnK_range (q e : Int) : 1 ≤ lnK q e ∧ lnK q e ≤ 4 := by unfold lnK; (repeat' split) <;> omega

set_option maxRecDepth 100000 in
set_option maxHeartbeats 2000000 in
theorem cline_ok (x y q e : Int) (w : World) (c1 : -4096 ≤ x) (c2 : x ≤ 4096) (c3 : -4096 ≤ y) (c4 : y ≤ 4096) (c5 : 0 ≤ q) (c6 : q ≤ 3) (e1 : 0 ≤ e) (e2 : e ≤ 2) (m1 : -4096 ≤ lnC q e x y) (m2 : lnC q e x y ≤ 4096) : Calls Tryd.prog 11 #[cl x y q, .int .u8 e] w fun r w' => r = .returned (.tuple #[ln (lnK q e) (lnC q e x y), .int .i64 0]) ∧ Below w.heap.size w w' := by
  have kr := lnK_range q e
  obtain ⟨kr1, kr2⟩ := kr
  go_enter Tryd.func11, Tryd.ntmps11
  go_wp2_with fail
  have hB0 : Below w.heap.size w ((w.alloc (.cells #[.int .i64 (x), .int .i64 (y), .int .u8 (q)] 23)).alloc (.cells #[.int .u8 (0), .int .i64 (0)] 26)) := (by repeat first | (with_reducible exact Below.refl _ _) | (with_reducible refine below_on ?_ _) | (with_reducible refine below_alloc ?_ _) | (with_reducible refine below_set ?_ (by simp; try omega) _))
  have b00 : ((w.alloc (.cells #[.int .i64 (x), .int .i64 (y), .int .u8 (q)] 23)).alloc (.cells #[.int .u8 (0), .int .i64 (0)] 26)).cell? ⟨w.heap.size, 0, none⟩ = some (.int .i64 (x)) := by simp [go_sem]
  have b01 : ((w.alloc (.cells #[.int .i64 (x), .int .i64 (y), .int .u8 (q)] 23)).alloc (.cells #[.int .u8 (0), .int .i64 (0)] 26)).cell? ⟨w.heap.size, 1, none⟩ = some (.int .i64 (y)) := by simp [go_sem]
  have b02 : ((w.alloc (.cells #[.int .i64 (x), .int .i64 (y), .int .u8 (q)] 23)).alloc (.cells #[.int .u8 (0), .int .i64 (0)] 26)).cell? ⟨w.heap.size, 2, none⟩ = some (.int .u8 (q)) := by simp [go_sem]
  have b10 : ((w.alloc (.cells #[.int .i64 (x), .int .i64 (y), .int .u8 (q)] 23)).alloc (.cells #[.int .u8 (0), .int .i64 (0)] 26)).cell? ⟨w.heap.size + 1, 0, none⟩ = some (.int .u8 (0)) := by simp [go_sem]
  have fb10 : ((w.alloc (.cells #[.int .i64 (x), .int .i64 (y), .int .u8 (q)] 23)).alloc (.cells #[.int .u8 (0), .int .i64 (0)] 26)).frozen? ⟨w.heap.size + 1, 0, none⟩ = false := by simp [go_sem]
  have b11 : ((w.alloc (.cells #[.int .i64 (x), .int .i64 (y), .int .u8 (q)] 23)).alloc (.cells #[.int .u8 (0), .int .i64 (0)] 26)).cell? ⟨w.heap.size + 1, 1, none⟩ = some (.int .i64 (0)) := by simp [go_sem]
  have fb11 : ((w.alloc (.cells #[.int .i64 (x), .int .i64 (y), .int .u8 (q)] 23)).alloc (.cells #[.int .u8 (0), .int .i64 (0)] 26)).frozen? ⟨w.heap.size + 1, 1, none⟩ = false := by simp [go_sem]
  generalize ((w.alloc (.cells #[.int .i64 (x), .int .i64 (y), .int .u8 (q)] 23)).alloc (.cells #[.int .u8 (0), .int .i64 (0)] 26)) = W0 at *
  go_wp2_with (first | (go_at_call 40; with_reducible refine (hedge_ok x y q e _ c1 c2 c3 c4 c5 c6 (by omega)).mono ?_; rintro e wx ⟨rfl, hx⟩; obtain ⟨ux, rfl⟩ := after hx; clear hx) | fail)
  have hR : Below (W0).heap.size (W0) (on ux) := by repeat first | (with_reducible exact Below.refl _ _) | (with_reducible refine below_on ?_ _) | (with_reducible refine below_alloc ?_ _)
  have cR : ∀ {b i : Nat} {v : Value}, (W0).cell? ⟨b, i, none⟩ = some v → (on ux).cell? ⟨b, i, none⟩ = some v := fun h => (hR.cell (World.block_lt_of_cell? _ _ h)).trans h
  have fR : ∀ {b i : Nat} {v : Value}, (W0).cell? ⟨b, i, none⟩ = some v → (W0).frozen? ⟨b, i, none⟩ = false → (on ux).frozen? ⟨b, i, none⟩ = false := fun h g => (hR.frozen (World.block_lt_of_cell? _ _ h)).trans g
  have b00' := cR b00
  have b01' := cR b01
  have b02' := cR b02
  have b10' := cR b10
  have fb10' := fR b10 fb10
  have b11' := cR b11
  have fb11' := fR b11 fb11
  have hB1 : Below w.heap.size w (on ux) := by repeat first | (with_reducible exact hB0) | (with_reducible refine below_on ?_ _) | (with_reducible refine below_alloc ?_ _)
  clear hR cR fR b00 b01 b02 b10 b11 fb10 fb11 hB0
  generalize (on ux) = W1 at *
  clear ux
  go_wp2_with (first | (go_at_call 41; with_reducible refine (lof_any x y q e _ (by omega) (by omega) (by omega) (by omega) c5 c6 e1 e2).mono ?_; rintro e wx ⟨rfl, hx⟩; obtain ⟨ux, rfl⟩ := after hx; clear hx) | fail)
  have hR : Below (W1).heap.size (W1) ((on ux).alloc (.cells #[.int .u8 (lnK q e), .int .i64 (lnC q e x y)] 26)) := by repeat first | (with_reducible exact Below.refl _ _) | (with_reducible refine below_on ?_ _) | (with_reducible refine below_alloc ?_ _)
  have cR : ∀ {b i : Nat} {v : Value}, (W1).cell? ⟨b, i, none⟩ = some v → ((on ux).alloc (.cells #[.int .u8 (lnK q e), .int .i64 (lnC q e x y)] 26)).cell? ⟨b, i, none⟩ = some v := fun h => (hR.cell (World.block_lt_of_cell? _ _ h)).trans h
  have fR : ∀ {b i : Nat} {v : Value}, (W1).cell? ⟨b, i, none⟩ = some v → (W1).frozen? ⟨b, i, none⟩ = false → ((on ux).alloc (.cells #[.int .u8 (lnK q e), .int .i64 (lnC q e x y)] 26)).frozen? ⟨b, i, none⟩ = false := fun h g => (hR.frozen (World.block_lt_of_cell? _ _ h)).trans g
  have b00'' := cR b00'
  have b01'' := cR b01'
  have b02'' := cR b02'
  have b10'' := cR b10'
  have fb10'' := fR b10' fb10'
  have b11'' := cR b11'
  have fb11'' := fR b11' fb11'
  have B200 : ((on ux).alloc (.cells #[.int .u8 (lnK q e), .int .i64 (lnC q e x y)] 26)).cell? ⟨(on ux).heap.size, 0, none⟩ = some (.int .u8 (lnK q e)) := by simp [go_sem]
  have B201 : ((on ux).alloc (.cells #[.int .u8 (lnK q e), .int .i64 (lnC q e x y)] 26)).cell? ⟨(on ux).heap.size, 1, none⟩ = some (.int .i64 (lnC q e x y)) := by simp [go_sem]
  have hB2 : Below w.heap.size w ((on ux).alloc (.cells #[.int .u8 (lnK q e), .int .i64 (lnC q e x y)] 26)) := by repeat first | (with_reducible exact hB1) | (with_reducible refine below_on ?_ _) | (with_reducible refine below_alloc ?_ _)
  clear hR cR fR b00' b01' b02' b10' b11' fb10' fb11' hB1
  generalize ((on ux).alloc (.cells #[.int .u8 (lnK q e), .int .i64 (lnC q e x y)] 26)) = W2 at *
  generalize (on ux).heap.size = B2 at *
  clear ux
  go_wp2_with (first | (go_at_call 42; with_reducible refine (check_ok (lnK q e) (lnC q e x y) _ kr1 kr2 m1 m2).mono ?_; rintro e wx ⟨rfl, hx⟩; obtain ⟨ux, rfl⟩ := after hx; clear hx) | fail)
  exact bodyPost_ret (v := .tuple #[ln (lnK q e) (lnC q e x y), .int .i64 0]) (by simp [results, Tryd.results11, go_sem, b00'', b01'', b02'', b10'', b11'', B200, B201]) rfl ⟨rfl, (by repeat first | (with_reducible exact hB2) | (with_reducible refine below_on ?_ _) | (with_reducible refine below_alloc ?_ _) | (with_reducible refine below_set ?_ (by simp; try omega) _))⟩

set_option maxRecDepth 100000 in
set_option maxHeartbeats 2000000 in
theorem cline_far (x y q e : Int) (w : World) (c1 : -4096 ≤ x) (c2 : x ≤ 4096) (c3 : -4096 ≤ y) (c4 : y ≤ 4096) (c5 : 0 ≤ q) (c6 : q ≤ 3) (e1 : 0 ≤ e) (e2 : e ≤ 2) (hm : lnC q e x y < -4096 ∨ 4096 < lnC q e x y) : Calls Tryd.prog 11 #[cl x y q, .int .u8 e] w fun r w' => r = .returned (.tuple #[ln 0 0, .int .i64 3]) ∧ Below w.heap.size w w' := by
  have kr := lnK_range q e
  obtain ⟨kr1, kr2⟩ := kr
  have HM : Hid (lnC q e x y < -4096 ∨ 4096 < lnC q e x y) := hm
  clear hm
  go_enter Tryd.func11, Tryd.ntmps11
  go_wp2_with fail
  have hB0 : Below w.heap.size w ((w.alloc (.cells #[.int .i64 (x), .int .i64 (y), .int .u8 (q)] 23)).alloc (.cells #[.int .u8 (0), .int .i64 (0)] 26)) := (by repeat first | (with_reducible exact Below.refl _ _) | (with_reducible refine below_on ?_ _) | (with_reducible refine below_alloc ?_ _) | (with_reducible refine below_set ?_ (by simp; try omega) _))
  have b00 : ((w.alloc (.cells #[.int .i64 (x), .int .i64 (y), .int .u8 (q)] 23)).alloc (.cells #[.int .u8 (0), .int .i64 (0)] 26)).cell? ⟨w.heap.size, 0, none⟩ = some (.int .i64 (x)) := by simp [go_sem]
  have b01 : ((w.alloc (.cells #[.int .i64 (x), .int .i64 (y), .int .u8 (q)] 23)).alloc (.cells #[.int .u8 (0), .int .i64 (0)] 26)).cell? ⟨w.heap.size, 1, none⟩ = some (.int .i64 (y)) := by simp [go_sem]
  have b02 : ((w.alloc (.cells #[.int .i64 (x), .int .i64 (y), .int .u8 (q)] 23)).alloc (.cells #[.int .u8 (0), .int .i64 (0)] 26)).cell? ⟨w.heap.size, 2, none⟩ = some (.int .u8 (q)) := by simp [go_sem]
  have b10 : ((w.alloc (.cells #[.int .i64 (x), .int .i64 (y), .int .u8 (q)] 23)).alloc (.cells #[.int .u8 (0), .int .i64 (0)] 26)).cell? ⟨w.heap.size + 1, 0, none⟩ = some (.int .u8 (0)) := by simp [go_sem]
  have fb10 : ((w.alloc (.cells #[.int .i64 (x), .int .i64 (y), .int .u8 (q)] 23)).alloc (.cells #[.int .u8 (0), .int .i64 (0)] 26)).frozen? ⟨w.heap.size + 1, 0, none⟩ = false := by simp [go_sem]
  have b11 : ((w.alloc (.cells #[.int .i64 (x), .int .i64 (y), .int .u8 (q)] 23)).alloc (.cells #[.int .u8 (0), .int .i64 (0)] 26)).cell? ⟨w.heap.size + 1, 1, none⟩ = some (.int .i64 (0)) := by simp [go_sem]
  have fb11 : ((w.alloc (.cells #[.int .i64 (x), .int .i64 (y), .int .u8 (q)] 23)).alloc (.cells #[.int .u8 (0), .int .i64 (0)] 26)).frozen? ⟨w.heap.size + 1, 1, none⟩ = false := by simp [go_sem]
  generalize ((w.alloc (.cells #[.int .i64 (x), .int .i64 (y), .int .u8 (q)] 23)).alloc (.cells #[.int .u8 (0), .int .i64 (0)] 26)) = W0 at *
  go_wp2_with (first | (go_at_call 40; with_reducible refine (hedge_ok x y q e _ c1 c2 c3 c4 c5 c6 (by omega)).mono ?_; rintro e wx ⟨rfl, hx⟩; obtain ⟨ux, rfl⟩ := after hx; clear hx) | fail)
  have hR : Below (W0).heap.size (W0) (on ux) := by repeat first | (with_reducible exact Below.refl _ _) | (with_reducible refine below_on ?_ _) | (with_reducible refine below_alloc ?_ _)
  have cR : ∀ {b i : Nat} {v : Value}, (W0).cell? ⟨b, i, none⟩ = some v → (on ux).cell? ⟨b, i, none⟩ = some v := fun h => (hR.cell (World.block_lt_of_cell? _ _ h)).trans h
  have fR : ∀ {b i : Nat} {v : Value}, (W0).cell? ⟨b, i, none⟩ = some v → (W0).frozen? ⟨b, i, none⟩ = false → (on ux).frozen? ⟨b, i, none⟩ = false := fun h g => (hR.frozen (World.block_lt_of_cell? _ _ h)).trans g
  have b00' := cR b00
  have b01' := cR b01
  have b02' := cR b02
  have b10' := cR b10
  have fb10' := fR b10 fb10
  have b11' := cR b11
  have fb11' := fR b11 fb11
  have hB1 : Below w.heap.size w (on ux) := by repeat first | (with_reducible exact hB0) | (with_reducible refine below_on ?_ _) | (with_reducible refine below_alloc ?_ _)
  clear hR cR fR b00 b01 b02 b10 b11 fb10 fb11 hB0
  generalize (on ux) = W1 at *
  clear ux
  go_wp2_with (first | (go_at_call 41; with_reducible refine (lof_any x y q e _ (by omega) (by omega) (by omega) (by omega) c5 c6 e1 e2).mono ?_; rintro e wx ⟨rfl, hx⟩; obtain ⟨ux, rfl⟩ := after hx; clear hx) | fail)
  have hR : Below (W1).heap.size (W1) ((on ux).alloc (.cells #[.int .u8 (lnK q e), .int .i64 (lnC q e x y)] 26)) := by repeat first | (with_reducible exact Below.refl _ _) | (with_reducible refine below_on ?_ _) | (with_reducible refine below_alloc ?_ _)
  have cR : ∀ {b i : Nat} {v : Value}, (W1).cell? ⟨b, i, none⟩ = some v → ((on ux).alloc (.cells #[.int .u8 (lnK q e), .int .i64 (lnC q e x y)] 26)).cell? ⟨b, i, none⟩ = some v := fun h => (hR.cell (World.block_lt_of_cell? _ _ h)).trans h
  have fR : ∀ {b i : Nat} {v : Value}, (W1).cell? ⟨b, i, none⟩ = some v → (W1).frozen? ⟨b, i, none⟩ = false → ((on ux).alloc (.cells #[.int .u8 (lnK q e), .int .i64 (lnC q e x y)] 26)).frozen? ⟨b, i, none⟩ = false := fun h g => (hR.frozen (World.block_lt_of_cell? _ _ h)).trans g
  have b00'' := cR b00'
  have b01'' := cR b01'
  have b02'' := cR b02'
  have b10'' := cR b10'
  have fb10'' := fR b10' fb10'
  have b11'' := cR b11'
  have fb11'' := fR b11' fb11'
  have B200 : ((on ux).alloc (.cells #[.int .u8 (lnK q e), .int .i64 (lnC q e x y)] 26)).cell? ⟨(on ux).heap.size, 0, none⟩ = some (.int .u8 (lnK q e)) := by simp [go_sem]
  have B201 : ((on ux).alloc (.cells #[.int .u8 (lnK q e), .int .i64 (lnC q e x y)] 26)).cell? ⟨(on ux).heap.size, 1, none⟩ = some (.int .i64 (lnC q e x y)) := by simp [go_sem]
  have hB2 : Below w.heap.size w ((on ux).alloc (.cells #[.int .u8 (lnK q e), .int .i64 (lnC q e x y)] 26)) := by repeat first | (with_reducible exact hB1) | (with_reducible refine below_on ?_ _) | (with_reducible refine below_alloc ?_ _)
  clear hR cR fR b00' b01' b02' b10' b11' fb10' fb11' hB1
  generalize ((on ux).alloc (.cells #[.int .u8 (lnK q e), .int .i64 (lnC q e x y)] 26)) = W2 at *
  generalize (on ux).heap.size = B2 at *
  clear ux
  go_wp2_with (first | (go_at_call 42; with_reducible refine (check_bad (lnK q e) (lnC q e x y) _ (.inr (.inr HM.out))).mono ?_; rintro e wx ⟨rfl, hx⟩; obtain ⟨ux, rfl⟩ := after hx; clear hx) | fail)
  exact bodyPost_ret (v := .tuple #[ln 0 0, .int .i64 3]) (by simp [results, Tryd.results11, go_sem, b00'', b01'', b02'', b10'', b11'', B200, B201]) rfl ⟨rfl, (by repeat first | (with_reducible exact hB2) | (with_reducible refine below_on ?_ _) | (with_reducible refine below_alloc ?_ _) | (with_reducible refine below_set ?_ (by simp; try omega) _))⟩

set_option maxRecDepth 100000 in
set_option maxHeartbeats 2000000 in
theorem cline_bad1 (x y q e : Int) (w : World) (h : 3 < q ∨ x < -4096 ∨ 4096 < x ∨ y < -4096 ∨ 4096 < y) : Calls Tryd.prog 11 #[cl x y q, .int .u8 e] w fun r w' => r = .returned (.tuple #[ln 0 0, .int .i64 1]) ∧ Below w.heap.size w w' := by
  have H : Hid (3 < q ∨ x < -4096 ∨ 4096 < x ∨ y < -4096 ∨ 4096 < y) := h
  clear h
  go_enter Tryd.func11, Tryd.ntmps11
  go_wp2_with fail
  have hB0 : Below w.heap.size w ((w.alloc (.cells #[.int .i64 (x), .int .i64 (y), .int .u8 (q)] 23)).alloc (.cells #[.int .u8 (0), .int .i64 (0)] 26)) := (by repeat first | (with_reducible exact Below.refl _ _) | (with_reducible refine below_on ?_ _) | (with_reducible refine below_alloc ?_ _) | (with_reducible refine below_set ?_ (by simp; try omega) _))
  have b00 : ((w.alloc (.cells #[.int .i64 (x), .int .i64 (y), .int .u8 (q)] 23)).alloc (.cells #[.int .u8 (0), .int .i64 (0)] 26)).cell? ⟨w.heap.size, 0, none⟩ = some (.int .i64 (x)) := by simp [go_sem]
  have b01 : ((w.alloc (.cells #[.int .i64 (x), .int .i64 (y), .int .u8 (q)] 23)).alloc (.cells #[.int .u8 (0), .int .i64 (0)] 26)).cell? ⟨w.heap.size, 1, none⟩ = some (.int .i64 (y)) := by simp [go_sem]
  have b02 : ((w.alloc (.cells #[.int .i64 (x), .int .i64 (y), .int .u8 (q)] 23)).alloc (.cells #[.int .u8 (0), .int .i64 (0)] 26)).cell? ⟨w.heap.size, 2, none⟩ = some (.int .u8 (q)) := by simp [go_sem]
  have b10 : ((w.alloc (.cells #[.int .i64 (x), .int .i64 (y), .int .u8 (q)] 23)).alloc (.cells #[.int .u8 (0), .int .i64 (0)] 26)).cell? ⟨w.heap.size + 1, 0, none⟩ = some (.int .u8 (0)) := by simp [go_sem]
  have fb10 : ((w.alloc (.cells #[.int .i64 (x), .int .i64 (y), .int .u8 (q)] 23)).alloc (.cells #[.int .u8 (0), .int .i64 (0)] 26)).frozen? ⟨w.heap.size + 1, 0, none⟩ = false := by simp [go_sem]
  have b11 : ((w.alloc (.cells #[.int .i64 (x), .int .i64 (y), .int .u8 (q)] 23)).alloc (.cells #[.int .u8 (0), .int .i64 (0)] 26)).cell? ⟨w.heap.size + 1, 1, none⟩ = some (.int .i64 (0)) := by simp [go_sem]
  have fb11 : ((w.alloc (.cells #[.int .i64 (x), .int .i64 (y), .int .u8 (q)] 23)).alloc (.cells #[.int .u8 (0), .int .i64 (0)] 26)).frozen? ⟨w.heap.size + 1, 1, none⟩ = false := by simp [go_sem]
  generalize ((w.alloc (.cells #[.int .i64 (x), .int .i64 (y), .int .u8 (q)] 23)).alloc (.cells #[.int .u8 (0), .int .i64 (0)] 26)) = W0 at *
  go_wp2_with (first | (go_at_call 40; with_reducible refine (hedge_bad1 x y q e _ H.out).mono ?_; rintro e wx ⟨rfl, hx⟩; obtain ⟨ux, rfl⟩ := after hx; clear hx) | fail)
  exact bodyPost_ret (v := .tuple #[ln 0 0, .int .i64 1]) (by simp [results, Tryd.results11, go_sem, b00, b01, b02, b10, b11]) rfl ⟨rfl, (by repeat first | (with_reducible exact hB0) | (with_reducible refine below_on ?_ _) | (with_reducible refine below_alloc ?_ _) | (with_reducible refine below_set ?_ (by simp; try omega) _))⟩

set_option maxRecDepth 100000 in
set_option maxHeartbeats 2000000 in
theorem cline_bad2 (x y q e : Int) (w : World) (c1 : -4096 ≤ x) (c2 : x ≤ 4096) (c3 : -4096 ≤ y) (c4 : y ≤ 4096) (c5 : 0 ≤ q) (c6 : q ≤ 3) (e1 : 3 ≤ e) : Calls Tryd.prog 11 #[cl x y q, .int .u8 e] w fun r w' => r = .returned (.tuple #[ln 0 0, .int .i64 1]) ∧ Below w.heap.size w w' := by
  have H : Hid (3 ≤ e) := e1
  clear e1
  go_enter Tryd.func11, Tryd.ntmps11
  go_wp2_with fail
  have hB0 : Below w.heap.size w ((w.alloc (.cells #[.int .i64 (x), .int .i64 (y), .int .u8 (q)] 23)).alloc (.cells #[.int .u8 (0), .int .i64 (0)] 26)) := (by repeat first | (with_reducible exact Below.refl _ _) | (with_reducible refine below_on ?_ _) | (with_reducible refine below_alloc ?_ _) | (with_reducible refine below_set ?_ (by simp; try omega) _))
  have b00 : ((w.alloc (.cells #[.int .i64 (x), .int .i64 (y), .int .u8 (q)] 23)).alloc (.cells #[.int .u8 (0), .int .i64 (0)] 26)).cell? ⟨w.heap.size, 0, none⟩ = some (.int .i64 (x)) := by simp [go_sem]
  have b01 : ((w.alloc (.cells #[.int .i64 (x), .int .i64 (y), .int .u8 (q)] 23)).alloc (.cells #[.int .u8 (0), .int .i64 (0)] 26)).cell? ⟨w.heap.size, 1, none⟩ = some (.int .i64 (y)) := by simp [go_sem]
  have b02 : ((w.alloc (.cells #[.int .i64 (x), .int .i64 (y), .int .u8 (q)] 23)).alloc (.cells #[.int .u8 (0), .int .i64 (0)] 26)).cell? ⟨w.heap.size, 2, none⟩ = some (.int .u8 (q)) := by simp [go_sem]
  have b10 : ((w.alloc (.cells #[.int .i64 (x), .int .i64 (y), .int .u8 (q)] 23)).alloc (.cells #[.int .u8 (0), .int .i64 (0)] 26)).cell? ⟨w.heap.size + 1, 0, none⟩ = some (.int .u8 (0)) := by simp [go_sem]
  have fb10 : ((w.alloc (.cells #[.int .i64 (x), .int .i64 (y), .int .u8 (q)] 23)).alloc (.cells #[.int .u8 (0), .int .i64 (0)] 26)).frozen? ⟨w.heap.size + 1, 0, none⟩ = false := by simp [go_sem]
  have b11 : ((w.alloc (.cells #[.int .i64 (x), .int .i64 (y), .int .u8 (q)] 23)).alloc (.cells #[.int .u8 (0), .int .i64 (0)] 26)).cell? ⟨w.heap.size + 1, 1, none⟩ = some (.int .i64 (0)) := by simp [go_sem]
  have fb11 : ((w.alloc (.cells #[.int .i64 (x), .int .i64 (y), .int .u8 (q)] 23)).alloc (.cells #[.int .u8 (0), .int .i64 (0)] 26)).frozen? ⟨w.heap.size + 1, 1, none⟩ = false := by simp [go_sem]
  generalize ((w.alloc (.cells #[.int .i64 (x), .int .i64 (y), .int .u8 (q)] 23)).alloc (.cells #[.int .u8 (0), .int .i64 (0)] 26)) = W0 at *
  go_wp2_with (first | (go_at_call 40; with_reducible refine (hedge_bad2 x y q e _ c1 c2 c3 c4 c5 c6 (by have h9 := H.out; omega)).mono ?_; rintro e wx ⟨rfl, hx⟩; obtain ⟨ux, rfl⟩ := after hx; clear hx) | fail)
  exact bodyPost_ret (v := .tuple #[ln 0 0, .int .i64 1]) (by simp [results, Tryd.results11, go_sem, b00, b01, b02, b10, b11]) rfl ⟨rfl, (by repeat first | (with_reducible exact hB0) | (with_reducible refine below_on ?_ _) | (with_reducible refine below_alloc ?_ _) | (with_reducible refine below_set ?_ (by simp; try omega) _))⟩

set_option maxRecDepth 100000 in
set_option maxHeartbeats 2000000 in
theorem cnei_ok (x y q e : Int) (w : World) (hL : Lay w) (c1 : -4096 ≤ x) (c2 : x ≤ 4096) (c3 : -4096 ≤ y) (c4 : y ≤ 4096) (c5 : 0 ≤ q) (c6 : q ≤ 3) (e1 : 0 ≤ e) (e2 : e ≤ 2) (m1 : -4096 ≤ nbX q e x) (m2 : nbX q e x ≤ 4096) (m3 : -4096 ≤ nbY q e y) (m4 : nbY q e y ≤ 4096) : Calls Tryd.prog 19 #[cl x y q, .int .u8 e] w fun r w' => r = .returned (.tuple #[cl (nbX q e x) (nbY q e y) (nbQ q e), .int .i64 0]) ∧ Below w.heap.size w w' := by
  obtain ⟨nr1, nr2⟩ := nbQ_range q e
  have hL' : ∀ W, Below w.heap.size w W → Lay W := fun W h => lay_below hL h
  go_enter Tryd.func19, Tryd.ntmps19
  go_wp2_with fail
  have hB0 : Below w.heap.size w ((w.alloc (.cells #[.int .i64 (x), .int .i64 (y), .int .u8 (q)] 23)).alloc (.cells #[.int .i64 0, .int .i64 0, .int .u8 0] 23)) := (by repeat first | (with_reducible exact Below.refl _ _) | (with_reducible refine below_on ?_ _) | (with_reducible refine below_alloc ?_ _) | (with_reducible refine below_set ?_ (by simp; try omega) _))
  have b00 : ((w.alloc (.cells #[.int .i64 (x), .int .i64 (y), .int .u8 (q)] 23)).alloc (.cells #[.int .i64 0, .int .i64 0, .int .u8 0] 23)).cell? ⟨w.heap.size, 0, none⟩ = some (.int .i64 (x)) := by simp [go_sem]
  have b01 : ((w.alloc (.cells #[.int .i64 (x), .int .i64 (y), .int .u8 (q)] 23)).alloc (.cells #[.int .i64 0, .int .i64 0, .int .u8 0] 23)).cell? ⟨w.heap.size, 1, none⟩ = some (.int .i64 (y)) := by simp [go_sem]
  have b02 : ((w.alloc (.cells #[.int .i64 (x), .int .i64 (y), .int .u8 (q)] 23)).alloc (.cells #[.int .i64 0, .int .i64 0, .int .u8 0] 23)).cell? ⟨w.heap.size, 2, none⟩ = some (.int .u8 (q)) := by simp [go_sem]
  have b10 : ((w.alloc (.cells #[.int .i64 (x), .int .i64 (y), .int .u8 (q)] 23)).alloc (.cells #[.int .i64 0, .int .i64 0, .int .u8 0] 23)).cell? ⟨w.heap.size + 1, 0, none⟩ = some (.int .i64 0) := by simp [go_sem]
  have fb10 : ((w.alloc (.cells #[.int .i64 (x), .int .i64 (y), .int .u8 (q)] 23)).alloc (.cells #[.int .i64 0, .int .i64 0, .int .u8 0] 23)).frozen? ⟨w.heap.size + 1, 0, none⟩ = false := by simp [go_sem]
  have b11 : ((w.alloc (.cells #[.int .i64 (x), .int .i64 (y), .int .u8 (q)] 23)).alloc (.cells #[.int .i64 0, .int .i64 0, .int .u8 0] 23)).cell? ⟨w.heap.size + 1, 1, none⟩ = some (.int .i64 0) := by simp [go_sem]
  have fb11 : ((w.alloc (.cells #[.int .i64 (x), .int .i64 (y), .int .u8 (q)] 23)).alloc (.cells #[.int .i64 0, .int .i64 0, .int .u8 0] 23)).frozen? ⟨w.heap.size + 1, 1, none⟩ = false := by simp [go_sem]
  have b12 : ((w.alloc (.cells #[.int .i64 (x), .int .i64 (y), .int .u8 (q)] 23)).alloc (.cells #[.int .i64 0, .int .i64 0, .int .u8 0] 23)).cell? ⟨w.heap.size + 1, 2, none⟩ = some (.int .u8 0) := by simp [go_sem]
  have fb12 : ((w.alloc (.cells #[.int .i64 (x), .int .i64 (y), .int .u8 (q)] 23)).alloc (.cells #[.int .i64 0, .int .i64 0, .int .u8 0] 23)).frozen? ⟨w.heap.size + 1, 2, none⟩ = false := by simp [go_sem]
  generalize ((w.alloc (.cells #[.int .i64 (x), .int .i64 (y), .int .u8 (q)] 23)).alloc (.cells #[.int .i64 0, .int .i64 0, .int .u8 0] 23)) = W0 at *
  go_wp2_with (first | (go_at_call 40; with_reducible refine (hedge_ok x y q e _ c1 c2 c3 c4 c5 c6 (by omega)).mono ?_; rintro e wx ⟨rfl, hx⟩; obtain ⟨ux, rfl⟩ := after hx; clear hx) | fail)
  have hR : Below (W0).heap.size (W0) (on ux) := by repeat first | (with_reducible exact Below.refl _ _) | (with_reducible refine below_on ?_ _) | (with_reducible refine below_alloc ?_ _)
  have cR : ∀ {b i : Nat} {v : Value}, (W0).cell? ⟨b, i, none⟩ = some v → (on ux).cell? ⟨b, i, none⟩ = some v := fun h => (hR.cell (World.block_lt_of_cell? _ _ h)).trans h
  have fR : ∀ {b i : Nat} {v : Value}, (W0).cell? ⟨b, i, none⟩ = some v → (W0).frozen? ⟨b, i, none⟩ = false → (on ux).frozen? ⟨b, i, none⟩ = false := fun h g => (hR.frozen (World.block_lt_of_cell? _ _ h)).trans g
  have b00' := cR b00
  have b01' := cR b01
  have b02' := cR b02
  have b10' := cR b10
  have fb10' := fR b10 fb10
  have b11' := cR b11
  have fb11' := fR b11 fb11
  have b12' := cR b12
  have fb12' := fR b12 fb12
  have hB1 : Below w.heap.size w (on ux) := by repeat first | (with_reducible exact hB0) | (with_reducible refine below_on ?_ _) | (with_reducible refine below_alloc ?_ _)
  clear hR cR fR b00 b01 b02 b10 b11 b12 fb10 fb11 fb12 hB0
  generalize (on ux) = W1 at *
  clear ux
  go_wp2_with (first | (go_at_call 48; with_reducible refine (nof_any x y q e _ (hL' _ (by repeat first | (with_reducible exact hB1) | (with_reducible refine below_on ?_ _) | (with_reducible refine below_alloc ?_ _) | (with_reducible refine below_set ?_ (by simp; try omega) _))) (by omega) (by omega) (by omega) (by omega) c5 c6 e1 e2).mono ?_; rintro e wx ⟨rfl, hx⟩; obtain ⟨ux, rfl⟩ := after hx; clear hx) | fail)
  have hR : Below (W1).heap.size (W1) (on ux) := by repeat first | (with_reducible exact Below.refl _ _) | (with_reducible refine below_on ?_ _) | (with_reducible refine below_alloc ?_ _)
  have cR : ∀ {b i : Nat} {v : Value}, (W1).cell? ⟨b, i, none⟩ = some v → (on ux).cell? ⟨b, i, none⟩ = some v := fun h => (hR.cell (World.block_lt_of_cell? _ _ h)).trans h
  have fR : ∀ {b i : Nat} {v : Value}, (W1).cell? ⟨b, i, none⟩ = some v → (W1).frozen? ⟨b, i, none⟩ = false → (on ux).frozen? ⟨b, i, none⟩ = false := fun h g => (hR.frozen (World.block_lt_of_cell? _ _ h)).trans g
  have b00'' := cR b00'
  have b01'' := cR b01'
  have b02'' := cR b02'
  have b10'' := cR b10'
  have fb10'' := fR b10' fb10'
  have b11'' := cR b11'
  have fb11'' := fR b11' fb11'
  have b12'' := cR b12'
  have fb12'' := fR b12' fb12'
  have hB2 : Below w.heap.size w (on ux) := by repeat first | (with_reducible exact hB1) | (with_reducible refine below_on ?_ _) | (with_reducible refine below_alloc ?_ _)
  clear hR cR fR b00' b01' b02' b10' b11' b12' fb10' fb11' fb12' hB1
  generalize (on ux) = W2 at *
  clear ux
  go_wp2_with (first | (go_at_call 47; with_reducible refine (clim_ok (nbX q e x) (nbY q e y) (nbQ q e) _ m1 m2 m3 m4 nr1 nr2).mono ?_; rintro e wx ⟨rfl, hx⟩; obtain ⟨ux, rfl⟩ := after hx; clear hx) | fail)
  exact bodyPost_ret (v := .tuple #[cl (nbX q e x) (nbY q e y) (nbQ q e), .int .i64 0]) (by simp [results, Tryd.results19, go_sem, b00'', b01'', b02'', b10'', b11'', b12'']) rfl ⟨rfl, (by repeat first | (with_reducible exact hB2) | (with_reducible refine below_on ?_ _) | (with_reducible refine below_alloc ?_ _) | (with_reducible refine below_set ?_ (by simp; try omega) _))⟩

set_option maxRecDepth 100000 in
set_option maxHeartbeats 2000000 in
theorem cnei_far (x y q e : Int) (w : World) (hL : Lay w) (c1 : -4096 ≤ x) (c2 : x ≤ 4096) (c3 : -4096 ≤ y) (c4 : y ≤ 4096) (c5 : 0 ≤ q) (c6 : q ≤ 3) (e1 : 0 ≤ e) (e2 : e ≤ 2) (hm : nbX q e x < -4096 ∨ 4096 < nbX q e x ∨ nbY q e y < -4096 ∨ 4096 < nbY q e y) : Calls Tryd.prog 19 #[cl x y q, .int .u8 e] w fun r w' => r = .returned (.tuple #[cl 0 0 0, .int .i64 3]) ∧ Below w.heap.size w w' := by
  obtain ⟨nr1, nr2⟩ := nbQ_range q e
  have HM : Hid (nbX q e x < -4096 ∨ 4096 < nbX q e x ∨ nbY q e y < -4096 ∨ 4096 < nbY q e y) := hm
  clear hm
  have hL' : ∀ W, Below w.heap.size w W → Lay W := fun W h => lay_below hL h
  go_enter Tryd.func19, Tryd.ntmps19
  go_wp2_with fail
  have hB0 : Below w.heap.size w ((w.alloc (.cells #[.int .i64 (x), .int .i64 (y), .int .u8 (q)] 23)).alloc (.cells #[.int .i64 0, .int .i64 0, .int .u8 0] 23)) := (by repeat first | (with_reducible exact Below.refl _ _) | (with_reducible refine below_on ?_ _) | (with_reducible refine below_alloc ?_ _) | (with_reducible refine below_set ?_ (by simp; try omega) _))
  have b00 : ((w.alloc (.cells #[.int .i64 (x), .int .i64 (y), .int .u8 (q)] 23)).alloc (.cells #[.int .i64 0, .int .i64 0, .int .u8 0] 23)).cell? ⟨w.heap.size, 0, none⟩ = some (.int .i64 (x)) := by simp [go_sem]
  have b01 : ((w.alloc (.cells #[.int .i64 (x), .int .i64 (y), .int .u8 (q)] 23)).alloc (.cells #[.int .i64 0, .int .i64 0, .int .u8 0] 23)).cell? ⟨w.heap.size, 1, none⟩ = some (.int .i64 (y)) := by simp [go_sem]
  have b02 : ((w.alloc (.cells #[.int .i64 (x), .int .i64 (y), .int .u8 (q)] 23)).alloc (.cells #[.int .i64 0, .int .i64 0, .int .u8 0] 23)).cell? ⟨w.heap.size, 2, none⟩ = some (.int .u8 (q)) := by simp [go_sem]
  have b10 : ((w.alloc (.cells #[.int .i64 (x), .int .i64 (y), .int .u8 (q)] 23)).alloc (.cells #[.int .i64 0, .int .i64 0, .int .u8 0] 23)).cell? ⟨w.heap.size + 1, 0, none⟩ = some (.int .i64 0) := by simp [go_sem]
  have fb10 : ((w.alloc (.cells #[.int .i64 (x), .int .i64 (y), .int .u8 (q)] 23)).alloc (.cells #[.int .i64 0, .int .i64 0, .int .u8 0] 23)).frozen? ⟨w.heap.size + 1, 0, none⟩ = false := by simp [go_sem]
  have b11 : ((w.alloc (.cells #[.int .i64 (x), .int .i64 (y), .int .u8 (q)] 23)).alloc (.cells #[.int .i64 0, .int .i64 0, .int .u8 0] 23)).cell? ⟨w.heap.size + 1, 1, none⟩ = some (.int .i64 0) := by simp [go_sem]
  have fb11 : ((w.alloc (.cells #[.int .i64 (x), .int .i64 (y), .int .u8 (q)] 23)).alloc (.cells #[.int .i64 0, .int .i64 0, .int .u8 0] 23)).frozen? ⟨w.heap.size + 1, 1, none⟩ = false := by simp [go_sem]
  have b12 : ((w.alloc (.cells #[.int .i64 (x), .int .i64 (y), .int .u8 (q)] 23)).alloc (.cells #[.int .i64 0, .int .i64 0, .int .u8 0] 23)).cell? ⟨w.heap.size + 1, 2, none⟩ = some (.int .u8 0) := by simp [go_sem]
  have fb12 : ((w.alloc (.cells #[.int .i64 (x), .int .i64 (y), .int .u8 (q)] 23)).alloc (.cells #[.int .i64 0, .int .i64 0, .int .u8 0] 23)).frozen? ⟨w.heap.size + 1, 2, none⟩ = false := by simp [go_sem]
  generalize ((w.alloc (.cells #[.int .i64 (x), .int .i64 (y), .int .u8 (q)] 23)).alloc (.cells #[.int .i64 0, .int .i64 0, .int .u8 0] 23)) = W0 at *
  go_wp2_with (first | (go_at_call 40; with_reducible refine (hedge_ok x y q e _ c1 c2 c3 c4 c5 c6 (by omega)).mono ?_; rintro e wx ⟨rfl, hx⟩; obtain ⟨ux, rfl⟩ := after hx; clear hx) | fail)
  have hR : Below (W0).heap.size (W0) (on ux) := by repeat first | (with_reducible exact Below.refl _ _) | (with_reducible refine below_on ?_ _) | (with_reducible refine below_alloc ?_ _)
  have cR : ∀ {b i : Nat} {v : Value}, (W0).cell? ⟨b, i, none⟩ = some v → (on ux).cell? ⟨b, i, none⟩ = some v := fun h => (hR.cell (World.block_lt_of_cell? _ _ h)).trans h
  have fR : ∀ {b i : Nat} {v : Value}, (W0).cell? ⟨b, i, none⟩ = some v → (W0).frozen? ⟨b, i, none⟩ = false → (on ux).frozen? ⟨b, i, none⟩ = false := fun h g => (hR.frozen (World.block_lt_of_cell? _ _ h)).trans g
  have b00' := cR b00
  have b01' := cR b01
  have b02' := cR b02
  have b10' := cR b10
  have fb10' := fR b10 fb10
  have b11' := cR b11
  have fb11' := fR b11 fb11
  have b12' := cR b12
  have fb12' := fR b12 fb12
  have hB1 : Below w.heap.size w (on ux) := by repeat first | (with_reducible exact hB0) | (with_reducible refine below_on ?_ _) | (with_reducible refine below_alloc ?_ _)
  clear hR cR fR b00 b01 b02 b10 b11 b12 fb10 fb11 fb12 hB0
  generalize (on ux) = W1 at *
  clear ux
  go_wp2_with (first | (go_at_call 48; with_reducible refine (nof_any x y q e _ (hL' _ (by repeat first | (with_reducible exact hB1) | (with_reducible refine below_on ?_ _) | (with_reducible refine below_alloc ?_ _) | (with_reducible refine below_set ?_ (by simp; try omega) _))) (by omega) (by omega) (by omega) (by omega) c5 c6 e1 e2).mono ?_; rintro e wx ⟨rfl, hx⟩; obtain ⟨ux, rfl⟩ := after hx; clear hx) | fail)
  have hR : Below (W1).heap.size (W1) (on ux) := by repeat first | (with_reducible exact Below.refl _ _) | (with_reducible refine below_on ?_ _) | (with_reducible refine below_alloc ?_ _)
  have cR : ∀ {b i : Nat} {v : Value}, (W1).cell? ⟨b, i, none⟩ = some v → (on ux).cell? ⟨b, i, none⟩ = some v := fun h => (hR.cell (World.block_lt_of_cell? _ _ h)).trans h
  have fR : ∀ {b i : Nat} {v : Value}, (W1).cell? ⟨b, i, none⟩ = some v → (W1).frozen? ⟨b, i, none⟩ = false → (on ux).frozen? ⟨b, i, none⟩ = false := fun h g => (hR.frozen (World.block_lt_of_cell? _ _ h)).trans g
  have b00'' := cR b00'
  have b01'' := cR b01'
  have b02'' := cR b02'
  have b10'' := cR b10'
  have fb10'' := fR b10' fb10'
  have b11'' := cR b11'
  have fb11'' := fR b11' fb11'
  have b12'' := cR b12'
  have fb12'' := fR b12' fb12'
  have hB2 : Below w.heap.size w (on ux) := by repeat first | (with_reducible exact hB1) | (with_reducible refine below_on ?_ _) | (with_reducible refine below_alloc ?_ _)
  clear hR cR fR b00' b01' b02' b10' b11' b12' fb10' fb11' fb12' hB1
  generalize (on ux) = W2 at *
  clear ux
  go_wp2_with (first | (go_at_call 47; with_reducible refine (clim_bad (nbX q e x) (nbY q e y) (nbQ q e) _ (.inr HM.out)).mono ?_; rintro e wx ⟨rfl, hx⟩; obtain ⟨ux, rfl⟩ := after hx; clear hx) | fail)
  exact bodyPost_ret (v := .tuple #[cl 0 0 0, .int .i64 3]) (by simp [results, Tryd.results19, go_sem, b00'', b01'', b02'', b10'', b11'', b12'']) rfl ⟨rfl, (by repeat first | (with_reducible exact hB2) | (with_reducible refine below_on ?_ _) | (with_reducible refine below_alloc ?_ _) | (with_reducible refine below_set ?_ (by simp; try omega) _))⟩

set_option maxRecDepth 100000 in
set_option maxHeartbeats 2000000 in
theorem cnei_bad1 (x y q e : Int) (w : World) (h : 3 < q ∨ x < -4096 ∨ 4096 < x ∨ y < -4096 ∨ 4096 < y) : Calls Tryd.prog 19 #[cl x y q, .int .u8 e] w fun r w' => r = .returned (.tuple #[cl 0 0 0, .int .i64 1]) ∧ Below w.heap.size w w' := by
  have H : Hid (3 < q ∨ x < -4096 ∨ 4096 < x ∨ y < -4096 ∨ 4096 < y) := h
  clear h
  go_enter Tryd.func19, Tryd.ntmps19
  go_wp2_with fail
  have hB0 : Below w.heap.size w ((w.alloc (.cells #[.int .i64 (x), .int .i64 (y), .int .u8 (q)] 23)).alloc (.cells #[.int .i64 0, .int .i64 0, .int .u8 0] 23)) := (by repeat first | (with_reducible exact Below.refl _ _) | (with_reducible refine below_on ?_ _) | (with_reducible refine below_alloc ?_ _) | (with_reducible refine below_set ?_ (by simp; try omega) _))
  have b00 : ((w.alloc (.cells #[.int .i64 (x), .int .i64 (y), .int .u8 (q)] 23)).alloc (.cells #[.int .i64 0, .int .i64 0, .int .u8 0] 23)).cell? ⟨w.heap.size, 0, none⟩ = some (.int .i64 (x)) := by simp [go_sem]
  have b01 : ((w.alloc (.cells #[.int .i64 (x), .int .i64 (y), .int .u8 (q)] 23)).alloc (.cells #[.int .i64 0, .int .i64 0, .int .u8 0] 23)).cell? ⟨w.heap.size, 1, none⟩ = some (.int .i64 (y)) := by simp [go_sem]
  have b02 : ((w.alloc (.cells #[.int .i64 (x), .int .i64 (y), .int .u8 (q)] 23)).alloc (.cells #[.int .i64 0, .int .i64 0, .int .u8 0] 23)).cell? ⟨w.heap.size, 2, none⟩ = some (.int .u8 (q)) := by simp [go_sem]
  have b10 : ((w.alloc (.cells #[.int .i64 (x), .int .i64 (y), .int .u8 (q)] 23)).alloc (.cells #[.int .i64 0, .int .i64 0, .int .u8 0] 23)).cell? ⟨w.heap.size + 1, 0, none⟩ = some (.int .i64 0) := by simp [go_sem]
  have fb10 : ((w.alloc (.cells #[.int .i64 (x), .int .i64 (y), .int .u8 (q)] 23)).alloc (.cells #[.int .i64 0, .int .i64 0, .int .u8 0] 23)).frozen? ⟨w.heap.size + 1, 0, none⟩ = false := by simp [go_sem]
  have b11 : ((w.alloc (.cells #[.int .i64 (x), .int .i64 (y), .int .u8 (q)] 23)).alloc (.cells #[.int .i64 0, .int .i64 0, .int .u8 0] 23)).cell? ⟨w.heap.size + 1, 1, none⟩ = some (.int .i64 0) := by simp [go_sem]
  have fb11 : ((w.alloc (.cells #[.int .i64 (x), .int .i64 (y), .int .u8 (q)] 23)).alloc (.cells #[.int .i64 0, .int .i64 0, .int .u8 0] 23)).frozen? ⟨w.heap.size + 1, 1, none⟩ = false := by simp [go_sem]
  have b12 : ((w.alloc (.cells #[.int .i64 (x), .int .i64 (y), .int .u8 (q)] 23)).alloc (.cells #[.int .i64 0, .int .i64 0, .int .u8 0] 23)).cell? ⟨w.heap.size + 1, 2, none⟩ = some (.int .u8 0) := by simp [go_sem]
  have fb12 : ((w.alloc (.cells #[.int .i64 (x), .int .i64 (y), .int .u8 (q)] 23)).alloc (.cells #[.int .i64 0, .int .i64 0, .int .u8 0] 23)).frozen? ⟨w.heap.size + 1, 2, none⟩ = false := by simp [go_sem]
  generalize ((w.alloc (.cells #[.int .i64 (x), .int .i64 (y), .int .u8 (q)] 23)).alloc (.cells #[.int .i64 0, .int .i64 0, .int .u8 0] 23)) = W0 at *
  go_wp2_with (first | (go_at_call 40; with_reducible refine (hedge_bad1 x y q e _ H.out).mono ?_; rintro e wx ⟨rfl, hx⟩; obtain ⟨ux, rfl⟩ := after hx; clear hx) | fail)
  exact bodyPost_ret (v := .tuple #[cl 0 0 0, .int .i64 1]) (by simp [results, Tryd.results19, go_sem, b00, b01, b02, b10, b11, b12]) rfl ⟨rfl, (by repeat first | (with_reducible exact hB0) | (with_reducible refine below_on ?_ _) | (with_reducible refine below_alloc ?_ _) | (with_reducible refine below_set ?_ (by simp; try omega) _))⟩

set_option maxRecDepth 100000 in
set_option maxHeartbeats 2000000 in
theorem cnei_bad2 (x y q e : Int) (w : World) (c1 : -4096 ≤ x) (c2 : x ≤ 4096) (c3 : -4096 ≤ y) (c4 : y ≤ 4096) (c5 : 0 ≤ q) (c6 : q ≤ 3) (e1 : 3 ≤ e) : Calls Tryd.prog 19 #[cl x y q, .int .u8 e] w fun r w' => r = .returned (.tuple #[cl 0 0 0, .int .i64 1]) ∧ Below w.heap.size w w' := by
  have H : Hid (3 ≤ e) := e1
  clear e1
  go_enter Tryd.func19, Tryd.ntmps19
  go_wp2_with fail
  have hB0 : Below w.heap.size w ((w.alloc (.cells #[.int .i64 (x), .int .i64 (y), .int .u8 (q)] 23)).alloc (.cells #[.int .i64 0, .int .i64 0, .int .u8 0] 23)) := (by repeat first | (with_reducible exact Below.refl _ _) | (with_reducible refine below_on ?_ _) | (with_reducible refine below_alloc ?_ _) | (with_reducible refine below_set ?_ (by simp; try omega) _))
  have b00 : ((w.alloc (.cells #[.int .i64 (x), .int .i64 (y), .int .u8 (q)] 23)).alloc (.cells #[.int .i64 0, .int .i64 0, .int .u8 0] 23)).cell? ⟨w.heap.size, 0, none⟩ = some (.int .i64 (x)) := by simp [go_sem]
  have b01 : ((w.alloc (.cells #[.int .i64 (x), .int .i64 (y), .int .u8 (q)] 23)).alloc (.cells #[.int .i64 0, .int .i64 0, .int .u8 0] 23)).cell? ⟨w.heap.size, 1, none⟩ = some (.int .i64 (y)) := by simp [go_sem]
  have b02 : ((w.alloc (.cells #[.int .i64 (x), .int .i64 (y), .int .u8 (q)] 23)).alloc (.cells #[.int .i64 0, .int .i64 0, .int .u8 0] 23)).cell? ⟨w.heap.size, 2, none⟩ = some (.int .u8 (q)) := by simp [go_sem]
  have b10 : ((w.alloc (.cells #[.int .i64 (x), .int .i64 (y), .int .u8 (q)] 23)).alloc (.cells #[.int .i64 0, .int .i64 0, .int .u8 0] 23)).cell? ⟨w.heap.size + 1, 0, none⟩ = some (.int .i64 0) := by simp [go_sem]
  have fb10 : ((w.alloc (.cells #[.int .i64 (x), .int .i64 (y), .int .u8 (q)] 23)).alloc (.cells #[.int .i64 0, .int .i64 0, .int .u8 0] 23)).frozen? ⟨w.heap.size + 1, 0, none⟩ = false := by simp [go_sem]
  have b11 : ((w.alloc (.cells #[.int .i64 (x), .int .i64 (y), .int .u8 (q)] 23)).alloc (.cells #[.int .i64 0, .int .i64 0, .int .u8 0] 23)).cell? ⟨w.heap.size + 1, 1, none⟩ = some (.int .i64 0) := by simp [go_sem]
  have fb11 : ((w.alloc (.cells #[.int .i64 (x), .int .i64 (y), .int .u8 (q)] 23)).alloc (.cells #[.int .i64 0, .int .i64 0, .int .u8 0] 23)).frozen? ⟨w.heap.size + 1, 1, none⟩ = false := by simp [go_sem]
  have b12 : ((w.alloc (.cells #[.int .i64 (x), .int .i64 (y), .int .u8 (q)] 23)).alloc (.cells #[.int .i64 0, .int .i64 0, .int .u8 0] 23)).cell? ⟨w.heap.size + 1, 2, none⟩ = some (.int .u8 0) := by simp [go_sem]
  have fb12 : ((w.alloc (.cells #[.int .i64 (x), .int .i64 (y), .int .u8 (q)] 23)).alloc (.cells #[.int .i64 0, .int .i64 0, .int .u8 0] 23)).frozen? ⟨w.heap.size + 1, 2, none⟩ = false := by simp [go_sem]
  generalize ((w.alloc (.cells #[.int .i64 (x), .int .i64 (y), .int .u8 (q)] 23)).alloc (.cells #[.int .i64 0, .int .i64 0, .int .u8 0] 23)) = W0 at *
  go_wp2_with (first | (go_at_call 40; with_reducible refine (hedge_bad2 x y q e _ c1 c2 c3 c4 c5 c6 (by have h9 := H.out; omega)).mono ?_; rintro e wx ⟨rfl, hx⟩; obtain ⟨ux, rfl⟩ := after hx; clear hx) | fail)
  exact bodyPost_ret (v := .tuple #[cl 0 0 0, .int .i64 1]) (by simp [results, Tryd.results19, go_sem, b00, b01, b02, b10, b11, b12]) rfl ⟨rfl, (by repeat first | (with_reducible exact hB0) | (with_reducible refine below_on ?_ _) | (with_reducible refine below_alloc ?_ _) | (with_reducible refine below_set ?_ (by simp; try omega) _))⟩

set_option maxRecDepth 100000 in
set_option maxHeartbeats 2000000 in
theorem ccor_0 (x y : Int) (w : World) (hL : Lay w) (c1 : -4096 ≤ x) (c2 : x ≤ 4096) (c3 : -4096 ≤ y) (c4 : y ≤ 4096) : Calls Tryd.prog 12 #[cl x y 0] w fun e w' => e = .returned (.tuple #[.agg #[.int .i64 (1 + 2 * x), .int .i64 (1 + 2 * y), .int .i64 (2 * x), .int .i64 (2 * y), .int .i64 (2 + 2 * x), .int .i64 (2 * y)], .int .i64 0]) ∧ Below w.heap.size w w' := by
  have hL' : ∀ W, Below w.heap.size w W → Lay W := fun W h => lay_below hL h
  go_enter Tryd.func12, Tryd.ntmps12
  go_wp2_with fail
  have hB0 : Below w.heap.size w ((w.alloc (.cells #[.int .i64 (x), .int .i64 (y), .int .u8 (0)] 23)).alloc (.cells #[.int .i64 0, .int .i64 0, .int .i64 0, .int .i64 0, .int .i64 0, .int .i64 0] 32)) := (by repeat first | (with_reducible exact Below.refl _ _) | (with_reducible refine below_on ?_ _) | (with_reducible refine below_alloc ?_ _) | (with_reducible refine below_set ?_ (by simp; try omega) _))
  have b00 : ((w.alloc (.cells #[.int .i64 (x), .int .i64 (y), .int .u8 (0)] 23)).alloc (.cells #[.int .i64 0, .int .i64 0, .int .i64 0, .int .i64 0, .int .i64 0, .int .i64 0] 32)).cell? ⟨w.heap.size, 0, none⟩ = some (.int .i64 (x)) := by simp [go_sem]
  have b01 : ((w.alloc (.cells #[.int .i64 (x), .int .i64 (y), .int .u8 (0)] 23)).alloc (.cells #[.int .i64 0, .int .i64 0, .int .i64 0, .int .i64 0, .int .i64 0, .int .i64 0] 32)).cell? ⟨w.heap.size, 1, none⟩ = some (.int .i64 (y)) := by simp [go_sem]
  have b02 : ((w.alloc (.cells #[.int .i64 (x), .int .i64 (y), .int .u8 (0)] 23)).alloc (.cells #[.int .i64 0, .int .i64 0, .int .i64 0, .int .i64 0, .int .i64 0, .int .i64 0] 32)).cell? ⟨w.heap.size, 2, none⟩ = some (.int .u8 (0)) := by simp [go_sem]
  have b10 : ((w.alloc (.cells #[.int .i64 (x), .int .i64 (y), .int .u8 (0)] 23)).alloc (.cells #[.int .i64 0, .int .i64 0, .int .i64 0, .int .i64 0, .int .i64 0, .int .i64 0] 32)).cell? ⟨w.heap.size + 1, 0, none⟩ = some (.int .i64 0) := by simp [go_sem]
  have fb10 : ((w.alloc (.cells #[.int .i64 (x), .int .i64 (y), .int .u8 (0)] 23)).alloc (.cells #[.int .i64 0, .int .i64 0, .int .i64 0, .int .i64 0, .int .i64 0, .int .i64 0] 32)).frozen? ⟨w.heap.size + 1, 0, none⟩ = false := by simp [go_sem]
  have b11 : ((w.alloc (.cells #[.int .i64 (x), .int .i64 (y), .int .u8 (0)] 23)).alloc (.cells #[.int .i64 0, .int .i64 0, .int .i64 0, .int .i64 0, .int .i64 0, .int .i64 0] 32)).cell? ⟨w.heap.size + 1, 1, none⟩ = some (.int .i64 0) := by simp [go_sem]
  have fb11 : ((w.alloc (.cells #[.int .i64 (x), .int .i64 (y), .int .u8 (0)] 23)).alloc (.cells #[.int .i64 0, .int .i64 0, .int .i64 0, .int .i64 0, .int .i64 0, .int .i64 0] 32)).frozen? ⟨w.heap.size + 1, 1, none⟩ = false := by simp [go_sem]
  have b12 : ((w.alloc (.cells #[.int .i64 (x), .int .i64 (y), .int .u8 (0)] 23)).alloc (.cells #[.int .i64 0, .int .i64 0, .int .i64 0, .int .i64 0, .int .i64 0, .int .i64 0] 32)).cell? ⟨w.heap.size + 1, 2, none⟩ = some (.int .i64 0) := by simp [go_sem]
  have fb12 : ((w.alloc (.cells #[.int .i64 (x), .int .i64 (y), .int .u8 (0)] 23)).alloc (.cells #[.int .i64 0, .int .i64 0, .int .i64 0, .int .i64 0, .int .i64 0, .int .i64 0] 32)).frozen? ⟨w.heap.size + 1, 2, none⟩ = false := by simp [go_sem]
  have b13 : ((w.alloc (.cells #[.int .i64 (x), .int .i64 (y), .int .u8 (0)] 23)).alloc (.cells #[.int .i64 0, .int .i64 0, .int .i64 0, .int .i64 0, .int .i64 0, .int .i64 0] 32)).cell? ⟨w.heap.size + 1, 3, none⟩ = some (.int .i64 0) := by simp [go_sem]
  have fb13 : ((w.alloc (.cells #[.int .i64 (x), .int .i64 (y), .int .u8 (0)] 23)).alloc (.cells #[.int .i64 0, .int .i64 0, .int .i64 0, .int .i64 0, .int .i64 0, .int .i64 0] 32)).frozen? ⟨w.heap.size + 1, 3, none⟩ = false := by simp [go_sem]
  have b14 : ((w.alloc (.cells #[.int .i64 (x), .int .i64 (y), .int .u8 (0)] 23)).alloc (.cells #[.int .i64 0, .int .i64 0, .int .i64 0, .int .i64 0, .int .i64 0, .int .i64 0] 32)).cell? ⟨w.heap.size + 1, 4, none⟩ = some (.int .i64 0) := by simp [go_sem]
  have fb14 : ((w.alloc (.cells #[.int .i64 (x), .int .i64 (y), .int .u8 (0)] 23)).alloc (.cells #[.int .i64 0, .int .i64 0, .int .i64 0, .int .i64 0, .int .i64 0, .int .i64 0] 32)).frozen? ⟨w.heap.size + 1, 4, none⟩ = false := by simp [go_sem]
  have b15 : ((w.alloc (.cells #[.int .i64 (x), .int .i64 (y), .int .u8 (0)] 23)).alloc (.cells #[.int .i64 0, .int .i64 0, .int .i64 0, .int .i64 0, .int .i64 0, .int .i64 0] 32)).cell? ⟨w.heap.size + 1, 5, none⟩ = some (.int .i64 0) := by simp [go_sem]
  have fb15 : ((w.alloc (.cells #[.int .i64 (x), .int .i64 (y), .int .u8 (0)] 23)).alloc (.cells #[.int .i64 0, .int .i64 0, .int .i64 0, .int .i64 0, .int .i64 0, .int .i64 0] 32)).frozen? ⟨w.heap.size + 1, 5, none⟩ = false := by simp [go_sem]
  generalize ((w.alloc (.cells #[.int .i64 (x), .int .i64 (y), .int .u8 (0)] 23)).alloc (.cells #[.int .i64 0, .int .i64 0, .int .i64 0, .int .i64 0, .int .i64 0, .int .i64 0] 32)) = W0 at *
  go_wp2_with (first | (go_at_call 14; with_reducible refine (ccheck_ok x y 0 _ c1 c2 c3 c4 (by omega) (by omega)).mono ?_; rintro e wx ⟨rfl, hx⟩; obtain ⟨ux, rfl⟩ := after hx; clear hx) | fail)
  have hR : Below (W0).heap.size (W0) (on ux) := by repeat first | (with_reducible exact Below.refl _ _) | (with_reducible refine below_on ?_ _) | (with_reducible refine below_alloc ?_ _)
  have cR : ∀ {b i : Nat} {v : Value}, (W0).cell? ⟨b, i, none⟩ = some v → (on ux).cell? ⟨b, i, none⟩ = some v := fun h => (hR.cell (World.block_lt_of_cell? _ _ h)).trans h
  have fR : ∀ {b i : Nat} {v : Value}, (W0).cell? ⟨b, i, none⟩ = some v → (W0).frozen? ⟨b, i, none⟩ = false → (on ux).frozen? ⟨b, i, none⟩ = false := fun h g => (hR.frozen (World.block_lt_of_cell? _ _ h)).trans g
  have b00' := cR b00
  have b01' := cR b01
  have b02' := cR b02
  have b10' := cR b10
  have fb10' := fR b10 fb10
  have b11' := cR b11
  have fb11' := fR b11 fb11
  have b12' := cR b12
  have fb12' := fR b12 fb12
  have b13' := cR b13
  have fb13' := fR b13 fb13
  have b14' := cR b14
  have fb14' := fR b14 fb14
  have b15' := cR b15
  have fb15' := fR b15 fb15
  have hB1 : Below w.heap.size w (on ux) := by repeat first | (with_reducible exact hB0) | (with_reducible refine below_on ?_ _) | (with_reducible refine below_alloc ?_ _)
  clear hR cR fR b00 b01 b02 b10 b11 b12 b13 b14 b15 fb10 fb11 fb12 fb13 fb14 fb15 hB0
  generalize (on ux) = W1 at *
  clear ux
  go_wp2_with (first | (go_at_call 43; with_reducible refine (corner_0 x y _ (hL' _ (by repeat first | (with_reducible exact hB1) | (with_reducible refine below_on ?_ _) | (with_reducible refine below_alloc ?_ _) | (with_reducible refine below_set ?_ (by simp; try omega) _))) (by omega) (by omega) (by omega) (by omega)).mono ?_; rintro e wx ⟨rfl, hx⟩; obtain ⟨ux, rfl⟩ := after hx; clear hx) | fail)
  exact bodyPost_ret (v := .tuple #[.agg #[.int .i64 (1 + 2 * x), .int .i64 (1 + 2 * y), .int .i64 (2 * x), .int .i64 (2 * y), .int .i64 (2 + 2 * x), .int .i64 (2 * y)], .int .i64 0]) (by simp [results, Tryd.results12, go_sem, b00', b01', b02', b10', b11', b12', b13', b14', b15']) rfl ⟨rfl, (by repeat first | (with_reducible exact hB1) | (with_reducible refine below_on ?_ _) | (with_reducible refine below_alloc ?_ _) | (with_reducible refine below_set ?_ (by simp; try omega) _))⟩

set_option maxRecDepth 100000 in
set_option maxHeartbeats 2000000 in
theorem ccor_1 (x y : Int) (w : World) (hL : Lay w) (c1 : -4096 ≤ x) (c2 : x ≤ 4096) (c3 : -4096 ≤ y) (c4 : y ≤ 4096) : Calls Tryd.prog 12 #[cl x y 1] w fun e w' => e = .returned (.tuple #[.agg #[.int .i64 (1 + 2 * x), .int .i64 (1 + 2 * y), .int .i64 (2 + 2 * x), .int .i64 (2 + 2 * y), .int .i64 (2 + 2 * x), .int .i64 (2 * y)], .int .i64 0]) ∧ Below w.heap.size w w' := by
  have hL' : ∀ W, Below w.heap.size w W → Lay W := fun W h => lay_below hL h
  go_enter Tryd.func12, Tryd.ntmps12
  go_wp2_with fail
  have hB0 : Below w.heap.size w ((w.alloc (.cells #[.int .i64 (x), .int .i64 (y), .int .u8 (1)] 23)).alloc (.cells #[.int .i64 0, .int .i64 0, .int .i64 0, .int .i64 0, .int .i64 0, .int .i64 0] 32)) := (by repeat first | (with_reducible exact Below.refl _ _) | (with_reducible refine below_on ?_ _) | (with_reducible refine below_alloc ?_ _) | (with_reducible refine below_set ?_ (by simp; try omega) _))
  have b00 : ((w.alloc (.cells #[.int .i64 (x), .int .i64 (y), .int .u8 (1)] 23)).alloc (.cells #[.int .i64 0, .int .i64 0, .int .i64 0, .int .i64 0, .int .i64 0, .int .i64 0] 32)).cell? ⟨w.heap.size, 0, none⟩ = some (.int .i64 (x)) := by simp [go_sem]
  have b01 : ((w.alloc (.cells #[.int .i64 (x), .int .i64 (y), .int .u8 (1)] 23)).alloc (.cells #[.int .i64 0, .int .i64 0, .int .i64 0, .int .i64 0, .int .i64 0, .int .i64 0] 32)).cell? ⟨w.heap.size, 1, none⟩ = some (.int .i64 (y)) := by simp [go_sem]
  have b02 : ((w.alloc (.cells #[.int .i64 (x), .int .i64 (y), .int .u8 (1)] 23)).alloc (.cells #[.int .i64 0, .int .i64 0, .int .i64 0, .int .i64 0, .int .i64 0, .int .i64 0] 32)).cell? ⟨w.heap.size, 2, none⟩ = some (.int .u8 (1)) := by simp [go_sem]
  have b10 : ((w.alloc (.cells #[.int .i64 (x), .int .i64 (y), .int .u8 (1)] 23)).alloc (.cells #[.int .i64 0, .int .i64 0, .int .i64 0, .int .i64 0, .int .i64 0, .int .i64 0] 32)).cell? ⟨w.heap.size + 1, 0, none⟩ = some (.int .i64 0) := by simp [go_sem]
  have fb10 : ((w.alloc (.cells #[.int .i64 (x), .int .i64 (y), .int .u8 (1)] 23)).alloc (.cells #[.int .i64 0, .int .i64 0, .int .i64 0, .int .i64 0, .int .i64 0, .int .i64 0] 32)).frozen? ⟨w.heap.size + 1, 0, none⟩ = false := by simp [go_sem]
  have b11 : ((w.alloc (.cells #[.int .i64 (x), .int .i64 (y), .int .u8 (1)] 23)).alloc (.cells #[.int .i64 0, .int .i64 0, .int .i64 0, .int .i64 0, .int .i64 0, .int .i64 0] 32)).cell? ⟨w.heap.size + 1, 1, none⟩ = some (.int .i64 0) := by simp [go_sem]
  have fb11 : ((w.alloc (.cells #[.int .i64 (x), .int .i64 (y), .int .u8 (1)] 23)).alloc (.cells #[.int .i64 0, .int .i64 0, .int .i64 0, .int .i64 0, .int .i64 0, .int .i64 0] 32)).frozen? ⟨w.heap.size + 1, 1, none⟩ = false := by simp [go_sem]
  have b12 : ((w.alloc (.cells #[.int .i64 (x), .int .i64 (y), .int .u8 (1)] 23)).alloc (.cells #[.int .i64 0, .int .i64 0, .int .i64 0, .int .i64 0, .int .i64 0, .int .i64 0] 32)).cell? ⟨w.heap.size + 1, 2, none⟩ = some (.int .i64 0) := by simp [go_sem]
  have fb12 : ((w.alloc (.cells #[.int .i64 (x), .int .i64 (y), .int .u8 (1)] 23)).alloc (.cells #[.int .i64 0, .int .i64 0, .int .i64 0, .int .i64 0, .int .i64 0, .int .i64 0] 32)).frozen? ⟨w.heap.size + 1, 2, none⟩ = false := by simp [go_sem]
  have b13 : ((w.alloc (.cells #[.int .i64 (x), .int .i64 (y), .int .u8 (1)] 23)).alloc (.cells #[.int .i64 0, .int .i64 0, .int .i64 0, .int .i64 0, .int .i64 0, .int .i64 0] 32)).cell? ⟨w.heap.size + 1, 3, none⟩ = some (.int .i64 0) := by simp [go_sem]
  have fb13 : ((w.alloc (.cells #[.int .i64 (x), .int .i64 (y), .int .u8 (1)] 23)).alloc (.cells #[.int .i64 0, .int .i64 0, .int .i64 0, .int .i64 0, .int .i64 0, .int .i64 0] 32)).frozen? ⟨w.heap.size + 1, 3, none⟩ = false := by simp [go_sem]
  have b14 : ((w.alloc (.cells #[.int .i64 (x), .int .i64 (y), .int .u8 (1)] 23)).alloc (.cells #[.int .i64 0, .int .i64 0, .int .i64 0, .int .i64 0, .int .i64 0, .int .i64 0] 32)).cell? ⟨w.heap.size + 1, 4, none⟩ = some (.int .i64 0) := by simp [go_sem]
  have fb14 : ((w.alloc (.cells #[.int .i64 (x), .int .i64 (y), .int .u8 (1)] 23)).alloc (.cells #[.int .i64 0, .int .i64 0, .int .i64 0, .int .i64 0, .int .i64 0, .int .i64 0] 32)).frozen? ⟨w.heap.size + 1, 4, none⟩ = false := by simp [go_sem]
  have b15 : ((w.alloc (.cells #[.int .i64 (x), .int .i64 (y), .int .u8 (1)] 23)).alloc (.cells #[.int .i64 0, .int .i64 0, .int .i64 0, .int .i64 0, .int .i64 0, .int .i64 0] 32)).cell? ⟨w.heap.size + 1, 5, none⟩ = some (.int .i64 0) := by simp [go_sem]
  have fb15 : ((w.alloc (.cells #[.int .i64 (x), .int .i64 (y), .int .u8 (1)] 23)).alloc (.cells #[.int .i64 0, .int .i64 0, .int .i64 0, .int .i64 0, .int .i64 0, .int .i64 0] 32)).frozen? ⟨w.heap.size + 1, 5, none⟩ = false := by simp [go_sem]
  generalize ((w.alloc (.cells #[.int .i64 (x), .int .i64 (y), .int .u8 (1)] 23)).alloc (.cells #[.int .i64 0, .int .i64 0, .int .i64 0, .int .i64 0, .int .i64 0, .int .i64 0] 32)) = W0 at *
  go_wp2_with (first | (go_at_call 14; with_reducible refine (ccheck_ok x y 1 _ c1 c2 c3 c4 (by omega) (by omega)).mono ?_; rintro e wx ⟨rfl, hx⟩; obtain ⟨ux, rfl⟩ := after hx; clear hx) | fail)
  have hR : Below (W0).heap.size (W0) (on ux) := by repeat first | (with_reducible exact Below.refl _ _) | (with_reducible refine below_on ?_ _) | (with_reducible refine below_alloc ?_ _)
  have cR : ∀ {b i : Nat} {v : Value}, (W0).cell? ⟨b, i, none⟩ = some v → (on ux).cell? ⟨b, i, none⟩ = some v := fun h => (hR.cell (World.block_lt_of_cell? _ _ h)).trans h
  have fR : ∀ {b i : Nat} {v : Value}, (W0).cell? ⟨b, i, none⟩ = some v → (W0).frozen? ⟨b, i, none⟩ = false → (on ux).frozen? ⟨b, i, none⟩ = false := fun h g => (hR.frozen (World.block_lt_of_cell? _ _ h)).trans g
  have b00' := cR b00
  have b01' := cR b01
  have b02' := cR b02
  have b10' := cR b10
  have fb10' := fR b10 fb10
  have b11' := cR b11
  have fb11' := fR b11 fb11
  have b12' := cR b12
  have fb12' := fR b12 fb12
  have b13' := cR b13
  have fb13' := fR b13 fb13
  have b14' := cR b14
  have fb14' := fR b14 fb14
  have b15' := cR b15
  have fb15' := fR b15 fb15
  have hB1 : Below w.heap.size w (on ux) := by repeat first | (with_reducible exact hB0) | (with_reducible refine below_on ?_ _) | (with_reducible refine below_alloc ?_ _)
  clear hR cR fR b00 b01 b02 b10 b11 b12 b13 b14 b15 fb10 fb11 fb12 fb13 fb14 fb15 hB0
  generalize (on ux) = W1 at *
  clear ux
  go_wp2_with (first | (go_at_call 43; with_reducible refine (corner_1 x y _ (hL' _ (by repeat first | (with_reducible exact hB1) | (with_reducible refine below_on ?_ _) | (with_reducible refine below_alloc ?_ _) | (with_reducible refine below_set ?_ (by simp; try omega) _))) (by omega) (by omega) (by omega) (by omega)).mono ?_; rintro e wx ⟨rfl, hx⟩; obtain ⟨ux, rfl⟩ := after hx; clear hx) | fail)
  exact bodyPost_ret (v := .tuple #[.agg #[.int .i64 (1 + 2 * x), .int .i64 (1 + 2 * y), .int .i64 (2 + 2 * x), .int .i64 (2 + 2 * y), .int .i64 (2 + 2 * x), .int .i64 (2 * y)], .int .i64 0]) (by simp [results, Tryd.results12, go_sem, b00', b01', b02', b10', b11', b12', b13', b14', b15']) rfl ⟨rfl, (by repeat first | (with_reducible exact hB1) | (with_reducible refine below_on ?_ _) | (with_reducible refine below_alloc ?_ _) | (with_reducible refine below_set ?_ (by simp; try omega) _))⟩

set_option maxRecDepth 100000 in
set_option maxHeartbeats 2000000 in
theorem ccor_2 (x y : Int) (w : World) (hL : Lay w) (c1 : -4096 ≤ x) (c2 : x ≤ 4096) (c3 : -4096 ≤ y) (c4 : y ≤ 4096) : Calls Tryd.prog 12 #[cl x y 2] w fun e w' => e = .returned (.tuple #[.agg #[.int .i64 (1 + 2 * x), .int .i64 (1 + 2 * y), .int .i64 (2 + 2 * x), .int .i64 (2 + 2 * y), .int .i64 (2 * x), .int .i64 (2 + 2 * y)], .int .i64 0]) ∧ Below w.heap.size w w' := by
  have hL' : ∀ W, Below w.heap.size w W → Lay W := fun W h => lay_below hL h
  go_enter Tryd.func12, Tryd.ntmps12
  go_wp2_with fail
  have hB0 : Below w.heap.size w ((w.alloc (.cells #[.int .i64 (x), .int .i64 (y), .int .u8 (2)] 23)).alloc (.cells #[.int .i64 0, .int .i64 0, .int .i64 0, .int .i64 0, .int .i64 0, .int .i64 0] 32)) := (by repeat first | (with_reducible exact Below.refl _ _) | (with_reducible refine below_on ?_ _) | (with_reducible refine below_alloc ?_ _) | (with_reducible refine below_set ?_ (by simp; try omega) _))
  have b00 : ((w.alloc (.cells #[.int .i64 (x), .int .i64 (y), .int .u8 (2)] 23)).alloc (.cells #[.int .i64 0, .int .i64 0, .int .i64 0, .int .i64 0, .int .i64 0, .int .i64 0] 32)).cell? ⟨w.heap.size, 0, none⟩ = some (.int .i64 (x)) := by simp [go_sem]
  have b01 : ((w.alloc (.cells #[.int .i64 (x), .int .i64 (y), .int .u8 (2)] 23)).alloc (.cells #[.int .i64 0, .int .i64 0, .int .i64 0, .int .i64 0, .int .i64 0, .int .i64 0] 32)).cell? ⟨w.heap.size, 1, none⟩ = some (.int .i64 (y)) := by simp [go_sem]
  have b02 : ((w.alloc (.cells #[.int .i64 (x), .int .i64 (y), .int .u8 (2)] 23)).alloc (.cells #[.int .i64 0, .int .i64 0, .int .i64 0, .int .i64 0, .int .i64 0, .int .i64 0] 32)).cell? ⟨w.heap.size, 2, none⟩ = some (.int .u8 (2)) := by simp [go_sem]
  have b10 : ((w.alloc (.cells #[.int .i64 (x), .int .i64 (y), .int .u8 (2)] 23)).alloc (.cells #[.int .i64 0, .int .i64 0, .int .i64 0, .int .i64 0, .int .i64 0, .int .i64 0] 32)).cell? ⟨w.heap.size + 1, 0, none⟩ = some (.int .i64 0) := by simp [go_sem]
  have fb10 : ((w.alloc (.cells #[.int .i64 (x), .int .i64 (y), .int .u8 (2)] 23)).alloc (.cells #[.int .i64 0, .int .i64 0, .int .i64 0, .int .i64 0, .int .i64 0, .int .i64 0] 32)).frozen? ⟨w.heap.size + 1, 0, none⟩ = false := by simp [go_sem]
  have b11 : ((w.alloc (.cells #[.int .i64 (x), .int .i64 (y), .int .u8 (2)] 23)).alloc (.cells #[.int .i64 0, .int .i64 0, .int .i64 0, .int .i64 0, .int .i64 0, .int .i64 0] 32)).cell? ⟨w.heap.size + 1, 1, none⟩ = some (.int .i64 0) := by simp [go_sem]
  have fb11 : ((w.alloc (.cells #[.int .i64 (x), .int .i64 (y), .int .u8 (2)] 23)).alloc (.cells #[.int .i64 0, .int .i64 0, .int .i64 0, .int .i64 0, .int .i64 0, .int .i64 0] 32)).frozen? ⟨w.heap.size + 1, 1, none⟩ = false := by simp [go_sem]
  have b12 : ((w.alloc (.cells #[.int .i64 (x), .int .i64 (y), .int .u8 (2)] 23)).alloc (.cells #[.int .i64 0, .int .i64 0, .int .i64 0, .int .i64 0, .int .i64 0, .int .i64 0] 32)).cell? ⟨w.heap.size + 1, 2, none⟩ = some (.int .i64 0) := by simp [go_sem]
  have fb12 : ((w.alloc (.cells #[.int .i64 (x), .int .i64 (y), .int .u8 (2)] 23)).alloc (.cells #[.int .i64 0, .int .i64 0, .int .i64 0, .int .i64 0, .int .i64 0, .int .i64 0] 32)).frozen? ⟨w.heap.size + 1, 2, none⟩ = false := by simp [go_sem]
  have b13 : ((w.alloc (.cells #[.int .i64 (x), .int .i64 (y), .int .u8 (2)] 23)).alloc (.cells #[.int .i64 0, .int .i64 0, .int .i64 0, .int .i64 0, .int .i64 0, .int .i64 0] 32)).cell? ⟨w.heap.size + 1, 3, none⟩ = some (.int .i64 0) := by simp [go_sem]
  have fb13 : ((w.alloc (.cells #[.int .i64 (x), .int .i64 (y), .int .u8 (2)] 23)).alloc (.cells #[.int .i64 0, .int .i64 0, .int .i64 0, .int .i64 0, .int .i64 0, .int .i64 0] 32)).frozen? ⟨w.heap.size + 1, 3, none⟩ = false := by simp [go_sem]
  have b14 : ((w.alloc (.cells #[.int .i64 (x), .int .i64 (y), .int .u8 (2)] 23)).alloc (.cells #[.int .i64 0, .int .i64 0, .int .i64 0, .int .i64 0, .int .i64 0, .int .i64 0] 32)).cell? ⟨w.heap.size + 1, 4, none⟩ = some (.int .i64 0) := by simp [go_sem]
  have fb14 : ((w.alloc (.cells #[.int .i64 (x), .int .i64 (y), .int .u8 (2)] 23)).alloc (.cells #[.int .i64 0, .int .i64 0, .int .i64 0, .int .i64 0, .int .i64 0, .int .i64 0] 32)).frozen? ⟨w.heap.size + 1, 4, none⟩ = false := by simp [go_sem]
  have b15 : ((w.alloc (.cells #[.int .i64 (x), .int .i64 (y), .int .u8 (2)] 23)).alloc (.cells #[.int .i64 0, .int .i64 0, .int .i64 0, .int .i64 0, .int .i64 0, .int .i64 0] 32)).cell? ⟨w.heap.size + 1, 5, none⟩ = some (.int .i64 0) := by simp [go_sem]
  have fb15 : ((w.alloc (.cells #[.int .i64 (x), .int .i64 (y), .int .u8 (2)] 23)).alloc (.cells #[.int .i64 0, .int .i64 0, .int .i64 0, .int .i64 0, .int .i64 0, .int .i64 0] 32)).frozen? ⟨w.heap.size + 1, 5, none⟩ = false := by simp [go_sem]
  generalize ((w.alloc (.cells #[.int .i64 (x), .int .i64 (y), .int .u8 (2)] 23)).alloc (.cells #[.int .i64 0, .int .i64 0, .int .i64 0, .int .i64 0, .int .i64 0, .int .i64 0] 32)) = W0 at *
  go_wp2_with (first | (go_at_call 14; with_reducible refine (ccheck_ok x y 2 _ c1 c2 c3 c4 (by omega) (by omega)).mono ?_; rintro e wx ⟨rfl, hx⟩; obtain ⟨ux, rfl⟩ := after hx; clear hx) | fail)
  have hR : Below (W0).heap.size (W0) (on ux) := by repeat first | (with_reducible exact Below.refl _ _) | (with_reducible refine below_on ?_ _) | (with_reducible refine below_alloc ?_ _)
  have cR : ∀ {b i : Nat} {v : Value}, (W0).cell? ⟨b, i, none⟩ = some v → (on ux).cell? ⟨b, i, none⟩ = some v := fun h => (hR.cell (World.block_lt_of_cell? _ _ h)).trans h
  have fR : ∀ {b i : Nat} {v : Value}, (W0).cell? ⟨b, i, none⟩ = some v → (W0).frozen? ⟨b, i, none⟩ = false → (on ux).frozen? ⟨b, i, none⟩ = false := fun h g => (hR.frozen (World.block_lt_of_cell? _ _ h)).trans g
  have b00' := cR b00
  have b01' := cR b01
  have b02' := cR b02
  have b10' := cR b10
  have fb10' := fR b10 fb10
  have b11' := cR b11
  have fb11' := fR b11 fb11
  have b12' := cR b12
  have fb12' := fR b12 fb12
  have b13' := cR b13
  have fb13' := fR b13 fb13
  have b14' := cR b14
  have fb14' := fR b14 fb14
  have b15' := cR b15
  have fb15' := fR b15 fb15
  have hB1 : Below w.heap.size w (on ux) := by repeat first | (with_reducible exact hB0) | (with_reducible refine below_on ?_ _) | (with_reducible refine below_alloc ?_ _)
  clear hR cR fR b00 b01 b02 b10 b11 b12 b13 b14 b15 fb10 fb11 fb12 fb13 fb14 fb15 hB0
  generalize (on ux) = W1 at *
  clear ux
  go_wp2_with (first | (go_at_call 43; with_reducible refine (corner_2 x y _ (hL' _ (by repeat first | (with_reducible exact hB1) | (with_reducible refine below_on ?_ _) | (with_reducible refine below_alloc ?_ _) | (with_reducible refine below_set ?_ (by simp; try omega) _))) (by omega) (by omega) (by omega) (by omega)).mono ?_; rintro e wx ⟨rfl, hx⟩; obtain ⟨ux, rfl⟩ := after hx; clear hx) | fail)
  exact bodyPost_ret (v := .tuple #[.agg #[.int .i64 (1 + 2 * x), .int .i64 (1 + 2 * y), .int .i64 (2 + 2 * x), .int .i64 (2 + 2 * y), .int .i64 (2 * x), .int .i64 (2 + 2 * y)], .int .i64 0]) (by simp [results, Tryd.results12, go_sem, b00', b01', b02', b10', b11', b12', b13', b14', b15']) rfl ⟨rfl, (by repeat first | (with_reducible exact hB1) | (with_reducible refine below_on ?_ _) | (with_reducible refine below_alloc ?_ _) | (with_reducible refine below_set ?_ (by simp; try omega) _))⟩

set_option maxRecDepth 100000 in
set_option maxHeartbeats 2000000 in
theorem ccor_3 (x y : Int) (w : World) (hL : Lay w) (c1 : -4096 ≤ x) (c2 : x ≤ 4096) (c3 : -4096 ≤ y) (c4 : y ≤ 4096) : Calls Tryd.prog 12 #[cl x y 3] w fun e w' => e = .returned (.tuple #[.agg #[.int .i64 (1 + 2 * x), .int .i64 (1 + 2 * y), .int .i64 (2 * x), .int .i64 (2 * y), .int .i64 (2 * x), .int .i64 (2 + 2 * y)], .int .i64 0]) ∧ Below w.heap.size w w' := by
  have hL' : ∀ W, Below w.heap.size w W → Lay W := fun W h => lay_below hL h
  go_enter Tryd.func12, Tryd.ntmps12
  go_wp2_with fail
  have hB0 : Below w.heap.size w ((w.alloc (.cells #[.int .i64 (x), .int .i64 (y), .int .u8 (3)] 23)).alloc (.cells #[.int .i64 0, .int .i64 0, .int .i64 0, .int .i64 0, .int .i64 0, .int .i64 0] 32)) := (by repeat first | (with_reducible exact Below.refl _ _) | (with_reducible refine below_on ?_ _) | (with_reducible refine below_alloc ?_ _) | (with_reducible refine below_set ?_ (by simp; try omega) _))
  have b00 : ((w.alloc (.cells #[.int .i64 (x), .int .i64 (y), .int .u8 (3)] 23)).alloc (.cells #[.int .i64 0, .int .i64 0, .int .i64 0, .int .i64 0, .int .i64 0, .int .i64 0] 32)).cell? ⟨w.heap.size, 0, none⟩ = some (.int .i64 (x)) := by simp [go_sem]
  have b01 : ((w.alloc (.cells #[.int .i64 (x), .int .i64 (y), .int .u8 (3)] 23)).alloc (.cells #[.int .i64 0, .int .i64 0, .int .i64 0, .int .i64 0, .int .i64 0, .int .i64 0] 32)).cell? ⟨w.heap.size, 1, none⟩ = some (.int .i64 (y)) := by simp [go_sem]
  have b02 : ((w.alloc (.cells #[.int .i64 (x), .int .i64 (y), .int .u8 (3)] 23)).alloc (.cells #[.int .i64 0, .int .i64 0, .int .i64 0, .int .i64 0, .int .i64 0, .int .i64 0] 32)).cell? ⟨w.heap.size, 2, none⟩ = some (.int .u8 (3)) := by simp [go_sem]
  have b10 : ((w.alloc (.cells #[.int .i64 (x), .int .i64 (y), .int .u8 (3)] 23)).alloc (.cells #[.int .i64 0, .int .i64 0, .int .i64 0, .int .i64 0, .int .i64 0, .int .i64 0] 32)).cell? ⟨w.heap.size + 1, 0, none⟩ = some (.int .i64 0) := by simp [go_sem]
  have fb10 : ((w.alloc (.cells #[.int .i64 (x), .int .i64 (y), .int .u8 (3)] 23)).alloc (.cells #[.int .i64 0, .int .i64 0, .int .i64 0, .int .i64 0, .int .i64 0, .int .i64 0] 32)).frozen? ⟨w.heap.size + 1, 0, none⟩ = false := by simp [go_sem]
  have b11 : ((w.alloc (.cells #[.int .i64 (x), .int .i64 (y), .int .u8 (3)] 23)).alloc (.cells #[.int .i64 0, .int .i64 0, .int .i64 0, .int .i64 0, .int .i64 0, .int .i64 0] 32)).cell? ⟨w.heap.size + 1, 1, none⟩ = some (.int .i64 0) := by simp [go_sem]
  have fb11 : ((w.alloc (.cells #[.int .i64 (x), .int .i64 (y), .int .u8 (3)] 23)).alloc (.cells #[.int .i64 0, .int .i64 0, .int .i64 0, .int .i64 0, .int .i64 0, .int .i64 0] 32)).frozen? ⟨w.heap.size + 1, 1, none⟩ = false := by simp [go_sem]
  have b12 : ((w.alloc (.cells #[.int .i64 (x), .int .i64 (y), .int .u8 (3)] 23)).alloc (.cells #[.int .i64 0, .int .i64 0, .int .i64 0, .int .i64 0, .int .i64 0, .int .i64 0] 32)).cell? ⟨w.heap.size + 1, 2, none⟩ = some (.int .i64 0) := by simp [go_sem]
  have fb12 : ((w.alloc (.cells #[.int .i64 (x), .int .i64 (y), .int .u8 (3)] 23)).alloc (.cells #[.int .i64 0, .int .i64 0, .int .i64 0, .int .i64 0, .int .i64 0, .int .i64 0] 32)).frozen? ⟨w.heap.size + 1, 2, none⟩ = false := by simp [go_sem]
  have b13 : ((w.alloc (.cells #[.int .i64 (x), .int .i64 (y), .int .u8 (3)] 23)).alloc (.cells #[.int .i64 0, .int .i64 0, .int .i64 0, .int .i64 0, .int .i64 0, .int .i64 0] 32)).cell? ⟨w.heap.size + 1, 3, none⟩ = some (.int .i64 0) := by simp [go_sem]
  have fb13 : ((w.alloc (.cells #[.int .i64 (x), .int .i64 (y), .int .u8 (3)] 23)).alloc (.cells #[.int .i64 0, .int .i64 0, .int .i64 0, .int .i64 0, .int .i64 0, .int .i64 0] 32)).frozen? ⟨w.heap.size + 1, 3, none⟩ = false := by simp [go_sem]
  have b14 : ((w.alloc (.cells #[.int .i64 (x), .int .i64 (y), .int .u8 (3)] 23)).alloc (.cells #[.int .i64 0, .int .i64 0, .int .i64 0, .int .i64 0, .int .i64 0, .int .i64 0] 32)).cell? ⟨w.heap.size + 1, 4, none⟩ = some (.int .i64 0) := by simp [go_sem]
  have fb14 : ((w.alloc (.cells #[.int .i64 (x), .int .i64 (y), .int .u8 (3)] 23)).alloc (.cells #[.int .i64 0, .int .i64 0, .int .i64 0, .int .i64 0, .int .i64 0, .int .i64 0] 32)).frozen? ⟨w.heap.size + 1, 4, none⟩ = false := by simp [go_sem]
  have b15 : ((w.alloc (.cells #[.int .i64 (x), .int .i64 (y), .int .u8 (3)] 23)).alloc (.cells #[.int .i64 0, .int .i64 0, .int .i64 0, .int .i64 0, .int .i64 0, .int .i64 0] 32)).cell? ⟨w.heap.size + 1, 5, none⟩ = some (.int .i64 0) := by simp [go_sem]
  have fb15 : ((w.alloc (.cells #[.int .i64 (x), .int .i64 (y), .int .u8 (3)] 23)).alloc (.cells #[.int .i64 0, .int .i64 0, .int .i64 0, .int .i64 0, .int .i64 0, .int .i64 0] 32)).frozen? ⟨w.heap.size + 1, 5, none⟩ = false := by simp [go_sem]
  generalize ((w.alloc (.cells #[.int .i64 (x), .int .i64 (y), .int .u8 (3)] 23)).alloc (.cells #[.int .i64 0, .int .i64 0, .int .i64 0, .int .i64 0, .int .i64 0, .int .i64 0] 32)) = W0 at *
  go_wp2_with (first | (go_at_call 14; with_reducible refine (ccheck_ok x y 3 _ c1 c2 c3 c4 (by omega) (by omega)).mono ?_; rintro e wx ⟨rfl, hx⟩; obtain ⟨ux, rfl⟩ := after hx; clear hx) | fail)
  have hR : Below (W0).heap.size (W0) (on ux) := by repeat first | (with_reducible exact Below.refl _ _) | (with_reducible refine below_on ?_ _) | (with_reducible refine below_alloc ?_ _)
  have cR : ∀ {b i : Nat} {v : Value}, (W0).cell? ⟨b, i, none⟩ = some v → (on ux).cell? ⟨b, i, none⟩ = some v := fun h => (hR.cell (World.block_lt_of_cell? _ _ h)).trans h
  have fR : ∀ {b i : Nat} {v : Value}, (W0).cell? ⟨b, i, none⟩ = some v → (W0).frozen? ⟨b, i, none⟩ = false → (on ux).frozen? ⟨b, i, none⟩ = false := fun h g => (hR.frozen (World.block_lt_of_cell? _ _ h)).trans g
  have b00' := cR b00
  have b01' := cR b01
  have b02' := cR b02
  have b10' := cR b10
  have fb10' := fR b10 fb10
  have b11' := cR b11
  have fb11' := fR b11 fb11
  have b12' := cR b12
  have fb12' := fR b12 fb12
  have b13' := cR b13
  have fb13' := fR b13 fb13
  have b14' := cR b14
  have fb14' := fR b14 fb14
  have b15' := cR b15
  have fb15' := fR b15 fb15
  have hB1 : Below w.heap.size w (on ux) := by repeat first | (with_reducible exact hB0) | (with_reducible refine below_on ?_ _) | (with_reducible refine below_alloc ?_ _)
  clear hR cR fR b00 b01 b02 b10 b11 b12 b13 b14 b15 fb10 fb11 fb12 fb13 fb14 fb15 hB0
  generalize (on ux) = W1 at *
  clear ux
  go_wp2_with (first | (go_at_call 43; with_reducible refine (corner_3 x y _ (hL' _ (by repeat first | (with_reducible exact hB1) | (with_reducible refine below_on ?_ _) | (with_reducible refine below_alloc ?_ _) | (with_reducible refine below_set ?_ (by simp; try omega) _))) (by omega) (by omega) (by omega) (by omega)).mono ?_; rintro e wx ⟨rfl, hx⟩; obtain ⟨ux, rfl⟩ := after hx; clear hx) | fail)
  exact bodyPost_ret (v := .tuple #[.agg #[.int .i64 (1 + 2 * x), .int .i64 (1 + 2 * y), .int .i64 (2 * x), .int .i64 (2 * y), .int .i64 (2 * x), .int .i64 (2 + 2 * y)], .int .i64 0]) (by simp [results, Tryd.results12, go_sem, b00', b01', b02', b10', b11', b12', b13', b14', b15']) rfl ⟨rfl, (by repeat first | (with_reducible exact hB1) | (with_reducible refine below_on ?_ _) | (with_reducible refine below_alloc ?_ _) | (with_reducible refine below_set ?_ (by simp; try omega) _))⟩

set_option maxRecDepth 100000 in
set_option maxHeartbeats 2000000 in
theorem ccor_bad (x y q : Int) (w : World) (h : 3 < q ∨ x < -4096 ∨ 4096 < x ∨ y < -4096 ∨ 4096 < y) : Calls Tryd.prog 12 #[cl x y q] w fun e w' => e = .returned (.tuple #[.agg #[.int .i64 0, .int .i64 0, .int .i64 0, .int .i64 0, .int .i64 0, .int .i64 0], .int .i64 1]) ∧ Below w.heap.size w w' := by
  have H : Hid (3 < q ∨ x < -4096 ∨ 4096 < x ∨ y < -4096 ∨ 4096 < y) := h
  clear h
  go_enter Tryd.func12, Tryd.ntmps12
  go_wp2_with fail
  have hB0 : Below w.heap.size w ((w.alloc (.cells #[.int .i64 (x), .int .i64 (y), .int .u8 (q)] 23)).alloc (.cells #[.int .i64 0, .int .i64 0, .int .i64 0, .int .i64 0, .int .i64 0, .int .i64 0] 32)) := (by repeat first | (with_reducible exact Below.refl _ _) | (with_reducible refine below_on ?_ _) | (with_reducible refine below_alloc ?_ _) | (with_reducible refine below_set ?_ (by simp; try omega) _))
  have b00 : ((w.alloc (.cells #[.int .i64 (x), .int .i64 (y), .int .u8 (q)] 23)).alloc (.cells #[.int .i64 0, .int .i64 0, .int .i64 0, .int .i64 0, .int .i64 0, .int .i64 0] 32)).cell? ⟨w.heap.size, 0, none⟩ = some (.int .i64 (x)) := by simp [go_sem]
  have b01 : ((w.alloc (.cells #[.int .i64 (x), .int .i64 (y), .int .u8 (q)] 23)).alloc (.cells #[.int .i64 0, .int .i64 0, .int .i64 0, .int .i64 0, .int .i64 0, .int .i64 0] 32)).cell? ⟨w.heap.size, 1, none⟩ = some (.int .i64 (y)) := by simp [go_sem]
  have b02 : ((w.alloc (.cells #[.int .i64 (x), .int .i64 (y), .int .u8 (q)] 23)).alloc (.cells #[.int .i64 0, .int .i64 0, .int .i64 0, .int .i64 0, .int .i64 0, .int .i64 0] 32)).cell? ⟨w.heap.size, 2, none⟩ = some (.int .u8 (q)) := by simp [go_sem]
  have b10 : ((w.alloc (.cells #[.int .i64 (x), .int .i64 (y), .int .u8 (q)] 23)).alloc (.cells #[.int .i64 0, .int .i64 0, .int .i64 0, .int .i64 0, .int .i64 0, .int .i64 0] 32)).cell? ⟨w.heap.size + 1, 0, none⟩ = some (.int .i64 0) := by simp [go_sem]
  have fb10 : ((w.alloc (.cells #[.int .i64 (x), .int .i64 (y), .int .u8 (q)] 23)).alloc (.cells #[.int .i64 0, .int .i64 0, .int .i64 0, .int .i64 0, .int .i64 0, .int .i64 0] 32)).frozen? ⟨w.heap.size + 1, 0, none⟩ = false := by simp [go_sem]
  have b11 : ((w.alloc (.cells #[.int .i64 (x), .int .i64 (y), .int .u8 (q)] 23)).alloc (.cells #[.int .i64 0, .int .i64 0, .int .i64 0, .int .i64 0, .int .i64 0, .int .i64 0] 32)).cell? ⟨w.heap.size + 1, 1, none⟩ = some (.int .i64 0) := by simp [go_sem]
  have fb11 : ((w.alloc (.cells #[.int .i64 (x), .int .i64 (y), .int .u8 (q)] 23)).alloc (.cells #[.int .i64 0, .int .i64 0, .int .i64 0, .int .i64 0, .int .i64 0, .int .i64 0] 32)).frozen? ⟨w.heap.size + 1, 1, none⟩ = false := by simp [go_sem]
  have b12 : ((w.alloc (.cells #[.int .i64 (x), .int .i64 (y), .int .u8 (q)] 23)).alloc (.cells #[.int .i64 0, .int .i64 0, .int .i64 0, .int .i64 0, .int .i64 0, .int .i64 0] 32)).cell? ⟨w.heap.size + 1, 2, none⟩ = some (.int .i64 0) := by simp [go_sem]
  have fb12 : ((w.alloc (.cells #[.int .i64 (x), .int .i64 (y), .int .u8 (q)] 23)).alloc (.cells #[.int .i64 0, .int .i64 0, .int .i64 0, .int .i64 0, .int .i64 0, .int .i64 0] 32)).frozen? ⟨w.heap.size + 1, 2, none⟩ = false := by simp [go_sem]
  have b13 : ((w.alloc (.cells #[.int .i64 (x), .int .i64 (y), .int .u8 (q)] 23)).alloc (.cells #[.int .i64 0, .int .i64 0, .int .i64 0, .int .i64 0, .int .i64 0, .int .i64 0] 32)).cell? ⟨w.heap.size + 1, 3, none⟩ = some (.int .i64 0) := by simp [go_sem]
  have fb13 : ((w.alloc (.cells #[.int .i64 (x), .int .i64 (y), .int .u8 (q)] 23)).alloc (.cells #[.int .i64 0, .int .i64 0, .int .i64 0, .int .i64 0, .int .i64 0, .int .i64 0] 32)).frozen? ⟨w.heap.size + 1, 3, none⟩ = false := by simp [go_sem]
  have b14 : ((w.alloc (.cells #[.int .i64 (x), .int .i64 (y), .int .u8 (q)] 23)).alloc (.cells #[.int .i64 0, .int .i64 0, .int .i64 0, .int .i64 0, .int .i64 0, .int .i64 0] 32)).cell? ⟨w.heap.size + 1, 4, none⟩ = some (.int .i64 0) := by simp [go_sem]
  have fb14 : ((w.alloc (.cells #[.int .i64 (x), .int .i64 (y), .int .u8 (q)] 23)).alloc (.cells #[.int .i64 0, .int .i64 0, .int .i64 0, .int .i64 0, .int .i64 0, .int .i64 0] 32)).frozen? ⟨w.heap.size + 1, 4, none⟩ = false := by simp [go_sem]
  have b15 : ((w.alloc (.cells #[.int .i64 (x), .int .i64 (y), .int .u8 (q)] 23)).alloc (.cells #[.int .i64 0, .int .i64 0, .int .i64 0, .int .i64 0, .int .i64 0, .int .i64 0] 32)).cell? ⟨w.heap.size + 1, 5, none⟩ = some (.int .i64 0) := by simp [go_sem]
  have fb15 : ((w.alloc (.cells #[.int .i64 (x), .int .i64 (y), .int .u8 (q)] 23)).alloc (.cells #[.int .i64 0, .int .i64 0, .int .i64 0, .int .i64 0, .int .i64 0, .int .i64 0] 32)).frozen? ⟨w.heap.size + 1, 5, none⟩ = false := by simp [go_sem]
  generalize ((w.alloc (.cells #[.int .i64 (x), .int .i64 (y), .int .u8 (q)] 23)).alloc (.cells #[.int .i64 0, .int .i64 0, .int .i64 0, .int .i64 0, .int .i64 0, .int .i64 0] 32)) = W0 at *
  go_wp2_with (first | (go_at_call 14; with_reducible refine (ccheck_bad x y q _ H.out).mono ?_; rintro e wx ⟨rfl, hx⟩; obtain ⟨ux, rfl⟩ := after hx; clear hx) | fail)
  exact bodyPost_ret (v := .tuple #[.agg #[.int .i64 0, .int .i64 0, .int .i64 0, .int .i64 0, .int .i64 0, .int .i64 0], .int .i64 1]) (by simp [results, Tryd.results12, go_sem, b00, b01, b02, b10, b11, b12, b13, b14, b15]) rfl ⟨rfl, (by repeat first | (with_reducible exact hB0) | (with_reducible refine below_on ?_ _) | (with_reducible refine below_alloc ?_ _) | (with_reducible refine below_set ?_ (by simp; try omega) _))⟩

/-- -1 or 1 by two numbers, or what comes next if they are equal. -/
def cmp3 (a b n : Int) : Int := if a < b then -1 else if b < a then 1 else n
theorem cmp3_lt {a b n : Int} (h : a < b) : cmp3 a b n = -1 := if_pos h
theorem cmp3_gt {a b n : Int} (h : b < a) : cmp3 a b n = 1 := by unfold cmp3; rw [if_neg (by omega), if_pos h]
theorem cmp3_eq {a n : Int} : cmp3 a a n = n := by unfold cmp3; rw [if_neg (by omega), if_neg (by omega)]

set_option maxRecDepth 100000 in
set_option maxHeartbeats 2000000 in
theorem ordI (a b n : Int) (w : World) : Calls Tryd.prog 55 #[.int .i64 a, .int .i64 b, .int .i64 n] w fun r w' => r = .returned (.int .i64 (cmp3 a b n)) ∧ Below w.heap.size w w' := by
  rcases Int.lt_trichotomy a b with h | h | h
  · rw [cmp3_lt h]
    go_enter Tryd.func55, Tryd.ntmps55
    go_wp2
    go_ret
    exact ⟨rfl, (by repeat first | (with_reducible exact Below.refl _ _) | (with_reducible refine below_on ?_ _) | (with_reducible refine below_alloc ?_ _) | (with_reducible refine below_set ?_ (by simp; try omega) _))⟩
  · subst h
    rw [cmp3_eq]
    go_enter Tryd.func55, Tryd.ntmps55
    go_wp2
    go_ret
    exact ⟨rfl, (by repeat first | (with_reducible exact Below.refl _ _) | (with_reducible refine below_on ?_ _) | (with_reducible refine below_alloc ?_ _) | (with_reducible refine below_set ?_ (by simp; try omega) _))⟩
  · rw [cmp3_gt h]
    have h1 : ¬ a < b := by omega
    go_enter Tryd.func55, Tryd.ntmps55
    go_wp2
    go_ret
    exact ⟨rfl, (by repeat first | (with_reducible exact Below.refl _ _) | (with_reducible refine below_on ?_ _) | (with_reducible refine below_alloc ?_ _) | (with_reducible refine below_set ?_ (by simp; try omega) _))⟩

set_option maxRecDepth 100000 in
set_option maxHeartbeats 2000000 in
theorem ordU (a b n : Int) (w : World) : Calls Tryd.prog 56 #[.int .u8 a, .int .u8 b, .int .i64 n] w fun r w' => r = .returned (.int .i64 (cmp3 a b n)) ∧ Below w.heap.size w w' := by
  rcases Int.lt_trichotomy a b with h | h | h
  · rw [cmp3_lt h]
    go_enter Tryd.func56, Tryd.ntmps56
    go_wp2
    go_ret
    exact ⟨rfl, (by repeat first | (with_reducible exact Below.refl _ _) | (with_reducible refine below_on ?_ _) | (with_reducible refine below_alloc ?_ _) | (with_reducible refine below_set ?_ (by simp; try omega) _))⟩
  · subst h
    rw [cmp3_eq]
    go_enter Tryd.func56, Tryd.ntmps56
    go_wp2
    go_ret
    exact ⟨rfl, (by repeat first | (with_reducible exact Below.refl _ _) | (with_reducible refine below_on ?_ _) | (with_reducible refine below_alloc ?_ _) | (with_reducible refine below_set ?_ (by simp; try omega) _))⟩
  · rw [cmp3_gt h]
    have h1 : ¬ a < b := by omega
    go_enter Tryd.func56, Tryd.ntmps56
    go_wp2
    go_ret
    exact ⟨rfl, (by repeat first | (with_reducible exact Below.refl _ _) | (with_reducible refine below_on ?_ _) | (with_reducible refine below_alloc ?_ _) | (with_reducible refine below_set ?_ (by simp; try omega) _))⟩

set_option maxRecDepth 100000 in
set_option maxHeartbeats 2000000 in
theorem ccmp_any (x y q a b c : Int) (w : World)  : Calls Tryd.prog 31 #[cl x y q, cl a b c] w fun r w' => r = .returned (.int .i64 (cmp3 y b (cmp3 x a (cmp3 q c 0)))) ∧ Below w.heap.size w w' := by
  go_enter Tryd.func31, Tryd.ntmps31
  go_wp2_with fail
  have hB0 : Below w.heap.size w ((w.alloc (.cells #[.int .i64 (x), .int .i64 (y), .int .u8 (q)] 23)).alloc (.cells #[.int .i64 (a), .int .i64 (b), .int .u8 (c)] 23)) := (by repeat first | (with_reducible exact Below.refl _ _) | (with_reducible refine below_on ?_ _) | (with_reducible refine below_alloc ?_ _) | (with_reducible refine below_set ?_ (by simp; try omega) _))
  have b00 : ((w.alloc (.cells #[.int .i64 (x), .int .i64 (y), .int .u8 (q)] 23)).alloc (.cells #[.int .i64 (a), .int .i64 (b), .int .u8 (c)] 23)).cell? ⟨w.heap.size, 0, none⟩ = some (.int .i64 (x)) := by simp [go_sem]
  have b01 : ((w.alloc (.cells #[.int .i64 (x), .int .i64 (y), .int .u8 (q)] 23)).alloc (.cells #[.int .i64 (a), .int .i64 (b), .int .u8 (c)] 23)).cell? ⟨w.heap.size, 1, none⟩ = some (.int .i64 (y)) := by simp [go_sem]
  have b02 : ((w.alloc (.cells #[.int .i64 (x), .int .i64 (y), .int .u8 (q)] 23)).alloc (.cells #[.int .i64 (a), .int .i64 (b), .int .u8 (c)] 23)).cell? ⟨w.heap.size, 2, none⟩ = some (.int .u8 (q)) := by simp [go_sem]
  have b10 : ((w.alloc (.cells #[.int .i64 (x), .int .i64 (y), .int .u8 (q)] 23)).alloc (.cells #[.int .i64 (a), .int .i64 (b), .int .u8 (c)] 23)).cell? ⟨w.heap.size + 1, 0, none⟩ = some (.int .i64 (a)) := by simp [go_sem]
  have b11 : ((w.alloc (.cells #[.int .i64 (x), .int .i64 (y), .int .u8 (q)] 23)).alloc (.cells #[.int .i64 (a), .int .i64 (b), .int .u8 (c)] 23)).cell? ⟨w.heap.size + 1, 1, none⟩ = some (.int .i64 (b)) := by simp [go_sem]
  have b12 : ((w.alloc (.cells #[.int .i64 (x), .int .i64 (y), .int .u8 (q)] 23)).alloc (.cells #[.int .i64 (a), .int .i64 (b), .int .u8 (c)] 23)).cell? ⟨w.heap.size + 1, 2, none⟩ = some (.int .u8 (c)) := by simp [go_sem]
  generalize ((w.alloc (.cells #[.int .i64 (x), .int .i64 (y), .int .u8 (q)] 23)).alloc (.cells #[.int .i64 (a), .int .i64 (b), .int .u8 (c)] 23)) = W0 at *
  refine region_later (by kernel_rfl) (by kernel_rfl) ?_
  repeat (go_big_quiet_step ((first | (go_at_call 56; with_reducible exact Calls.later (ordU _ _ _ _)) | (go_at_call 55; with_reducible exact Calls.later (ordI _ _ _ _)) | fail)))
  refine wpQuiet_nil ?_
  rintro _ ⟨u9, rfl⟩
  go_wp2
  go_ret
  exact ⟨rfl, (by repeat first | (with_reducible exact hB0) | (with_reducible refine below_on ?_ _) | (with_reducible refine below_alloc ?_ _) | (with_reducible refine below_set ?_ (by simp; try omega) _))⟩

end Go.Proofs.YtgkiliijefkcaaaDoor
