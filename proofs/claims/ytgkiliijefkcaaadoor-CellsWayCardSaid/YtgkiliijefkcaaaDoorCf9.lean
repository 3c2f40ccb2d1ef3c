/-
  Says: what Move and Between of package cells give.
-/
import Derived.Test.YtgkiliijefkcaaaDoorCf8
set_option linter.unusedVariables false
set_option linter.unusedSimpArgs false
namespace Go.Proofs.YtgkiliijefkcaaaDoor
open Go Go.RowKit

attribute [local go_sem] World.cell?_alloc_some frozen?_alloc_cells fz0 fz1 fz2 fz3 fz4 fz5

set_option maxRecDepth 100000 in
set_option maxHeartbeats 2000000 in
theorem cmv_ok (t X Y x y q : Int) (w : World) (hL : Lay w) (a1 : 0 ≤ t) (a2 : t ≤ 7) (a3 : -16384 ≤ X) (a4 : X ≤ 16384) (a5 : -16384 ≤ Y) (a6 : Y ≤ 16384) (a7 : (X + Y) % 2 = 0)(c1 : -4096 ≤ x) (c2 : x ≤ 4096) (c3 : -4096 ≤ y) (c4 : y ≤ 4096) (c5 : 0 ≤ q) (c6 : q ≤ 3)(m1 : -4096 ≤ imX t X x y) (m2 : imX t X x y ≤ 4096) (m3 : -4096 ≤ imY t Y x y) (m4 : imY t Y x y ≤ 4096) : Calls Tryd.prog 25 #[mv t X Y, cl x y q] w fun e w' => e = .returned (.tuple #[cl (imX t X x y) (imY t Y x y) (imQ t q), .int .i64 0]) ∧ Below w.heap.size w w' := by
  obtain ⟨ir1, ir2⟩ := imQ_range t q
  have HA : Hid ((X + Y) % 2 = 0) := a7
  clear a7
  have hL' : ∀ W, Below w.heap.size w W → Lay W := fun W h => lay_below hL h
  go_enter Tryd.func25, Tryd.ntmps25
  go_wp2_with fail
  have hB0 : Below w.heap.size w (((w.alloc (.cells #[.int .u8 t, .int .i64 X, .int .i64 Y] 54)).alloc (.cells #[.int .i64 (x), .int .i64 (y), .int .u8 (q)] 23)).alloc (.cells #[.int .i64 0, .int .i64 0, .int .u8 0] 23)) := (by repeat first | (with_reducible exact Below.refl _ _) | (with_reducible refine below_on ?_ _) | (with_reducible refine below_alloc ?_ _) | (with_reducible refine below_set ?_ (by simp; try omega) _))
  have b00 : (((w.alloc (.cells #[.int .u8 t, .int .i64 X, .int .i64 Y] 54)).alloc (.cells #[.int .i64 (x), .int .i64 (y), .int .u8 (q)] 23)).alloc (.cells #[.int .i64 0, .int .i64 0, .int .u8 0] 23)).cell? ⟨w.heap.size, 0, none⟩ = some (.int .u8 t) := by simp [go_sem]
  have b01 : (((w.alloc (.cells #[.int .u8 t, .int .i64 X, .int .i64 Y] 54)).alloc (.cells #[.int .i64 (x), .int .i64 (y), .int .u8 (q)] 23)).alloc (.cells #[.int .i64 0, .int .i64 0, .int .u8 0] 23)).cell? ⟨w.heap.size, 1, none⟩ = some (.int .i64 X) := by simp [go_sem]
  have b02 : (((w.alloc (.cells #[.int .u8 t, .int .i64 X, .int .i64 Y] 54)).alloc (.cells #[.int .i64 (x), .int .i64 (y), .int .u8 (q)] 23)).alloc (.cells #[.int .i64 0, .int .i64 0, .int .u8 0] 23)).cell? ⟨w.heap.size, 2, none⟩ = some (.int .i64 Y) := by simp [go_sem]
  have b10 : (((w.alloc (.cells #[.int .u8 t, .int .i64 X, .int .i64 Y] 54)).alloc (.cells #[.int .i64 (x), .int .i64 (y), .int .u8 (q)] 23)).alloc (.cells #[.int .i64 0, .int .i64 0, .int .u8 0] 23)).cell? ⟨w.heap.size + 1, 0, none⟩ = some (.int .i64 (x)) := by simp [go_sem]
  have b11 : (((w.alloc (.cells #[.int .u8 t, .int .i64 X, .int .i64 Y] 54)).alloc (.cells #[.int .i64 (x), .int .i64 (y), .int .u8 (q)] 23)).alloc (.cells #[.int .i64 0, .int .i64 0, .int .u8 0] 23)).cell? ⟨w.heap.size + 1, 1, none⟩ = some (.int .i64 (y)) := by simp [go_sem]
  have b12 : (((w.alloc (.cells #[.int .u8 t, .int .i64 X, .int .i64 Y] 54)).alloc (.cells #[.int .i64 (x), .int .i64 (y), .int .u8 (q)] 23)).alloc (.cells #[.int .i64 0, .int .i64 0, .int .u8 0] 23)).cell? ⟨w.heap.size + 1, 2, none⟩ = some (.int .u8 (q)) := by simp [go_sem]
  have b20 : (((w.alloc (.cells #[.int .u8 t, .int .i64 X, .int .i64 Y] 54)).alloc (.cells #[.int .i64 (x), .int .i64 (y), .int .u8 (q)] 23)).alloc (.cells #[.int .i64 0, .int .i64 0, .int .u8 0] 23)).cell? ⟨w.heap.size + 1 + 1, 0, none⟩ = some (.int .i64 0) := by simp [go_sem]
  have fb20 : (((w.alloc (.cells #[.int .u8 t, .int .i64 X, .int .i64 Y] 54)).alloc (.cells #[.int .i64 (x), .int .i64 (y), .int .u8 (q)] 23)).alloc (.cells #[.int .i64 0, .int .i64 0, .int .u8 0] 23)).frozen? ⟨w.heap.size + 1 + 1, 0, none⟩ = false := by simp [go_sem]
  have b21 : (((w.alloc (.cells #[.int .u8 t, .int .i64 X, .int .i64 Y] 54)).alloc (.cells #[.int .i64 (x), .int .i64 (y), .int .u8 (q)] 23)).alloc (.cells #[.int .i64 0, .int .i64 0, .int .u8 0] 23)).cell? ⟨w.heap.size + 1 + 1, 1, none⟩ = some (.int .i64 0) := by simp [go_sem]
  have fb21 : (((w.alloc (.cells #[.int .u8 t, .int .i64 X, .int .i64 Y] 54)).alloc (.cells #[.int .i64 (x), .int .i64 (y), .int .u8 (q)] 23)).alloc (.cells #[.int .i64 0, .int .i64 0, .int .u8 0] 23)).frozen? ⟨w.heap.size + 1 + 1, 1, none⟩ = false := by simp [go_sem]
  have b22 : (((w.alloc (.cells #[.int .u8 t, .int .i64 X, .int .i64 Y] 54)).alloc (.cells #[.int .i64 (x), .int .i64 (y), .int .u8 (q)] 23)).alloc (.cells #[.int .i64 0, .int .i64 0, .int .u8 0] 23)).cell? ⟨w.heap.size + 1 + 1, 2, none⟩ = some (.int .u8 0) := by simp [go_sem]
  have fb22 : (((w.alloc (.cells #[.int .u8 t, .int .i64 X, .int .i64 Y] 54)).alloc (.cells #[.int .i64 (x), .int .i64 (y), .int .u8 (q)] 23)).alloc (.cells #[.int .i64 0, .int .i64 0, .int .u8 0] 23)).frozen? ⟨w.heap.size + 1 + 1, 2, none⟩ = false := by simp [go_sem]
  generalize (((w.alloc (.cells #[.int .u8 t, .int .i64 X, .int .i64 Y] 54)).alloc (.cells #[.int .i64 (x), .int .i64 (y), .int .u8 (q)] 23)).alloc (.cells #[.int .i64 0, .int .i64 0, .int .u8 0] 23)) = W0 at *
  go_wp2_with (first | (go_at_call 52; with_reducible refine (mcheck_ok t X Y _ a1 a2 a3 a4 a5 a6 HA.out).mono ?_; rintro e wx ⟨rfl, hx⟩; obtain ⟨ux, rfl⟩ := after hx; clear hx) | fail)
  have hR : Below (W0).heap.size (W0) (on ux) := by repeat first | (with_reducible exact Below.refl _ _) | (with_reducible refine below_on ?_ _) | (with_reducible refine below_alloc ?_ _)
  have cR : ∀ {b i : Nat} {v : Value}, (W0).cell? ⟨b, i, none⟩ = some v → (on ux).cell? ⟨b, i, none⟩ = some v := fun h => (hR.cell (World.block_lt_of_cell? _ _ h)).trans h
  have fR : ∀ {b i : Nat} {v : Value}, (W0).cell? ⟨b, i, none⟩ = some v → (W0).frozen? ⟨b, i, none⟩ = false → (on ux).frozen? ⟨b, i, none⟩ = false := fun h g => (hR.frozen (World.block_lt_of_cell? _ _ h)).trans g
  have b00' := cR b00
  have b01' := cR b01
  have b02' := cR b02
  have b10' := cR b10
  have b11' := cR b11
  have b12' := cR b12
  have b20' := cR b20
  have fb20' := fR b20 fb20
  have b21' := cR b21
  have fb21' := fR b21 fb21
  have b22' := cR b22
  have fb22' := fR b22 fb22
  have hB1 : Below w.heap.size w (on ux) := by repeat first | (with_reducible exact hB0) | (with_reducible refine below_on ?_ _) | (with_reducible refine below_alloc ?_ _)
  clear hR cR fR b00 b01 b02 b10 b11 b12 b20 b21 b22 fb20 fb21 fb22 hB0
  generalize (on ux) = W1 at *
  clear ux
  go_wp2_with (first | (go_at_call 14; with_reducible refine (ccheck_ok x y q _ c1 c2 c3 c4 c5 c6).mono ?_; rintro e wx ⟨rfl, hx⟩; obtain ⟨ux, rfl⟩ := after hx; clear hx) | fail)
  have hR : Below (W1).heap.size (W1) (on ux) := by repeat first | (with_reducible exact Below.refl _ _) | (with_reducible refine below_on ?_ _) | (with_reducible refine below_alloc ?_ _)
  have cR : ∀ {b i : Nat} {v : Value}, (W1).cell? ⟨b, i, none⟩ = some v → (on ux).cell? ⟨b, i, none⟩ = some v := fun h => (hR.cell (World.block_lt_of_cell? _ _ h)).trans h
  have fR : ∀ {b i : Nat} {v : Value}, (W1).cell? ⟨b, i, none⟩ = some v → (W1).frozen? ⟨b, i, none⟩ = false → (on ux).frozen? ⟨b, i, none⟩ = false := fun h g => (hR.frozen (World.block_lt_of_cell? _ _ h)).trans g
  have b00'' := cR b00'
  have b01'' := cR b01'
  have b02'' := cR b02'
  have b10'' := cR b10'
  have b11'' := cR b11'
  have b12'' := cR b12'
  have b20'' := cR b20'
  have fb20'' := fR b20' fb20'
  have b21'' := cR b21'
  have fb21'' := fR b21' fb21'
  have b22'' := cR b22'
  have fb22'' := fR b22' fb22'
  have hB2 : Below w.heap.size w (on ux) := by repeat first | (with_reducible exact hB1) | (with_reducible refine below_on ?_ _) | (with_reducible refine below_alloc ?_ _)
  clear hR cR fR b00' b01' b02' b10' b11' b12' b20' b21' b22' fb20' fb21' fb22' hB1
  generalize (on ux) = W2 at *
  clear ux
  go_wp2_with (first | (go_at_call 53; with_reducible refine (moved_any t X Y x y q _ (hL' _ (by repeat first | (with_reducible exact hB2) | (with_reducible refine below_on ?_ _) | (with_reducible refine below_alloc ?_ _) | (with_reducible refine below_set ?_ (by simp; try omega) _))) a1 a2 a3 a4 a5 a6 HA.out (by omega) (by omega) (by omega) (by omega) c5 c6).mono ?_; rintro e wx ⟨rfl, hx⟩; obtain ⟨ux, rfl⟩ := after hx; clear hx) | fail)
  have hR : Below (W2).heap.size (W2) (on ux) := by repeat first | (with_reducible exact Below.refl _ _) | (with_reducible refine below_on ?_ _) | (with_reducible refine below_alloc ?_ _)
  have cR : ∀ {b i : Nat} {v : Value}, (W2).cell? ⟨b, i, none⟩ = some v → (on ux).cell? ⟨b, i, none⟩ = some v := fun h => (hR.cell (World.block_lt_of_cell? _ _ h)).trans h
  have fR : ∀ {b i : Nat} {v : Value}, (W2).cell? ⟨b, i, none⟩ = some v → (W2).frozen? ⟨b, i, none⟩ = false → (on ux).frozen? ⟨b, i, none⟩ = false := fun h g => (hR.frozen (World.block_lt_of_cell? _ _ h)).trans g
  have b00''' := cR b00''
  have b01''' := cR b01''
  have b02''' := cR b02''
  have b10''' := cR b10''
  have b11''' := cR b11''
  have b12''' := cR b12''
  have b20''' := cR b20''
  have fb20''' := fR b20'' fb20''
  have b21''' := cR b21''
  have fb21''' := fR b21'' fb21''
  have b22''' := cR b22''
  have fb22''' := fR b22'' fb22''
  have hB3 : Below w.heap.size w (on ux) := by repeat first | (with_reducible exact hB2) | (with_reducible refine below_on ?_ _) | (with_reducible refine below_alloc ?_ _)
  clear hR cR fR b00'' b01'' b02'' b10'' b11'' b12'' b20'' b21'' b22'' fb20'' fb21'' fb22'' hB2
  generalize (on ux) = W3 at *
  clear ux
  go_wp2_with (first | (go_at_call 47; with_reducible refine (clim_ok (imX t X x y) (imY t Y x y) (imQ t q) _ m1 m2 m3 m4 ir1 ir2).mono ?_; rintro e wx ⟨rfl, hx⟩; obtain ⟨ux, rfl⟩ := after hx; clear hx) | fail)
  exact bodyPost_ret (v := .tuple #[cl (imX t X x y) (imY t Y x y) (imQ t q), .int .i64 0]) (by simp [results, Tryd.results25, go_sem, b00''', b01''', b02''', b10''', b11''', b12''', b20''', b21''', b22''']) rfl ⟨rfl, (by repeat first | (with_reducible exact hB3) | (with_reducible refine below_on ?_ _) | (with_reducible refine below_alloc ?_ _) | (with_reducible refine below_set ?_ (by simp; try omega) _))⟩

set_option maxRecDepth 100000 in
set_option maxHeartbeats 2000000 in
theorem cmv_far (t X Y x y q : Int) (w : World) (hL : Lay w) (a1 : 0 ≤ t) (a2 : t ≤ 7) (a3 : -16384 ≤ X) (a4 : X ≤ 16384) (a5 : -16384 ≤ Y) (a6 : Y ≤ 16384) (a7 : (X + Y) % 2 = 0)(c1 : -4096 ≤ x) (c2 : x ≤ 4096) (c3 : -4096 ≤ y) (c4 : y ≤ 4096) (c5 : 0 ≤ q) (c6 : q ≤ 3)(hm : imX t X x y < -4096 ∨ 4096 < imX t X x y ∨ imY t Y x y < -4096 ∨ 4096 < imY t Y x y) : Calls Tryd.prog 25 #[mv t X Y, cl x y q] w fun e w' => e = .returned (.tuple #[cl 0 0 0, .int .i64 3]) ∧ Below w.heap.size w w' := by
  obtain ⟨ir1, ir2⟩ := imQ_range t q
  have HM : Hid (imX t X x y < -4096 ∨ 4096 < imX t X x y ∨ imY t Y x y < -4096 ∨ 4096 < imY t Y x y) := hm
  clear hm
  have HA : Hid ((X + Y) % 2 = 0) := a7
  clear a7
  have hL' : ∀ W, Below w.heap.size w W → Lay W := fun W h => lay_below hL h
  go_enter Tryd.func25, Tryd.ntmps25
  go_wp2_with fail
  have hB0 : Below w.heap.size w (((w.alloc (.cells #[.int .u8 t, .int .i64 X, .int .i64 Y] 54)).alloc (.cells #[.int .i64 (x), .int .i64 (y), .int .u8 (q)] 23)).alloc (.cells #[.int .i64 0, .int .i64 0, .int .u8 0] 23)) := (by repeat first | (with_reducible exact Below.refl _ _) | (with_reducible refine below_on ?_ _) | (with_reducible refine below_alloc ?_ _) | (with_reducible refine below_set ?_ (by simp; try omega) _))
  have b00 : (((w.alloc (.cells #[.int .u8 t, .int .i64 X, .int .i64 Y] 54)).alloc (.cells #[.int .i64 (x), .int .i64 (y), .int .u8 (q)] 23)).alloc (.cells #[.int .i64 0, .int .i64 0, .int .u8 0] 23)).cell? ⟨w.heap.size, 0, none⟩ = some (.int .u8 t) := by simp [go_sem]
  have b01 : (((w.alloc (.cells #[.int .u8 t, .int .i64 X, .int .i64 Y] 54)).alloc (.cells #[.int .i64 (x), .int .i64 (y), .int .u8 (q)] 23)).alloc (.cells #[.int .i64 0, .int .i64 0, .int .u8 0] 23)).cell? ⟨w.heap.size, 1, none⟩ = some (.int .i64 X) := by simp [go_sem]
  have b02 : (((w.alloc (.cells #[.int .u8 t, .int .i64 X, .int .i64 Y] 54)).alloc (.cells #[.int .i64 (x), .int .i64 (y), .int .u8 (q)] 23)).alloc (.cells #[.int .i64 0, .int .i64 0, .int .u8 0] 23)).cell? ⟨w.heap.size, 2, none⟩ = some (.int .i64 Y) := by simp [go_sem]
  have b10 : (((w.alloc (.cells #[.int .u8 t, .int .i64 X, .int .i64 Y] 54)).alloc (.cells #[.int .i64 (x), .int .i64 (y), .int .u8 (q)] 23)).alloc (.cells #[.int .i64 0, .int .i64 0, .int .u8 0] 23)).cell? ⟨w.heap.size + 1, 0, none⟩ = some (.int .i64 (x)) := by simp [go_sem]
  have b11 : (((w.alloc (.cells #[.int .u8 t, .int .i64 X, .int .i64 Y] 54)).alloc (.cells #[.int .i64 (x), .int .i64 (y), .int .u8 (q)] 23)).alloc (.cells #[.int .i64 0, .int .i64 0, .int .u8 0] 23)).cell? ⟨w.heap.size + 1, 1, none⟩ = some (.int .i64 (y)) := by simp [go_sem]
  have b12 : (((w.alloc (.cells #[.int .u8 t, .int .i64 X, .int .i64 Y] 54)).alloc (.cells #[.int .i64 (x), .int .i64 (y), .int .u8 (q)] 23)).alloc (.cells #[.int .i64 0, .int .i64 0, .int .u8 0] 23)).cell? ⟨w.heap.size + 1, 2, none⟩ = some (.int .u8 (q)) := by simp [go_sem]
  have b20 : (((w.alloc (.cells #[.int .u8 t, .int .i64 X, .int .i64 Y] 54)).alloc (.cells #[.int .i64 (x), .int .i64 (y), .int .u8 (q)] 23)).alloc (.cells #[.int .i64 0, .int .i64 0, .int .u8 0] 23)).cell? ⟨w.heap.size + 1 + 1, 0, none⟩ = some (.int .i64 0) := by simp [go_sem]
  have fb20 : (((w.alloc (.cells #[.int .u8 t, .int .i64 X, .int .i64 Y] 54)).alloc (.cells #[.int .i64 (x), .int .i64 (y), .int .u8 (q)] 23)).alloc (.cells #[.int .i64 0, .int .i64 0, .int .u8 0] 23)).frozen? ⟨w.heap.size + 1 + 1, 0, none⟩ = false := by simp [go_sem]
  have b21 : (((w.alloc (.cells #[.int .u8 t, .int .i64 X, .int .i64 Y] 54)).alloc (.cells #[.int .i64 (x), .int .i64 (y), .int .u8 (q)] 23)).alloc (.cells #[.int .i64 0, .int .i64 0, .int .u8 0] 23)).cell? ⟨w.heap.size + 1 + 1, 1, none⟩ = some (.int .i64 0) := by simp [go_sem]
  have fb21 : (((w.alloc (.cells #[.int .u8 t, .int .i64 X, .int .i64 Y] 54)).alloc (.cells #[.int .i64 (x), .int .i64 (y), .int .u8 (q)] 23)).alloc (.cells #[.int .i64 0, .int .i64 0, .int .u8 0] 23)).frozen? ⟨w.heap.size + 1 + 1, 1, none⟩ = false := by simp [go_sem]
  have b22 : (((w.alloc (.cells #[.int .u8 t, .int .i64 X, .int .i64 Y] 54)).alloc (.cells #[.int .i64 (x), .int .i64 (y), .int .u8 (q)] 23)).alloc (.cells #[.int .i64 0, .int .i64 0, .int .u8 0] 23)).cell? ⟨w.heap.size + 1 + 1, 2, none⟩ = some (.int .u8 0) := by simp [go_sem]
  have fb22 : (((w.alloc (.cells #[.int .u8 t, .int .i64 X, .int .i64 Y] 54)).alloc (.cells #[.int .i64 (x), .int .i64 (y), .int .u8 (q)] 23)).alloc (.cells #[.int .i64 0, .int .i64 0, .int .u8 0] 23)).frozen? ⟨w.heap.size + 1 + 1, 2, none⟩ = false := by simp [go_sem]
  generalize (((w.alloc (.cells #[.int .u8 t, .int .i64 X, .int .i64 Y] 54)).alloc (.cells #[.int .i64 (x), .int .i64 (y), .int .u8 (q)] 23)).alloc (.cells #[.int .i64 0, .int .i64 0, .int .u8 0] 23)) = W0 at *
  go_wp2_with (first | (go_at_call 52; with_reducible refine (mcheck_ok t X Y _ a1 a2 a3 a4 a5 a6 HA.out).mono ?_; rintro e wx ⟨rfl, hx⟩; obtain ⟨ux, rfl⟩ := after hx; clear hx) | fail)
  have hR : Below (W0).heap.size (W0) (on ux) := by repeat first | (with_reducible exact Below.refl _ _) | (with_reducible refine below_on ?_ _) | (with_reducible refine below_alloc ?_ _)
  have cR : ∀ {b i : Nat} {v : Value}, (W0).cell? ⟨b, i, none⟩ = some v → (on ux).cell? ⟨b, i, none⟩ = some v := fun h => (hR.cell (World.block_lt_of_cell? _ _ h)).trans h
  have fR : ∀ {b i : Nat} {v : Value}, (W0).cell? ⟨b, i, none⟩ = some v → (W0).frozen? ⟨b, i, none⟩ = false → (on ux).frozen? ⟨b, i, none⟩ = false := fun h g => (hR.frozen (World.block_lt_of_cell? _ _ h)).trans g
  have b00' := cR b00
  have b01' := cR b01
  have b02' := cR b02
  have b10' := cR b10
  have b11' := cR b11
  have b12' := cR b12
  have b20' := cR b20
  have fb20' := fR b20 fb20
  have b21' := cR b21
  have fb21' := fR b21 fb21
  have b22' := cR b22
  have fb22' := fR b22 fb22
  have hB1 : Below w.heap.size w (on ux) := by repeat first | (with_reducible exact hB0) | (with_reducible refine below_on ?_ _) | (with_reducible refine below_alloc ?_ _)
  clear hR cR fR b00 b01 b02 b10 b11 b12 b20 b21 b22 fb20 fb21 fb22 hB0
  generalize (on ux) = W1 at *
  clear ux
  go_wp2_with (first | (go_at_call 14; with_reducible refine (ccheck_ok x y q _ c1 c2 c3 c4 c5 c6).mono ?_; rintro e wx ⟨rfl, hx⟩; obtain ⟨ux, rfl⟩ := after hx; clear hx) | fail)
  have hR : Below (W1).heap.size (W1) (on ux) := by repeat first | (with_reducible exact Below.refl _ _) | (with_reducible refine below_on ?_ _) | (with_reducible refine below_alloc ?_ _)
  have cR : ∀ {b i : Nat} {v : Value}, (W1).cell? ⟨b, i, none⟩ = some v → (on ux).cell? ⟨b, i, none⟩ = some v := fun h => (hR.cell (World.block_lt_of_cell? _ _ h)).trans h
  have fR : ∀ {b i : Nat} {v : Value}, (W1).cell? ⟨b, i, none⟩ = some v → (W1).frozen? ⟨b, i, none⟩ = false → (on ux).frozen? ⟨b, i, none⟩ = false := fun h g => (hR.frozen (World.block_lt_of_cell? _ _ h)).trans g
  have b00'' := cR b00'
  have b01'' := cR b01'
  have b02'' := cR b02'
  have b10'' := cR b10'
  have b11'' := cR b11'
  have b12'' := cR b12'
  have b20'' := cR b20'
  have fb20'' := fR b20' fb20'
  have b21'' := cR b21'
  have fb21'' := fR b21' fb21'
  have b22'' := cR b22'
  have fb22'' := fR b22' fb22'
  have hB2 : Below w.heap.size w (on ux) := by repeat first | (with_reducible exact hB1) | (with_reducible refine below_on ?_ _) | (with_reducible refine below_alloc ?_ _)
  clear hR cR fR b00' b01' b02' b10' b11' b12' b20' b21' b22' fb20' fb21' fb22' hB1
  generalize (on ux) = W2 at *
  clear ux
  go_wp2_with (first | (go_at_call 53; with_reducible refine (moved_any t X Y x y q _ (hL' _ (by repeat first | (with_reducible exact hB2) | (with_reducible refine below_on ?_ _) | (with_reducible refine below_alloc ?_ _) | (with_reducible refine below_set ?_ (by simp; try omega) _))) a1 a2 a3 a4 a5 a6 HA.out (by omega) (by omega) (by omega) (by omega) c5 c6).mono ?_; rintro e wx ⟨rfl, hx⟩; obtain ⟨ux, rfl⟩ := after hx; clear hx) | fail)
  have hR : Below (W2).heap.size (W2) (on ux) := by repeat first | (with_reducible exact Below.refl _ _) | (with_reducible refine below_on ?_ _) | (with_reducible refine below_alloc ?_ _)
  have cR : ∀ {b i : Nat} {v : Value}, (W2).cell? ⟨b, i, none⟩ = some v → (on ux).cell? ⟨b, i, none⟩ = some v := fun h => (hR.cell (World.block_lt_of_cell? _ _ h)).trans h
  have fR : ∀ {b i : Nat} {v : Value}, (W2).cell? ⟨b, i, none⟩ = some v → (W2).frozen? ⟨b, i, none⟩ = false → (on ux).frozen? ⟨b, i, none⟩ = false := fun h g => (hR.frozen (World.block_lt_of_cell? _ _ h)).trans g
  have b00''' := cR b00''
  have b01''' := cR b01''
  have b02''' := cR b02''
  have b10''' := cR b10''
  have b11''' := cR b11''
  have b12''' := cR b12''
  have b20''' := cR b20''
  have fb20''' := fR b20'' fb20''
  have b21''' := cR b21''
  have fb21''' := fR b21'' fb21''
  have b22''' := cR b22''
  have fb22''' := fR b22'' fb22''
  have hB3 : Below w.heap.size w (on ux) := by repeat first | (with_reducible exact hB2) | (with_reducible refine below_on ?_ _) | (with_reducible refine below_alloc ?_ _)
  clear hR cR fR b00'' b01'' b02'' b10'' b11'' b12'' b20'' b21'' b22'' fb20'' fb21'' fb22'' hB2
  generalize (on ux) = W3 at *
  clear ux
  go_wp2_with (first | (go_at_call 47; with_reducible refine (clim_bad (imX t X x y) (imY t Y x y) (imQ t q) _ (.inr HM.out)).mono ?_; rintro e wx ⟨rfl, hx⟩; obtain ⟨ux, rfl⟩ := after hx; clear hx) | fail)
  exact bodyPost_ret (v := .tuple #[cl 0 0 0, .int .i64 3]) (by simp [results, Tryd.results25, go_sem, b00''', b01''', b02''', b10''', b11''', b12''', b20''', b21''', b22''']) rfl ⟨rfl, (by repeat first | (with_reducible exact hB3) | (with_reducible refine below_on ?_ _) | (with_reducible refine below_alloc ?_ _) | (with_reducible refine below_set ?_ (by simp; try omega) _))⟩

set_option maxRecDepth 100000 in
set_option maxHeartbeats 2000000 in
theorem cmv_bad1 (t X Y x y q : Int) (w : World) (h : 7 < t ∨ X < -16384 ∨ 16384 < X ∨ Y < -16384 ∨ 16384 < Y ∨ (X + Y) % 2 ≠ 0) : Calls Tryd.prog 25 #[mv t X Y, cl x y q] w fun e w' => e = .returned (.tuple #[cl 0 0 0, .int .i64 1]) ∧ Below w.heap.size w w' := by
  have H : Hid (7 < t ∨ X < -16384 ∨ 16384 < X ∨ Y < -16384 ∨ 16384 < Y ∨ (X + Y) % 2 ≠ 0) := h
  clear h
  go_enter Tryd.func25, Tryd.ntmps25
  go_wp2_with fail
  have hB0 : Below w.heap.size w (((w.alloc (.cells #[.int .u8 t, .int .i64 X, .int .i64 Y] 54)).alloc (.cells #[.int .i64 (x), .int .i64 (y), .int .u8 (q)] 23)).alloc (.cells #[.int .i64 0, .int .i64 0, .int .u8 0] 23)) := (by repeat first | (with_reducible exact Below.refl _ _) | (with_reducible refine below_on ?_ _) | (with_reducible refine below_alloc ?_ _) | (with_reducible refine below_set ?_ (by simp; try omega) _))
  have b00 : (((w.alloc (.cells #[.int .u8 t, .int .i64 X, .int .i64 Y] 54)).alloc (.cells #[.int .i64 (x), .int .i64 (y), .int .u8 (q)] 23)).alloc (.cells #[.int .i64 0, .int .i64 0, .int .u8 0] 23)).cell? ⟨w.heap.size, 0, none⟩ = some (.int .u8 t) := by simp [go_sem]
  have b01 : (((w.alloc (.cells #[.int .u8 t, .int .i64 X, .int .i64 Y] 54)).alloc (.cells #[.int .i64 (x), .int .i64 (y), .int .u8 (q)] 23)).alloc (.cells #[.int .i64 0, .int .i64 0, .int .u8 0] 23)).cell? ⟨w.heap.size, 1, none⟩ = some (.int .i64 X) := by simp [go_sem]
  have b02 : (((w.alloc (.cells #[.int .u8 t, .int .i64 X, .int .i64 Y] 54)).alloc (.cells #[.int .i64 (x), .int .i64 (y), .int .u8 (q)] 23)).alloc (.cells #[.int .i64 0, .int .i64 0, .int .u8 0] 23)).cell? ⟨w.heap.size, 2, none⟩ = some (.int .i64 Y) := by simp [go_sem]
  have b10 : (((w.alloc (.cells #[.int .u8 t, .int .i64 X, .int .i64 Y] 54)).alloc (.cells #[.int .i64 (x), .int .i64 (y), .int .u8 (q)] 23)).alloc (.cells #[.int .i64 0, .int .i64 0, .int .u8 0] 23)).cell? ⟨w.heap.size + 1, 0, none⟩ = some (.int .i64 (x)) := by simp [go_sem]
  have b11 : (((w.alloc (.cells #[.int .u8 t, .int .i64 X, .int .i64 Y] 54)).alloc (.cells #[.int .i64 (x), .int .i64 (y), .int .u8 (q)] 23)).alloc (.cells #[.int .i64 0, .int .i64 0, .int .u8 0] 23)).cell? ⟨w.heap.size + 1, 1, none⟩ = some (.int .i64 (y)) := by simp [go_sem]
  have b12 : (((w.alloc (.cells #[.int .u8 t, .int .i64 X, .int .i64 Y] 54)).alloc (.cells #[.int .i64 (x), .int .i64 (y), .int .u8 (q)] 23)).alloc (.cells #[.int .i64 0, .int .i64 0, .int .u8 0] 23)).cell? ⟨w.heap.size + 1, 2, none⟩ = some (.int .u8 (q)) := by simp [go_sem]
  have b20 : (((w.alloc (.cells #[.int .u8 t, .int .i64 X, .int .i64 Y] 54)).alloc (.cells #[.int .i64 (x), .int .i64 (y), .int .u8 (q)] 23)).alloc (.cells #[.int .i64 0, .int .i64 0, .int .u8 0] 23)).cell? ⟨w.heap.size + 1 + 1, 0, none⟩ = some (.int .i64 0) := by simp [go_sem]
  have fb20 : (((w.alloc (.cells #[.int .u8 t, .int .i64 X, .int .i64 Y] 54)).alloc (.cells #[.int .i64 (x), .int .i64 (y), .int .u8 (q)] 23)).alloc (.cells #[.int .i64 0, .int .i64 0, .int .u8 0] 23)).frozen? ⟨w.heap.size + 1 + 1, 0, none⟩ = false := by simp [go_sem]
  have b21 : (((w.alloc (.cells #[.int .u8 t, .int .i64 X, .int .i64 Y] 54)).alloc (.cells #[.int .i64 (x), .int .i64 (y), .int .u8 (q)] 23)).alloc (.cells #[.int .i64 0, .int .i64 0, .int .u8 0] 23)).cell? ⟨w.heap.size + 1 + 1, 1, none⟩ = some (.int .i64 0) := by simp [go_sem]
  have fb21 : (((w.alloc (.cells #[.int .u8 t, .int .i64 X, .int .i64 Y] 54)).alloc (.cells #[.int .i64 (x), .int .i64 (y), .int .u8 (q)] 23)).alloc (.cells #[.int .i64 0, .int .i64 0, .int .u8 0] 23)).frozen? ⟨w.heap.size + 1 + 1, 1, none⟩ = false := by simp [go_sem]
  have b22 : (((w.alloc (.cells #[.int .u8 t, .int .i64 X, .int .i64 Y] 54)).alloc (.cells #[.int .i64 (x), .int .i64 (y), .int .u8 (q)] 23)).alloc (.cells #[.int .i64 0, .int .i64 0, .int .u8 0] 23)).cell? ⟨w.heap.size + 1 + 1, 2, none⟩ = some (.int .u8 0) := by simp [go_sem]
  have fb22 : (((w.alloc (.cells #[.int .u8 t, .int .i64 X, .int .i64 Y] 54)).alloc (.cells #[.int .i64 (x), .int .i64 (y), .int .u8 (q)] 23)).alloc (.cells #[.int .i64 0, .int .i64 0, .int .u8 0] 23)).frozen? ⟨w.heap.size + 1 + 1, 2, none⟩ = false := by simp [go_sem]
  generalize (((w.alloc (.cells #[.int .u8 t, .int .i64 X, .int .i64 Y] 54)).alloc (.cells #[.int .i64 (x), .int .i64 (y), .int .u8 (q)] 23)).alloc (.cells #[.int .i64 0, .int .i64 0, .int .u8 0] 23)) = W0 at *
  go_wp2_with (first | (go_at_call 52; with_reducible refine (mcheck_bad t X Y _ H.out).mono ?_; rintro e wx ⟨rfl, hx⟩; obtain ⟨ux, rfl⟩ := after hx; clear hx) | fail)
  exact bodyPost_ret (v := .tuple #[cl 0 0 0, .int .i64 1]) (by simp [results, Tryd.results25, go_sem, b00, b01, b02, b10, b11, b12, b20, b21, b22]) rfl ⟨rfl, (by repeat first | (with_reducible exact hB0) | (with_reducible refine below_on ?_ _) | (with_reducible refine below_alloc ?_ _) | (with_reducible refine below_set ?_ (by simp; try omega) _))⟩

set_option maxRecDepth 100000 in
set_option maxHeartbeats 2000000 in
theorem cmv_bad2 (t X Y x y q : Int) (w : World) (a1 : 0 ≤ t) (a2 : t ≤ 7) (a3 : -16384 ≤ X) (a4 : X ≤ 16384) (a5 : -16384 ≤ Y) (a6 : Y ≤ 16384) (a7 : (X + Y) % 2 = 0) (h : 3 < q ∨ x < -4096 ∨ 4096 < x ∨ y < -4096 ∨ 4096 < y) : Calls Tryd.prog 25 #[mv t X Y, cl x y q] w fun e w' => e = .returned (.tuple #[cl 0 0 0, .int .i64 1]) ∧ Below w.heap.size w w' := by
  have HA : Hid ((X + Y) % 2 = 0) := a7
  clear a7
  have H : Hid (3 < q ∨ x < -4096 ∨ 4096 < x ∨ y < -4096 ∨ 4096 < y) := h
  clear h
  go_enter Tryd.func25, Tryd.ntmps25
  go_wp2_with fail
  have hB0 : Below w.heap.size w (((w.alloc (.cells #[.int .u8 t, .int .i64 X, .int .i64 Y] 54)).alloc (.cells #[.int .i64 (x), .int .i64 (y), .int .u8 (q)] 23)).alloc (.cells #[.int .i64 0, .int .i64 0, .int .u8 0] 23)) := (by repeat first | (with_reducible exact Below.refl _ _) | (with_reducible refine below_on ?_ _) | (with_reducible refine below_alloc ?_ _) | (with_reducible refine below_set ?_ (by simp; try omega) _))
  have b00 : (((w.alloc (.cells #[.int .u8 t, .int .i64 X, .int .i64 Y] 54)).alloc (.cells #[.int .i64 (x), .int .i64 (y), .int .u8 (q)] 23)).alloc (.cells #[.int .i64 0, .int .i64 0, .int .u8 0] 23)).cell? ⟨w.heap.size, 0, none⟩ = some (.int .u8 t) := by simp [go_sem]
  have b01 : (((w.alloc (.cells #[.int .u8 t, .int .i64 X, .int .i64 Y] 54)).alloc (.cells #[.int .i64 (x), .int .i64 (y), .int .u8 (q)] 23)).alloc (.cells #[.int .i64 0, .int .i64 0, .int .u8 0] 23)).cell? ⟨w.heap.size, 1, none⟩ = some (.int .i64 X) := by simp [go_sem]
  have b02 : (((w.alloc (.cells #[.int .u8 t, .int .i64 X, .int .i64 Y] 54)).alloc (.cells #[.int .i64 (x), .int .i64 (y), .int .u8 (q)] 23)).alloc (.cells #[.int .i64 0, .int .i64 0, .int .u8 0] 23)).cell? ⟨w.heap.size, 2, none⟩ = some (.int .i64 Y) := by simp [go_sem]
  have b10 : (((w.alloc (.cells #[.int .u8 t, .int .i64 X, .int .i64 Y] 54)).alloc (.cells #[.int .i64 (x), .int .i64 (y), .int .u8 (q)] 23)).alloc (.cells #[.int .i64 0, .int .i64 0, .int .u8 0] 23)).cell? ⟨w.heap.size + 1, 0, none⟩ = some (.int .i64 (x)) := by simp [go_sem]
  have b11 : (((w.alloc (.cells #[.int .u8 t, .int .i64 X, .int .i64 Y] 54)).alloc (.cells #[.int .i64 (x), .int .i64 (y), .int .u8 (q)] 23)).alloc (.cells #[.int .i64 0, .int .i64 0, .int .u8 0] 23)).cell? ⟨w.heap.size + 1, 1, none⟩ = some (.int .i64 (y)) := by simp [go_sem]
  have b12 : (((w.alloc (.cells #[.int .u8 t, .int .i64 X, .int .i64 Y] 54)).alloc (.cells #[.int .i64 (x), .int .i64 (y), .int .u8 (q)] 23)).alloc (.cells #[.int .i64 0, .int .i64 0, .int .u8 0] 23)).cell? ⟨w.heap.size + 1, 2, none⟩ = some (.int .u8 (q)) := by simp [go_sem]
  have b20 : (((w.alloc (.cells #[.int .u8 t, .int .i64 X, .int .i64 Y] 54)).alloc (.cells #[.int .i64 (x), .int .i64 (y), .int .u8 (q)] 23)).alloc (.cells #[.int .i64 0, .int .i64 0, .int .u8 0] 23)).cell? ⟨w.heap.size + 1 + 1, 0, none⟩ = some (.int .i64 0) := by simp [go_sem]
  have fb20 : (((w.alloc (.cells #[.int .u8 t, .int .i64 X, .int .i64 Y] 54)).alloc (.cells #[.int .i64 (x), .int .i64 (y), .int .u8 (q)] 23)).alloc (.cells #[.int .i64 0, .int .i64 0, .int .u8 0] 23)).frozen? ⟨w.heap.size + 1 + 1, 0, none⟩ = false := by simp [go_sem]
  have b21 : (((w.alloc (.cells #[.int .u8 t, .int .i64 X, .int .i64 Y] 54)).alloc (.cells #[.int .i64 (x), .int .i64 (y), .int .u8 (q)] 23)).alloc (.cells #[.int .i64 0, .int .i64 0, .int .u8 0] 23)).cell? ⟨w.heap.size + 1 + 1, 1, none⟩ = some (.int .i64 0) := by simp [go_sem]
  have fb21 : (((w.alloc (.cells #[.int .u8 t, .int .i64 X, .int .i64 Y] 54)).alloc (.cells #[.int .i64 (x), .int .i64 (y), .int .u8 (q)] 23)).alloc (.cells #[.int .i64 0, .int .i64 0, .int .u8 0] 23)).frozen? ⟨w.heap.size + 1 + 1, 1, none⟩ = false := by simp [go_sem]
  have b22 : (((w.alloc (.cells #[.int .u8 t, .int .i64 X, .int .i64 Y] 54)).alloc (.cells #[.int .i64 (x), .int .i64 (y), .int .u8 (q)] 23)).alloc (.cells #[.int .i64 0, .int .i64 0, .int .u8 0] 23)).cell? ⟨w.heap.size + 1 + 1, 2, none⟩ = some (.int .u8 0) := by simp [go_sem]
  have fb22 : (((w.alloc (.cells #[.int .u8 t, .int .i64 X, .int .i64 Y] 54)).alloc (.cells #[.int .i64 (x), .int .i64 (y), .int .u8 (q)] 23)).alloc (.cells #[.int .i64 0, .int .i64 0, .int .u8 0] 23)).frozen? ⟨w.heap.size + 1 + 1, 2, none⟩ = false := by simp [go_sem]
  generalize (((w.alloc (.cells #[.int .u8 t, .int .i64 X, .int .i64 Y] 54)).alloc (.cells #[.int .i64 (x), .int .i64 (y), .int .u8 (q)] 23)).alloc (.cells #[.int .i64 0, .int .i64 0, .int .u8 0] 23)) = W0 at *
  go_wp2_with (first | (go_at_call 52; with_reducible refine (mcheck_ok t X Y _ a1 a2 a3 a4 a5 a6 HA.out).mono ?_; rintro e wx ⟨rfl, hx⟩; obtain ⟨ux, rfl⟩ := after hx; clear hx) | fail)
  have hR : Below (W0).heap.size (W0) (on ux) := by repeat first | (with_reducible exact Below.refl _ _) | (with_reducible refine below_on ?_ _) | (with_reducible refine below_alloc ?_ _)
  have cR : ∀ {b i : Nat} {v : Value}, (W0).cell? ⟨b, i, none⟩ = some v → (on ux).cell? ⟨b, i, none⟩ = some v := fun h => (hR.cell (World.block_lt_of_cell? _ _ h)).trans h
  have fR : ∀ {b i : Nat} {v : Value}, (W0).cell? ⟨b, i, none⟩ = some v → (W0).frozen? ⟨b, i, none⟩ = false → (on ux).frozen? ⟨b, i, none⟩ = false := fun h g => (hR.frozen (World.block_lt_of_cell? _ _ h)).trans g
  have b00' := cR b00
  have b01' := cR b01
  have b02' := cR b02
  have b10' := cR b10
  have b11' := cR b11
  have b12' := cR b12
  have b20' := cR b20
  have fb20' := fR b20 fb20
  have b21' := cR b21
  have fb21' := fR b21 fb21
  have b22' := cR b22
  have fb22' := fR b22 fb22
  have hB1 : Below w.heap.size w (on ux) := by repeat first | (with_reducible exact hB0) | (with_reducible refine below_on ?_ _) | (with_reducible refine below_alloc ?_ _)
  clear hR cR fR b00 b01 b02 b10 b11 b12 b20 b21 b22 fb20 fb21 fb22 hB0
  generalize (on ux) = W1 at *
  clear ux
  go_wp2_with (first | (go_at_call 14; with_reducible refine (ccheck_bad x y q _ H.out).mono ?_; rintro e wx ⟨rfl, hx⟩; obtain ⟨ux, rfl⟩ := after hx; clear hx) | fail)
  exact bodyPost_ret (v := .tuple #[cl 0 0 0, .int .i64 1]) (by simp [results, Tryd.results25, go_sem, b00', b01', b02', b10', b11', b12', b20', b21', b22']) rfl ⟨rfl, (by repeat first | (with_reducible exact hB1) | (with_reducible refine below_on ?_ _) | (with_reducible refine below_alloc ?_ _) | (with_reducible refine below_set ?_ (by simp; try omega) _))⟩

set_option maxRecDepth 100000 in
set_option maxHeartbeats 2000000 in
theorem cbt_ok (x y q a b c : Int) (w : World) (hL : Lay w) (c1 : -4096 ≤ x) (c2 : x ≤ 4096) (c3 : -4096 ≤ y) (c4 : y ≤ 4096) (c5 : 0 ≤ q) (c6 : q ≤ 3)(d1 : -4096 ≤ a) (d2 : a ≤ 4096) (d3 : -4096 ≤ b) (d4 : b ≤ 4096) (d5 : 0 ≤ c) (d6 : c ≤ 3) : Calls Tryd.prog 28 #[cl x y q, cl a b c] w fun e w' => e = .returned (.tuple #[mv (btT x y q a b c) (a - imX (btT x y q a b c) 0 x y) (b - imY (btT x y q a b c) 0 x y), .int .i64 0]) ∧ Below w.heap.size w w' := by
  have tr := btT_range x y q a b c c5 c6 d5 d6
  have tq := btT_q x y q a b c c5 c6 d5 d6
  have tp := btT_par x y q a b c c5 c6 d5 d6
  have to : ∀ t : Int, 0 ≤ t → t ≤ 7 → imQ t q = c → ((a - imX t 0 x y) + (b - imY t 0 x y)) % 2 = 0 → t = btT x y q a b c := fun t h1 h2 => btT_only t x y q a b c c5 c6 d5 d6 h1 h2
  generalize btT x y q a b c = T at *
  obtain ⟨tr1, tr2⟩ := tr
  have TQ : Hid (imQ T q = c) := tq
  have TP : Hid (((a - imX T 0 x y) + (b - imY T 0 x y)) % 2 = 0) := tp
  have TO : Hid (∀ t : Int, 0 ≤ t → t ≤ 7 → imQ t q = c → ((a - imX t 0 x y) + (b - imY t 0 x y)) % 2 = 0 → t = T) := to
  clear tq tp to
  have hL' : ∀ W, Below w.heap.size w W → Lay W := fun W h => lay_below hL h
  go_enter Tryd.func28, Tryd.ntmps28
  go_wp2_with fail
  have hB0 : Below w.heap.size w (((w.alloc (.cells #[.int .i64 (x), .int .i64 (y), .int .u8 (q)] 23)).alloc (.cells #[.int .i64 (a), .int .i64 (b), .int .u8 (c)] 23)).alloc (.cells #[.int .u8 0, .int .i64 0, .int .i64 0] 54)) := (by repeat first | (with_reducible exact Below.refl _ _) | (with_reducible refine below_on ?_ _) | (with_reducible refine below_alloc ?_ _) | (with_reducible refine below_set ?_ (by simp; try omega) _))
  have b00 : (((w.alloc (.cells #[.int .i64 (x), .int .i64 (y), .int .u8 (q)] 23)).alloc (.cells #[.int .i64 (a), .int .i64 (b), .int .u8 (c)] 23)).alloc (.cells #[.int .u8 0, .int .i64 0, .int .i64 0] 54)).cell? ⟨w.heap.size, 0, none⟩ = some (.int .i64 (x)) := by simp [go_sem]
  have b01 : (((w.alloc (.cells #[.int .i64 (x), .int .i64 (y), .int .u8 (q)] 23)).alloc (.cells #[.int .i64 (a), .int .i64 (b), .int .u8 (c)] 23)).alloc (.cells #[.int .u8 0, .int .i64 0, .int .i64 0] 54)).cell? ⟨w.heap.size, 1, none⟩ = some (.int .i64 (y)) := by simp [go_sem]
  have b02 : (((w.alloc (.cells #[.int .i64 (x), .int .i64 (y), .int .u8 (q)] 23)).alloc (.cells #[.int .i64 (a), .int .i64 (b), .int .u8 (c)] 23)).alloc (.cells #[.int .u8 0, .int .i64 0, .int .i64 0] 54)).cell? ⟨w.heap.size, 2, none⟩ = some (.int .u8 (q)) := by simp [go_sem]
  have b10 : (((w.alloc (.cells #[.int .i64 (x), .int .i64 (y), .int .u8 (q)] 23)).alloc (.cells #[.int .i64 (a), .int .i64 (b), .int .u8 (c)] 23)).alloc (.cells #[.int .u8 0, .int .i64 0, .int .i64 0] 54)).cell? ⟨w.heap.size + 1, 0, none⟩ = some (.int .i64 (a)) := by simp [go_sem]
  have b11 : (((w.alloc (.cells #[.int .i64 (x), .int .i64 (y), .int .u8 (q)] 23)).alloc (.cells #[.int .i64 (a), .int .i64 (b), .int .u8 (c)] 23)).alloc (.cells #[.int .u8 0, .int .i64 0, .int .i64 0] 54)).cell? ⟨w.heap.size + 1, 1, none⟩ = some (.int .i64 (b)) := by simp [go_sem]
  have b12 : (((w.alloc (.cells #[.int .i64 (x), .int .i64 (y), .int .u8 (q)] 23)).alloc (.cells #[.int .i64 (a), .int .i64 (b), .int .u8 (c)] 23)).alloc (.cells #[.int .u8 0, .int .i64 0, .int .i64 0] 54)).cell? ⟨w.heap.size + 1, 2, none⟩ = some (.int .u8 (c)) := by simp [go_sem]
  have b20 : (((w.alloc (.cells #[.int .i64 (x), .int .i64 (y), .int .u8 (q)] 23)).alloc (.cells #[.int .i64 (a), .int .i64 (b), .int .u8 (c)] 23)).alloc (.cells #[.int .u8 0, .int .i64 0, .int .i64 0] 54)).cell? ⟨w.heap.size + 1 + 1, 0, none⟩ = some (.int .u8 0) := by simp [go_sem]
  have fb20 : (((w.alloc (.cells #[.int .i64 (x), .int .i64 (y), .int .u8 (q)] 23)).alloc (.cells #[.int .i64 (a), .int .i64 (b), .int .u8 (c)] 23)).alloc (.cells #[.int .u8 0, .int .i64 0, .int .i64 0] 54)).frozen? ⟨w.heap.size + 1 + 1, 0, none⟩ = false := by simp [go_sem]
  have b21 : (((w.alloc (.cells #[.int .i64 (x), .int .i64 (y), .int .u8 (q)] 23)).alloc (.cells #[.int .i64 (a), .int .i64 (b), .int .u8 (c)] 23)).alloc (.cells #[.int .u8 0, .int .i64 0, .int .i64 0] 54)).cell? ⟨w.heap.size + 1 + 1, 1, none⟩ = some (.int .i64 0) := by simp [go_sem]
  have fb21 : (((w.alloc (.cells #[.int .i64 (x), .int .i64 (y), .int .u8 (q)] 23)).alloc (.cells #[.int .i64 (a), .int .i64 (b), .int .u8 (c)] 23)).alloc (.cells #[.int .u8 0, .int .i64 0, .int .i64 0] 54)).frozen? ⟨w.heap.size + 1 + 1, 1, none⟩ = false := by simp [go_sem]
  have b22 : (((w.alloc (.cells #[.int .i64 (x), .int .i64 (y), .int .u8 (q)] 23)).alloc (.cells #[.int .i64 (a), .int .i64 (b), .int .u8 (c)] 23)).alloc (.cells #[.int .u8 0, .int .i64 0, .int .i64 0] 54)).cell? ⟨w.heap.size + 1 + 1, 2, none⟩ = some (.int .i64 0) := by simp [go_sem]
  have fb22 : (((w.alloc (.cells #[.int .i64 (x), .int .i64 (y), .int .u8 (q)] 23)).alloc (.cells #[.int .i64 (a), .int .i64 (b), .int .u8 (c)] 23)).alloc (.cells #[.int .u8 0, .int .i64 0, .int .i64 0] 54)).frozen? ⟨w.heap.size + 1 + 1, 2, none⟩ = false := by simp [go_sem]
  generalize (((w.alloc (.cells #[.int .i64 (x), .int .i64 (y), .int .u8 (q)] 23)).alloc (.cells #[.int .i64 (a), .int .i64 (b), .int .u8 (c)] 23)).alloc (.cells #[.int .u8 0, .int .i64 0, .int .i64 0] 54)) = W0 at *
  go_wp2_with (first | (go_at_call 14; with_reducible refine (ccheck_ok x y q _ c1 c2 c3 c4 c5 c6).mono ?_; rintro e wx ⟨rfl, hx⟩; obtain ⟨ux, rfl⟩ := after hx; clear hx) | fail)
  have hR : Below (W0).heap.size (W0) (on ux) := by repeat first | (with_reducible exact Below.refl _ _) | (with_reducible refine below_on ?_ _) | (with_reducible refine below_alloc ?_ _)
  have cR : ∀ {b i : Nat} {v : Value}, (W0).cell? ⟨b, i, none⟩ = some v → (on ux).cell? ⟨b, i, none⟩ = some v := fun h => (hR.cell (World.block_lt_of_cell? _ _ h)).trans h
  have fR : ∀ {b i : Nat} {v : Value}, (W0).cell? ⟨b, i, none⟩ = some v → (W0).frozen? ⟨b, i, none⟩ = false → (on ux).frozen? ⟨b, i, none⟩ = false := fun h g => (hR.frozen (World.block_lt_of_cell? _ _ h)).trans g
  have b00' := cR b00
  have b01' := cR b01
  have b02' := cR b02
  have b10' := cR b10
  have b11' := cR b11
  have b12' := cR b12
  have b20' := cR b20
  have fb20' := fR b20 fb20
  have b21' := cR b21
  have fb21' := fR b21 fb21
  have b22' := cR b22
  have fb22' := fR b22 fb22
  have hB1 : Below w.heap.size w (on ux) := by repeat first | (with_reducible exact hB0) | (with_reducible refine below_on ?_ _) | (with_reducible refine below_alloc ?_ _)
  clear hR cR fR b00 b01 b02 b10 b11 b12 b20 b21 b22 fb20 fb21 fb22 hB0
  generalize (on ux) = W1 at *
  clear ux
  go_wp2_with (first | (go_at_call 14; with_reducible refine (ccheck_ok a b c _ d1 d2 d3 d4 d5 d6).mono ?_; rintro e wx ⟨rfl, hx⟩; obtain ⟨ux, rfl⟩ := after hx; clear hx) | fail)
  have hR : Below (W1).heap.size (W1) (on ux) := by repeat first | (with_reducible exact Below.refl _ _) | (with_reducible refine below_on ?_ _) | (with_reducible refine below_alloc ?_ _)
  have cR : ∀ {b i : Nat} {v : Value}, (W1).cell? ⟨b, i, none⟩ = some v → (on ux).cell? ⟨b, i, none⟩ = some v := fun h => (hR.cell (World.block_lt_of_cell? _ _ h)).trans h
  have fR : ∀ {b i : Nat} {v : Value}, (W1).cell? ⟨b, i, none⟩ = some v → (W1).frozen? ⟨b, i, none⟩ = false → (on ux).frozen? ⟨b, i, none⟩ = false := fun h g => (hR.frozen (World.block_lt_of_cell? _ _ h)).trans g
  have b00'' := cR b00'
  have b01'' := cR b01'
  have b02'' := cR b02'
  have b10'' := cR b10'
  have b11'' := cR b11'
  have b12'' := cR b12'
  have b20'' := cR b20'
  have fb20'' := fR b20' fb20'
  have b21'' := cR b21'
  have fb21'' := fR b21' fb21'
  have b22'' := cR b22'
  have fb22'' := fR b22' fb22'
  have hB2 : Below w.heap.size w (on ux) := by repeat first | (with_reducible exact hB1) | (with_reducible refine below_on ?_ _) | (with_reducible refine below_alloc ?_ _)
  clear hR cR fR b00' b01' b02' b10' b11' b12' b20' b21' b22' fb20' fb21' fb22' hB1
  generalize (on ux) = W2 at *
  clear ux
  go_loopw [18] (fun iv wr => ∃ i : Int, iv = .int .u8 i ∧ 0 ≤ i ∧ i ≤ T ∧ ∃ u : Later W2, wr = on u) (fun iv _ => (8 - intOf iv).toNat)
  case atStart => exact ⟨0, rfl, by omega, tr1, ⟨_, Below.refl _ _⟩, rfl⟩
  case round =>
    obtain ⟨i, rfl, hi1, hi2, u0, rfl⟩ := hrel
    have hq : Below w.heap.size w (on u0) := below_on hB2 u0
    have jr := im0_range i x y 4096 hi1 (by omega) c1 c2 c3 c4
    have jq := imQ_range i q
    have hTO := TO.out i hi1 (by omega)
    have MI : ∀ W, Lay W → Calls Tryd.prog 53 #[mv i 0 0, cl x y q] W fun e w' => e = .returned (cl (imX i 0 x y) (imY i 0 x y) (imQ i q)) ∧ Below W.heap.size W w' := fun W h => moved_any i 0 0 x y q W h hi1 (by omega) (by omega) (by omega) (by omega) (by omega) (by omega) (by omega) (by omega) (by omega) (by omega) c5 c6
    by_cases hiT : i = T
    · subst hiT
      rw [TQ.out] at MI
      have HP := TP
      obtain ⟨j1, j2, j3, j4⟩ := jr
      clear hTO jq TQ TP TO
      go_wp2_with (first | (go_at_call 53; with_reducible refine (MI _ (hL' _ (by repeat first | (with_reducible exact hq) | (with_reducible refine below_on ?_ _) | (with_reducible refine below_alloc ?_ _) | (with_reducible refine below_set ?_ (by simp; try omega) _)))).mono ?_; rintro e wx ⟨rfl, hx⟩; obtain ⟨ux, rfl⟩ := after hx; clear hx) | fail)
      go_wp2_with (first | (go_at_call 52; with_reducible refine (mcheck_ok i (a - imX i 0 x y) (b - imY i 0 x y) _ hi1 tr2 (by omega) (by omega) (by omega) (by omega) HP.out).mono ?_; rintro e wx ⟨rfl, hx⟩; obtain ⟨uy, rfl⟩ := after hx; clear hx) | fail)
      have z0 := held_c uy (al1 (al1 (held_c ux (held_c u0 b20'')) _) _)
      have z1 := held_c uy (al1 (al1 (held_c ux (held_c u0 b21'')) _) _)
      have z2 := held_c uy (al1 (al1 (held_c ux (held_c u0 b22'')) _) _)
      exact bodyPost_ret (v := .tuple #[mv i (a - imX i 0 x y) (b - imY i 0 x y), .int .i64 0]) (by simp [results, Tryd.results28, go_sem, z0, z1, z2]) rfl ⟨rfl, (by repeat first | (with_reducible exact hq) | (with_reducible refine below_on ?_ _) | (with_reducible refine below_alloc ?_ _) | (with_reducible refine below_set ?_ (by simp; try omega) _))⟩
    · have hlt : i < T := by omega
      by_cases hqq : imQ i q = c
      · have hp : ((a - imX i 0 x y) + (b - imY i 0 x y)) % 2 ≠ 0 := fun h => hiT (hTO hqq h)
        rw [hqq] at MI
        have HP : Hid (((a - imX i 0 x y) + (b - imY i 0 x y)) % 2 ≠ 0) := hp
        generalize imX i 0 x y = XI at *
        generalize imY i 0 x y = YI at *
        obtain ⟨j1, j2, j3, j4⟩ := jr
        clear hTO jq hqq hp hiT TQ TP TO
        go_wp2_with (first | (go_at_call 53; with_reducible refine (MI _ (hL' _ (by repeat first | (with_reducible exact hq) | (with_reducible refine below_on ?_ _) | (with_reducible refine below_alloc ?_ _) | (with_reducible refine below_set ?_ (by simp; try omega) _)))).mono ?_; rintro e wx ⟨rfl, hx⟩; obtain ⟨ux, rfl⟩ := after hx; clear hx) | fail)
        go_wp2_with (first | (go_at_call 52; with_reducible refine (mcheck_bad i (a - XI) (b - YI) _ (.inr (.inr (.inr (.inr (.inr HP.out)))))).mono ?_; rintro e wx ⟨rfl, hx⟩; obtain ⟨uy, rfl⟩ := after hx; clear hx) | fail)
        exact ⟨⟨i + 1, rfl, by omega, by omega, after (by repeat first | (with_reducible exact Below.refl _ _) | (with_reducible refine below_on ?_ _) | (with_reducible refine below_alloc ?_ _) | (with_reducible refine below_set ?_ (by simp; try omega) _))⟩, by simp [intOf]; omega⟩
      · have n1 : (imQ i q == c) = false := eqf hqq
        have n2 : decide (imQ i q = c) = false := decide_eq_false hqq
        generalize imX i 0 x y = XI at *
        generalize imY i 0 x y = YI at *
        generalize imQ i q = QI at *
        obtain ⟨j1, j2, j3, j4⟩ := jr
        clear hTO jq hiT TQ TP TO
        go_wp2_with (first | (go_at_call 53; with_reducible refine (MI _ (hL' _ (by repeat first | (with_reducible exact hq) | (with_reducible refine below_on ?_ _) | (with_reducible refine below_alloc ?_ _) | (with_reducible refine below_set ?_ (by simp; try omega) _)))).mono ?_; rintro e wx ⟨rfl, hx⟩; obtain ⟨ux, rfl⟩ := after hx; clear hx) | fail)
        exact ⟨⟨i + 1, rfl, by omega, by omega, after (by repeat first | (with_reducible exact Below.refl _ _) | (with_reducible refine below_on ?_ _) | (with_reducible refine below_alloc ?_ _) | (with_reducible refine below_set ?_ (by simp; try omega) _))⟩, by simp [intOf]; omega⟩

set_option maxRecDepth 100000 in
set_option maxHeartbeats 2000000 in
theorem cbt_bad1 (x y q a b c : Int) (w : World) (h : 3 < q ∨ x < -4096 ∨ 4096 < x ∨ y < -4096 ∨ 4096 < y) : Calls Tryd.prog 28 #[cl x y q, cl a b c] w fun e w' => e = .returned (.tuple #[mv 0 0 0, .int .i64 1]) ∧ Below w.heap.size w w' := by
  have H : Hid (3 < q ∨ x < -4096 ∨ 4096 < x ∨ y < -4096 ∨ 4096 < y) := h
  clear h
  go_enter Tryd.func28, Tryd.ntmps28
  go_wp2_with fail
  have hB0 : Below w.heap.size w (((w.alloc (.cells #[.int .i64 (x), .int .i64 (y), .int .u8 (q)] 23)).alloc (.cells #[.int .i64 (a), .int .i64 (b), .int .u8 (c)] 23)).alloc (.cells #[.int .u8 0, .int .i64 0, .int .i64 0] 54)) := (by repeat first | (with_reducible exact Below.refl _ _) | (with_reducible refine below_on ?_ _) | (with_reducible refine below_alloc ?_ _) | (with_reducible refine below_set ?_ (by simp; try omega) _))
  have b00 : (((w.alloc (.cells #[.int .i64 (x), .int .i64 (y), .int .u8 (q)] 23)).alloc (.cells #[.int .i64 (a), .int .i64 (b), .int .u8 (c)] 23)).alloc (.cells #[.int .u8 0, .int .i64 0, .int .i64 0] 54)).cell? ⟨w.heap.size, 0, none⟩ = some (.int .i64 (x)) := by simp [go_sem]
  have b01 : (((w.alloc (.cells #[.int .i64 (x), .int .i64 (y), .int .u8 (q)] 23)).alloc (.cells #[.int .i64 (a), .int .i64 (b), .int .u8 (c)] 23)).alloc (.cells #[.int .u8 0, .int .i64 0, .int .i64 0] 54)).cell? ⟨w.heap.size, 1, none⟩ = some (.int .i64 (y)) := by simp [go_sem]
  have b02 : (((w.alloc (.cells #[.int .i64 (x), .int .i64 (y), .int .u8 (q)] 23)).alloc (.cells #[.int .i64 (a), .int .i64 (b), .int .u8 (c)] 23)).alloc (.cells #[.int .u8 0, .int .i64 0, .int .i64 0] 54)).cell? ⟨w.heap.size, 2, none⟩ = some (.int .u8 (q)) := by simp [go_sem]
  have b10 : (((w.alloc (.cells #[.int .i64 (x), .int .i64 (y), .int .u8 (q)] 23)).alloc (.cells #[.int .i64 (a), .int .i64 (b), .int .u8 (c)] 23)).alloc (.cells #[.int .u8 0, .int .i64 0, .int .i64 0] 54)).cell? ⟨w.heap.size + 1, 0, none⟩ = some (.int .i64 (a)) := by simp [go_sem]
  have b11 : (((w.alloc (.cells #[.int .i64 (x), .int .i64 (y), .int .u8 (q)] 23)).alloc (.cells #[.int .i64 (a), .int .i64 (b), .int .u8 (c)] 23)).alloc (.cells #[.int .u8 0, .int .i64 0, .int .i64 0] 54)).cell? ⟨w.heap.size + 1, 1, none⟩ = some (.int .i64 (b)) := by simp [go_sem]
  have b12 : (((w.alloc (.cells #[.int .i64 (x), .int .i64 (y), .int .u8 (q)] 23)).alloc (.cells #[.int .i64 (a), .int .i64 (b), .int .u8 (c)] 23)).alloc (.cells #[.int .u8 0, .int .i64 0, .int .i64 0] 54)).cell? ⟨w.heap.size + 1, 2, none⟩ = some (.int .u8 (c)) := by simp [go_sem]
  have b20 : (((w.alloc (.cells #[.int .i64 (x), .int .i64 (y), .int .u8 (q)] 23)).alloc (.cells #[.int .i64 (a), .int .i64 (b), .int .u8 (c)] 23)).alloc (.cells #[.int .u8 0, .int .i64 0, .int .i64 0] 54)).cell? ⟨w.heap.size + 1 + 1, 0, none⟩ = some (.int .u8 0) := by simp [go_sem]
  have fb20 : (((w.alloc (.cells #[.int .i64 (x), .int .i64 (y), .int .u8 (q)] 23)).alloc (.cells #[.int .i64 (a), .int .i64 (b), .int .u8 (c)] 23)).alloc (.cells #[.int .u8 0, .int .i64 0, .int .i64 0] 54)).frozen? ⟨w.heap.size + 1 + 1, 0, none⟩ = false := by simp [go_sem]
  have b21 : (((w.alloc (.cells #[.int .i64 (x), .int .i64 (y), .int .u8 (q)] 23)).alloc (.cells #[.int .i64 (a), .int .i64 (b), .int .u8 (c)] 23)).alloc (.cells #[.int .u8 0, .int .i64 0, .int .i64 0] 54)).cell? ⟨w.heap.size + 1 + 1, 1, none⟩ = some (.int .i64 0) := by simp [go_sem]
  have fb21 : (((w.alloc (.cells #[.int .i64 (x), .int .i64 (y), .int .u8 (q)] 23)).alloc (.cells #[.int .i64 (a), .int .i64 (b), .int .u8 (c)] 23)).alloc (.cells #[.int .u8 0, .int .i64 0, .int .i64 0] 54)).frozen? ⟨w.heap.size + 1 + 1, 1, none⟩ = false := by simp [go_sem]
  have b22 : (((w.alloc (.cells #[.int .i64 (x), .int .i64 (y), .int .u8 (q)] 23)).alloc (.cells #[.int .i64 (a), .int .i64 (b), .int .u8 (c)] 23)).alloc (.cells #[.int .u8 0, .int .i64 0, .int .i64 0] 54)).cell? ⟨w.heap.size + 1 + 1, 2, none⟩ = some (.int .i64 0) := by simp [go_sem]
  have fb22 : (((w.alloc (.cells #[.int .i64 (x), .int .i64 (y), .int .u8 (q)] 23)).alloc (.cells #[.int .i64 (a), .int .i64 (b), .int .u8 (c)] 23)).alloc (.cells #[.int .u8 0, .int .i64 0, .int .i64 0] 54)).frozen? ⟨w.heap.size + 1 + 1, 2, none⟩ = false := by simp [go_sem]
  generalize (((w.alloc (.cells #[.int .i64 (x), .int .i64 (y), .int .u8 (q)] 23)).alloc (.cells #[.int .i64 (a), .int .i64 (b), .int .u8 (c)] 23)).alloc (.cells #[.int .u8 0, .int .i64 0, .int .i64 0] 54)) = W0 at *
  go_wp2_with (first | (go_at_call 14; with_reducible refine (ccheck_bad x y q _ H.out).mono ?_; rintro e wx ⟨rfl, hx⟩; obtain ⟨ux, rfl⟩ := after hx; clear hx) | fail)
  exact bodyPost_ret (v := .tuple #[mv 0 0 0, .int .i64 1]) (by simp [results, Tryd.results28, go_sem, b00, b01, b02, b10, b11, b12, b20, b21, b22]) rfl ⟨rfl, (by repeat first | (with_reducible exact hB0) | (with_reducible refine below_on ?_ _) | (with_reducible refine below_alloc ?_ _) | (with_reducible refine below_set ?_ (by simp; try omega) _))⟩

set_option maxRecDepth 100000 in
set_option maxHeartbeats 2000000 in
theorem cbt_bad2 (x y q a b c : Int) (w : World) (c1 : -4096 ≤ x) (c2 : x ≤ 4096) (c3 : -4096 ≤ y) (c4 : y ≤ 4096) (c5 : 0 ≤ q) (c6 : q ≤ 3) (h : 3 < c ∨ a < -4096 ∨ 4096 < a ∨ b < -4096 ∨ 4096 < b) : Calls Tryd.prog 28 #[cl x y q, cl a b c] w fun e w' => e = .returned (.tuple #[mv 0 0 0, .int .i64 1]) ∧ Below w.heap.size w w' := by
  have H : Hid (3 < c ∨ a < -4096 ∨ 4096 < a ∨ b < -4096 ∨ 4096 < b) := h
  clear h
  go_enter Tryd.func28, Tryd.ntmps28
  go_wp2_with fail
  have hB0 : Below w.heap.size w (((w.alloc (.cells #[.int .i64 (x), .int .i64 (y), .int .u8 (q)] 23)).alloc (.cells #[.int .i64 (a), .int .i64 (b), .int .u8 (c)] 23)).alloc (.cells #[.int .u8 0, .int .i64 0, .int .i64 0] 54)) := (by repeat first | (with_reducible exact Below.refl _ _) | (with_reducible refine below_on ?_ _) | (with_reducible refine below_alloc ?_ _) | (with_reducible refine below_set ?_ (by simp; try omega) _))
  have b00 : (((w.alloc (.cells #[.int .i64 (x), .int .i64 (y), .int .u8 (q)] 23)).alloc (.cells #[.int .i64 (a), .int .i64 (b), .int .u8 (c)] 23)).alloc (.cells #[.int .u8 0, .int .i64 0, .int .i64 0] 54)).cell? ⟨w.heap.size, 0, none⟩ = some (.int .i64 (x)) := by simp [go_sem]
  have b01 : (((w.alloc (.cells #[.int .i64 (x), .int .i64 (y), .int .u8 (q)] 23)).alloc (.cells #[.int .i64 (a), .int .i64 (b), .int .u8 (c)] 23)).alloc (.cells #[.int .u8 0, .int .i64 0, .int .i64 0] 54)).cell? ⟨w.heap.size, 1, none⟩ = some (.int .i64 (y)) := by simp [go_sem]
  have b02 : (((w.alloc (.cells #[.int .i64 (x), .int .i64 (y), .int .u8 (q)] 23)).alloc (.cells #[.int .i64 (a), .int .i64 (b), .int .u8 (c)] 23)).alloc (.cells #[.int .u8 0, .int .i64 0, .int .i64 0] 54)).cell? ⟨w.heap.size, 2, none⟩ = some (.int .u8 (q)) := by simp [go_sem]
  have b10 : (((w.alloc (.cells #[.int .i64 (x), .int .i64 (y), .int .u8 (q)] 23)).alloc (.cells #[.int .i64 (a), .int .i64 (b), .int .u8 (c)] 23)).alloc (.cells #[.int .u8 0, .int .i64 0, .int .i64 0] 54)).cell? ⟨w.heap.size + 1, 0, none⟩ = some (.int .i64 (a)) := by simp [go_sem]
  have b11 : (((w.alloc (.cells #[.int .i64 (x), .int .i64 (y), .int .u8 (q)] 23)).alloc (.cells #[.int .i64 (a), .int .i64 (b), .int .u8 (c)] 23)).alloc (.cells #[.int .u8 0, .int .i64 0, .int .i64 0] 54)).cell? ⟨w.heap.size + 1, 1, none⟩ = some (.int .i64 (b)) := by simp [go_sem]
  have b12 : (((w.alloc (.cells #[.int .i64 (x), .int .i64 (y), .int .u8 (q)] 23)).alloc (.cells #[.int .i64 (a), .int .i64 (b), .int .u8 (c)] 23)).alloc (.cells #[.int .u8 0, .int .i64 0, .int .i64 0] 54)).cell? ⟨w.heap.size + 1, 2, none⟩ = some (.int .u8 (c)) := by simp [go_sem]
  have b20 : (((w.alloc (.cells #[.int .i64 (x), .int .i64 (y), .int .u8 (q)] 23)).alloc (.cells #[.int .i64 (a), .int .i64 (b), .int .u8 (c)] 23)).alloc (.cells #[.int .u8 0, .int .i64 0, .int .i64 0] 54)).cell? ⟨w.heap.size + 1 + 1, 0, none⟩ = some (.int .u8 0) := by simp [go_sem]
  have fb20 : (((w.alloc (.cells #[.int .i64 (x), .int .i64 (y), .int .u8 (q)] 23)).alloc (.cells #[.int .i64 (a), .int .i64 (b), .int .u8 (c)] 23)).alloc (.cells #[.int .u8 0, .int .i64 0, .int .i64 0] 54)).frozen? ⟨w.heap.size + 1 + 1, 0, none⟩ = false := by simp [go_sem]
  have b21 : (((w.alloc (.cells #[.int .i64 (x), .int .i64 (y), .int .u8 (q)] 23)).alloc (.cells #[.int .i64 (a), .int .i64 (b), .int .u8 (c)] 23)).alloc (.cells #[.int .u8 0, .int .i64 0, .int .i64 0] 54)).cell? ⟨w.heap.size + 1 + 1, 1, none⟩ = some (.int .i64 0) := by simp [go_sem]
  have fb21 : (((w.alloc (.cells #[.int .i64 (x), .int .i64 (y), .int .u8 (q)] 23)).alloc (.cells #[.int .i64 (a), .int .i64 (b), .int .u8 (c)] 23)).alloc (.cells #[.int .u8 0, .int .i64 0, .int .i64 0] 54)).frozen? ⟨w.heap.size + 1 + 1, 1, none⟩ = false := by simp [go_sem]
  have b22 : (((w.alloc (.cells #[.int .i64 (x), .int .i64 (y), .int .u8 (q)] 23)).alloc (.cells #[.int .i64 (a), .int .i64 (b), .int .u8 (c)] 23)).alloc (.cells #[.int .u8 0, .int .i64 0, .int .i64 0] 54)).cell? ⟨w.heap.size + 1 + 1, 2, none⟩ = some (.int .i64 0) := by simp [go_sem]
  have fb22 : (((w.alloc (.cells #[.int .i64 (x), .int .i64 (y), .int .u8 (q)] 23)).alloc (.cells #[.int .i64 (a), .int .i64 (b), .int .u8 (c)] 23)).alloc (.cells #[.int .u8 0, .int .i64 0, .int .i64 0] 54)).frozen? ⟨w.heap.size + 1 + 1, 2, none⟩ = false := by simp [go_sem]
  generalize (((w.alloc (.cells #[.int .i64 (x), .int .i64 (y), .int .u8 (q)] 23)).alloc (.cells #[.int .i64 (a), .int .i64 (b), .int .u8 (c)] 23)).alloc (.cells #[.int .u8 0, .int .i64 0, .int .i64 0] 54)) = W0 at *
  go_wp2_with (first | (go_at_call 14; with_reducible refine (ccheck_ok x y q _ c1 c2 c3 c4 c5 c6).mono ?_; rintro e wx ⟨rfl, hx⟩; obtain ⟨ux, rfl⟩ := after hx; clear hx) | fail)
  have hR : Below (W0).heap.size (W0) (on ux) := by repeat first | (with_reducible exact Below.refl _ _) | (with_reducible refine below_on ?_ _) | (with_reducible refine below_alloc ?_ _)
  have cR : ∀ {b i : Nat} {v : Value}, (W0).cell? ⟨b, i, none⟩ = some v → (on ux).cell? ⟨b, i, none⟩ = some v := fun h => (hR.cell (World.block_lt_of_cell? _ _ h)).trans h
  have fR : ∀ {b i : Nat} {v : Value}, (W0).cell? ⟨b, i, none⟩ = some v → (W0).frozen? ⟨b, i, none⟩ = false → (on ux).frozen? ⟨b, i, none⟩ = false := fun h g => (hR.frozen (World.block_lt_of_cell? _ _ h)).trans g
  have b00' := cR b00
  have b01' := cR b01
  have b02' := cR b02
  have b10' := cR b10
  have b11' := cR b11
  have b12' := cR b12
  have b20' := cR b20
  have fb20' := fR b20 fb20
  have b21' := cR b21
  have fb21' := fR b21 fb21
  have b22' := cR b22
  have fb22' := fR b22 fb22
  have hB1 : Below w.heap.size w (on ux) := by repeat first | (with_reducible exact hB0) | (with_reducible refine below_on ?_ _) | (with_reducible refine below_alloc ?_ _)
  clear hR cR fR b00 b01 b02 b10 b11 b12 b20 b21 b22 fb20 fb21 fb22 hB0
  generalize (on ux) = W1 at *
  clear ux
  go_wp2_with (first | (go_at_call 14; with_reducible refine (ccheck_bad a b c _ H.out).mono ?_; rintro e wx ⟨rfl, hx⟩; obtain ⟨ux, rfl⟩ := after hx; clear hx) | fail)
  exact bodyPost_ret (v := .tuple #[mv 0 0 0, .int .i64 1]) (by simp [results, Tryd.results28, go_sem, b00', b01', b02', b10', b11', b12', b20', b21', b22']) rfl ⟨rfl, (by repeat first | (with_reducible exact hB1) | (with_reducible refine below_on ?_ _) | (with_reducible refine below_alloc ?_ _) | (with_reducible refine below_set ?_ (by simp; try omega) _))⟩

end Go.Proofs.YtgkiliijefkcaaaDoor
