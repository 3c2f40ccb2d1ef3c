/-
  Says: what Valid, Less and Corners of the reference of cells give.
-/
import Derived.Test.YtgkiliijefkcaaaDoorCf2
import Derived.Test.YtgkiliijefkcaaaDoorCf7
set_option linter.unusedVariables false
set_option linter.unusedSimpArgs false
namespace Go.Proofs.YtgkiliijefkcaaaDoor
open Go Go.RowKit

attribute [local go_sem] World.cell?_alloc_some frozen?_alloc_cells fz0 fz1 fz2 fz3 fz4 fz5

set_option maxRecDepth 100000 in
set_option maxHeartbeats 2000000 in
theorem rvalid_yes (x y q : Int) (w : World) (c1 : -4096 ≤ x) (c2 : x ≤ 4096) (c3 : -4096 ≤ y) (c4 : y ≤ 4096) (c5 : 0 ≤ q) (c6 : q ≤ 3) : Calls Tryd.prog 13 #[cl x y q] w fun e w' => e = .returned (.int .i64 1) ∧ Below w.heap.size w w' := by
  go_enter Tryd.func13, Tryd.ntmps13
  go_wp2
  go_ret
  exact ⟨rfl, (by repeat first | (with_reducible exact Below.refl _ _) | (with_reducible refine below_on ?_ _) | (with_reducible refine below_alloc ?_ _) | (with_reducible refine below_set ?_ (by simp; try omega) _))⟩

set_option maxRecDepth 100000 in
set_option maxHeartbeats 2000000 in
theorem rvalid_no (x y q : Int) (w : World) (h : 3 < q ∨ x < -4096 ∨ 4096 < x ∨ y < -4096 ∨ 4096 < y) : Calls Tryd.prog 13 #[cl x y q] w fun e w' => e = .returned (.int .i64 0) ∧ Below w.heap.size w w' := by
  by_cases c2 : x < -4096
  · clear h
    go_enter Tryd.func13, Tryd.ntmps13
    go_wp2
    go_ret
    exact ⟨rfl, (by repeat first | (with_reducible exact Below.refl _ _) | (with_reducible refine below_on ?_ _) | (with_reducible refine below_alloc ?_ _) | (with_reducible refine below_set ?_ (by simp; try omega) _))⟩
  have d2 : -4096 ≤ x := by omega
  by_cases c3 : 4096 < x
  · clear h
    go_enter Tryd.func13, Tryd.ntmps13
    go_wp2
    go_ret
    exact ⟨rfl, (by repeat first | (with_reducible exact Below.refl _ _) | (with_reducible refine below_on ?_ _) | (with_reducible refine below_alloc ?_ _) | (with_reducible refine below_set ?_ (by simp; try omega) _))⟩
  have d3 : x ≤ 4096 := by omega
  by_cases c4 : y < -4096
  · clear h
    go_enter Tryd.func13, Tryd.ntmps13
    go_wp2
    go_ret
    exact ⟨rfl, (by repeat first | (with_reducible exact Below.refl _ _) | (with_reducible refine below_on ?_ _) | (with_reducible refine below_alloc ?_ _) | (with_reducible refine below_set ?_ (by simp; try omega) _))⟩
  have d4 : -4096 ≤ y := by omega
  by_cases c5 : 4096 < y
  · clear h
    go_enter Tryd.func13, Tryd.ntmps13
    go_wp2
    go_ret
    exact ⟨rfl, (by repeat first | (with_reducible exact Below.refl _ _) | (with_reducible refine below_on ?_ _) | (with_reducible refine below_alloc ?_ _) | (with_reducible refine below_set ?_ (by simp; try omega) _))⟩
  have d5 : y ≤ 4096 := by omega
  have c1 : 3 < q := by omega
  clear h c2 c3 c4 c5
  go_enter Tryd.func13, Tryd.ntmps13
  go_wp2
  go_ret
  exact ⟨rfl, (by repeat first | (with_reducible exact Below.refl _ _) | (with_reducible refine below_on ?_ _) | (with_reducible refine below_alloc ?_ _) | (with_reducible refine below_set ?_ (by simp; try omega) _))⟩


set_option maxRecDepth 100000 in
set_option maxHeartbeats 2000000 in
theorem rless_yes (x y q a b c : Int) (w : World) (h : y < b ∨ (y = b ∧ (x < a ∨ (x = a ∧ q < c)))) : Calls Tryd.prog 30 #[cl x y q, cl a b c] w fun e w' => e = .returned (.int .i64 1) ∧ Below w.heap.size w w' := by
  rcases h with h | ⟨rfl, h | ⟨rfl, h⟩⟩
  · go_enter Tryd.func30, Tryd.ntmps30
    go_wp2
    go_ret
    exact ⟨rfl, (by repeat first | (with_reducible exact Below.refl _ _) | (with_reducible refine below_on ?_ _) | (with_reducible refine below_alloc ?_ _) | (with_reducible refine below_set ?_ (by simp; try omega) _))⟩
  · go_enter Tryd.func30, Tryd.ntmps30
    go_wp2
    go_ret
    exact ⟨rfl, (by repeat first | (with_reducible exact Below.refl _ _) | (with_reducible refine below_on ?_ _) | (with_reducible refine below_alloc ?_ _) | (with_reducible refine below_set ?_ (by simp; try omega) _))⟩
  · go_enter Tryd.func30, Tryd.ntmps30
    go_wp2
    go_ret
    exact ⟨rfl, (by repeat first | (with_reducible exact Below.refl _ _) | (with_reducible refine below_on ?_ _) | (with_reducible refine below_alloc ?_ _) | (with_reducible refine below_set ?_ (by simp; try omega) _))⟩

set_option maxRecDepth 100000 in
set_option maxHeartbeats 2000000 in
theorem rless_no (x y q a b c : Int) (w : World) (h : b < y ∨ (b = y ∧ (a < x ∨ (a = x ∧ c ≤ q)))) : Calls Tryd.prog 30 #[cl x y q, cl a b c] w fun e w' => e = .returned (.int .i64 0) ∧ Below w.heap.size w w' := by
  rcases h with h | ⟨rfl, h | ⟨rfl, h⟩⟩
  · have h1 : ¬ y < b := by omega
    have h2 : (y == b) = false := eqf (by omega)
    go_enter Tryd.func30, Tryd.ntmps30
    go_wp2
    go_ret
    exact ⟨rfl, (by repeat first | (with_reducible exact Below.refl _ _) | (with_reducible refine below_on ?_ _) | (with_reducible refine below_alloc ?_ _) | (with_reducible refine below_set ?_ (by simp; try omega) _))⟩
  · have h1 : ¬ x < a := by omega
    have h2 : (x == a) = false := eqf (by omega)
    go_enter Tryd.func30, Tryd.ntmps30
    go_wp2
    go_ret
    exact ⟨rfl, (by repeat first | (with_reducible exact Below.refl _ _) | (with_reducible refine below_on ?_ _) | (with_reducible refine below_alloc ?_ _) | (with_reducible refine below_set ?_ (by simp; try omega) _))⟩
  · have h1 : ¬ q < c := by omega
    go_enter Tryd.func30, Tryd.ntmps30
    go_wp2
    go_ret
    exact ⟨rfl, (by repeat first | (with_reducible exact Below.refl _ _) | (with_reducible refine below_on ?_ _) | (with_reducible refine below_alloc ?_ _) | (with_reducible refine below_set ?_ (by simp; try omega) _))⟩

set_option maxRecDepth 100000 in
set_option maxHeartbeats 2000000 in
theorem rcor_0 (x y : Int) (w : World) (x1 : -100000 ≤ x) (x2 : x ≤ 100000) (y1 : -100000 ≤ y) (y2 : y ≤ 100000) : Calls Tryd.prog 16 #[cl x y 0] w fun e w' => e = .returned (.agg #[.int .i64 (1 + 2 * x), .int .i64 (1 + 2 * y), .int .i64 (2 * x), .int .i64 (2 * y), .int .i64 (2 + 2 * x), .int .i64 (2 * y)]) ∧ Below w.heap.size w w' := by
  go_enter Tryd.func16, Tryd.ntmps16
  go_wp2_with fail
  have hB0 : Below w.heap.size w ((w.alloc (.cells #[.int .i64 (x), .int .i64 (y), .int .u8 (0)] 23)).alloc (.cells #[.int .i64 0, .int .i64 0, .int .i64 0, .int .i64 0, .int .i64 0, .int .i64 0] 32)) := (by repeat first | (with_reducible exact Below.refl _ _) | (with_reducible refine below_on ?_ _) | (with_reducible refine below_alloc ?_ _) | (with_reducible refine below_set ?_ (by simp; try omega) _))
  have b00 : ((w.alloc (.cells #[.int .i64 (x), .int .i64 (y), .int .u8 (0)] 23)).alloc (.cells #[.int .i64 0, .int .i64 0, .int .i64 0, .int .i64 0, .int .i64 0, .int .i64 0] 32)).cell? ⟨w.heap.size, 0, none⟩ = some (.int .i64 (x)) := by simp [go_sem]
  have b01 : ((w.alloc (.cells #[.int .i64 (x), .int .i64 (y), .int .u8 (0)] 23)).alloc (.cells #[.int .i64 0, .int .i64 0, .int .i64 0, .int .i64 0, .int .i64 0, .int .i64 0] 32)).cell? ⟨w.heap.size, 1, none⟩ = some (.int .i64 (y)) := by simp [go_sem]
  have b02 : ((w.alloc (.cells #[.int .i64 (x), .int .i64 (y), .int .u8 (0)] 23)).alloc (.cells #[.int .i64 0, .int .i64 0, .int .i64 0, .int .i64 0, .int .i64 0, .int .i64 0] 32)).cell? ⟨w.heap.size, 2, none⟩ = some (.int .u8 (0)) := by simp [go_sem]
  have b10 : ((w.alloc (.cells #[.int .i64 (x), .int .i64 (y), .int .u8 (0)] 23)).alloc (.cells #[.int .i64 0, .int .i64 0, .int .i64 0, .int .i64 0, .int .i64 0, .int .i64 0] 32)).cell? ⟨w.heap.size + 1, 0, none⟩ = some (.int .i64 0) := by simp [go_sem]
  have fb10 : ((w.alloc (.cells #[.int .i64 (x), .int .i64 (y), .int .u8 (0)] 23)).alloc (.cells #[.int .i64 0, .int .i64 0, .int .i64 0, .int .i64 0, .int .i64 0, .int .i64 0] 32)).frozen? ⟨w.heap.size + 1, 0, none⟩ = false := by simp [go_sem]
  have b11 : ((w.alloc (.cells #[.int .i64 (x), .int .i64 (y), .int .u8 (0)] 23)).alloc (.cells #[.int .i64 0, .int .i64 0, .int .i64 0, .int .i64 0, .int .i64 0, .int .i64 0] 32)).cell? ⟨w.heap.size + 1, 1, none⟩ = some (.int .i64 0) := by simp [go_sem]
  have fb11 : ((w.alloc (.cells #[.int .i64 (x), .int .i64 (y), .int .u8 (0)] 23)).alloc (.cells #[.int .i64 0, .int .i64 0, .int .i64 0, .int .i64 0, .int .i64 0, .int .i64 0] 32)).frozen? ⟨w.heap.size + 1, 1, none⟩ = false := by simp [go_sem]
  have b12 : ((w.alloc (.cells #[.int .i64 (x), .int .i64 (y), .int .u8 (0)] 23)).alloc (.cells #[.int .i64 0, .int .i64 0, .int .i64 0, .int .i64 0, .int .i64 0, .int .i64 0] 32)).cell? ⟨w.heap.size + 1, 2, none⟩ = some (.int .i64 0) := by simp [go_sem]
  have fb12 : ((w.alloc (.cells #[.int .i64 (x), .int .i64 (y), .int .u8 (0)] 23)).alloc (.cells #[.int .i64 0, .int .i64 0, .int .i64 0, .int .i64 0, .int .i64 0, .int .i64 0] 32)).frozen? ⟨w.heap.size + 1, 2, none⟩ = false := by simp [go_sem]
  have b13 : ((w.alloc (.cells #[.int .i64 (x), .int .i64 (y), .int .u8 (0)] 23)).alloc (.cells #[.int .i64 0, .int .i64 0, .int .i64 0, .int .i64 0, .int .i64 0, .int .i64 0] 32)).cell? ⟨w.heap.size + 1, 3, none⟩ = some (.int .i64 0) := by simp [go_sem]
  have fb13 : ((w.alloc (.cells #[.int .i64 (x), .int .i64 (y), .int .u8 (0)] 23)).alloc (.cells #[.int .i64 0, .int .i64 0, .int .i64 0, .int .i64 0, .int .i64 0, .int .i64 0] 32)).frozen? ⟨w.heap.size + 1, 3, none⟩ = false := by simp [go_sem]
  have b14 : ((w.alloc (.cells #[.int .i64 (x), .int .i64 (y), .int .u8 (0)] 23)).alloc (.cells #[.int .i64 0, .int .i64 0, .int .i64 0, .int .i64 0, .int .i64 0, .int .i64 0] 32)).cell? ⟨w.heap.size + 1, 4, none⟩ = some (.int .i64 0) := by simp [go_sem]
  have fb14 : ((w.alloc (.cells #[.int .i64 (x), .int .i64 (y), .int .u8 (0)] 23)).alloc (.cells #[.int .i64 0, .int .i64 0, .int .i64 0, .int .i64 0, .int .i64 0, .int .i64 0] 32)).frozen? ⟨w.heap.size + 1, 4, none⟩ = false := by simp [go_sem]
  have b15 : ((w.alloc (.cells #[.int .i64 (x), .int .i64 (y), .int .u8 (0)] 23)).alloc (.cells #[.int .i64 0, .int .i64 0, .int .i64 0, .int .i64 0, .int .i64 0, .int .i64 0] 32)).cell? ⟨w.heap.size + 1, 5, none⟩ = some (.int .i64 0) := by simp [go_sem]
  have fb15 : ((w.alloc (.cells #[.int .i64 (x), .int .i64 (y), .int .u8 (0)] 23)).alloc (.cells #[.int .i64 0, .int .i64 0, .int .i64 0, .int .i64 0, .int .i64 0, .int .i64 0] 32)).frozen? ⟨w.heap.size + 1, 5, none⟩ = false := by simp [go_sem]
  generalize ((w.alloc (.cells #[.int .i64 (x), .int .i64 (y), .int .u8 (0)] 23)).alloc (.cells #[.int .i64 0, .int .i64 0, .int .i64 0, .int .i64 0, .int .i64 0, .int .i64 0] 32)) = W0 at *
  refine region_later (by kernel_rfl) (by kernel_rfl) ?_
  repeat (go_big_quiet_step (fail))
  refine wpQuiet_nil ?_
  rintro _ ⟨ux, rfl⟩
  go_wp2_with fail
  have hR : Below (W0).heap.size (W0) ((on ux).alloc (.cells #[.int .i64 (2 * x), .int .i64 (2 * y), .int .i64 (2 * x + 2), .int .i64 (2 * y), .int .i64 (2 * x + 2), .int .i64 (2 * y + 2), .int .i64 (2 * x), .int .i64 (2 * y + 2)] 90)) := by repeat first | (with_reducible exact Below.refl _ _) | (with_reducible refine below_on ?_ _) | (with_reducible refine below_alloc ?_ _)
  have cR : ∀ {b i : Nat} {v : Value}, (W0).cell? ⟨b, i, none⟩ = some v → ((on ux).alloc (.cells #[.int .i64 (2 * x), .int .i64 (2 * y), .int .i64 (2 * x + 2), .int .i64 (2 * y), .int .i64 (2 * x + 2), .int .i64 (2 * y + 2), .int .i64 (2 * x), .int .i64 (2 * y + 2)] 90)).cell? ⟨b, i, none⟩ = some v := fun h => (hR.cell (World.block_lt_of_cell? _ _ h)).trans h
  have fR : ∀ {b i : Nat} {v : Value}, (W0).cell? ⟨b, i, none⟩ = some v → (W0).frozen? ⟨b, i, none⟩ = false → ((on ux).alloc (.cells #[.int .i64 (2 * x), .int .i64 (2 * y), .int .i64 (2 * x + 2), .int .i64 (2 * y), .int .i64 (2 * x + 2), .int .i64 (2 * y + 2), .int .i64 (2 * x), .int .i64 (2 * y + 2)] 90)).frozen? ⟨b, i, none⟩ = false := fun h g => (hR.frozen (World.block_lt_of_cell? _ _ h)).trans g
  have b00' := cR b00
  have b01' := cR b01
  have b02' := cR b02
  have b10' := cR b10
  have fb10' := fR b10 fb10
  have b11' := cR b11
  have fb11' := fR b11 fb11
  have b12' := cR b12
  have fb12' := fR b12 fb12
  have b13' := cR b13
  have fb13' := fR b13 fb13
  have b14' := cR b14
  have fb14' := fR b14 fb14
  have b15' := cR b15
  have fb15' := fR b15 fb15
  have B100 : ((on ux).alloc (.cells #[.int .i64 (2 * x), .int .i64 (2 * y), .int .i64 (2 * x + 2), .int .i64 (2 * y), .int .i64 (2 * x + 2), .int .i64 (2 * y + 2), .int .i64 (2 * x), .int .i64 (2 * y + 2)] 90)).cell? ⟨(on ux).heap.size, 0, none⟩ = some (.int .i64 (2 * x)) := by simp [go_sem]
  have B101 : ((on ux).alloc (.cells #[.int .i64 (2 * x), .int .i64 (2 * y), .int .i64 (2 * x + 2), .int .i64 (2 * y), .int .i64 (2 * x + 2), .int .i64 (2 * y + 2), .int .i64 (2 * x), .int .i64 (2 * y + 2)] 90)).cell? ⟨(on ux).heap.size, 1, none⟩ = some (.int .i64 (2 * y)) := by simp [go_sem]
  have B102 : ((on ux).alloc (.cells #[.int .i64 (2 * x), .int .i64 (2 * y), .int .i64 (2 * x + 2), .int .i64 (2 * y), .int .i64 (2 * x + 2), .int .i64 (2 * y + 2), .int .i64 (2 * x), .int .i64 (2 * y + 2)] 90)).cell? ⟨(on ux).heap.size, 2, none⟩ = some (.int .i64 (2 * x + 2)) := by simp [go_sem]
  have B103 : ((on ux).alloc (.cells #[.int .i64 (2 * x), .int .i64 (2 * y), .int .i64 (2 * x + 2), .int .i64 (2 * y), .int .i64 (2 * x + 2), .int .i64 (2 * y + 2), .int .i64 (2 * x), .int .i64 (2 * y + 2)] 90)).cell? ⟨(on ux).heap.size, 3, none⟩ = some (.int .i64 (2 * y)) := by simp [go_sem]
  have B104 : ((on ux).alloc (.cells #[.int .i64 (2 * x), .int .i64 (2 * y), .int .i64 (2 * x + 2), .int .i64 (2 * y), .int .i64 (2 * x + 2), .int .i64 (2 * y + 2), .int .i64 (2 * x), .int .i64 (2 * y + 2)] 90)).cell? ⟨(on ux).heap.size, 4, none⟩ = some (.int .i64 (2 * x + 2)) := by simp [go_sem]
  have B105 : ((on ux).alloc (.cells #[.int .i64 (2 * x), .int .i64 (2 * y), .int .i64 (2 * x + 2), .int .i64 (2 * y), .int .i64 (2 * x + 2), .int .i64 (2 * y + 2), .int .i64 (2 * x), .int .i64 (2 * y + 2)] 90)).cell? ⟨(on ux).heap.size, 5, none⟩ = some (.int .i64 (2 * y + 2)) := by simp [go_sem]
  have B106 : ((on ux).alloc (.cells #[.int .i64 (2 * x), .int .i64 (2 * y), .int .i64 (2 * x + 2), .int .i64 (2 * y), .int .i64 (2 * x + 2), .int .i64 (2 * y + 2), .int .i64 (2 * x), .int .i64 (2 * y + 2)] 90)).cell? ⟨(on ux).heap.size, 6, none⟩ = some (.int .i64 (2 * x)) := by simp [go_sem]
  have B107 : ((on ux).alloc (.cells #[.int .i64 (2 * x), .int .i64 (2 * y), .int .i64 (2 * x + 2), .int .i64 (2 * y), .int .i64 (2 * x + 2), .int .i64 (2 * y + 2), .int .i64 (2 * x), .int .i64 (2 * y + 2)] 90)).cell? ⟨(on ux).heap.size, 7, none⟩ = some (.int .i64 (2 * y + 2)) := by simp [go_sem]
  have hB1 : Below w.heap.size w ((on ux).alloc (.cells #[.int .i64 (2 * x), .int .i64 (2 * y), .int .i64 (2 * x + 2), .int .i64 (2 * y), .int .i64 (2 * x + 2), .int .i64 (2 * y + 2), .int .i64 (2 * x), .int .i64 (2 * y + 2)] 90)) := by repeat first | (with_reducible exact hB0) | (with_reducible refine below_on ?_ _) | (with_reducible refine below_alloc ?_ _)
  clear hR cR fR b00 b01 b02 b10 b11 b12 b13 b14 b15 fb10 fb11 fb12 fb13 fb14 fb15 hB0
  generalize ((on ux).alloc (.cells #[.int .i64 (2 * x), .int .i64 (2 * y), .int .i64 (2 * x + 2), .int .i64 (2 * y), .int .i64 (2 * x + 2), .int .i64 (2 * y + 2), .int .i64 (2 * x), .int .i64 (2 * y + 2)] 90)) = W1 at *
  generalize (on ux).heap.size = B1 at *
  clear ux
  refine region_later (by kernel_rfl) (by kernel_rfl) ?_
  repeat (go_big_quiet_step (fail))
  refine wpQuiet_nil ?_
  rintro _ ⟨ux, rfl⟩
  go_wp2_with fail
  have hR : Below (W1).heap.size (W1) (on ux) := by repeat first | (with_reducible exact Below.refl _ _) | (with_reducible refine below_on ?_ _) | (with_reducible refine below_alloc ?_ _)
  have cR : ∀ {b i : Nat} {v : Value}, (W1).cell? ⟨b, i, none⟩ = some v → (on ux).cell? ⟨b, i, none⟩ = some v := fun h => (hR.cell (World.block_lt_of_cell? _ _ h)).trans h
  have fR : ∀ {b i : Nat} {v : Value}, (W1).cell? ⟨b, i, none⟩ = some v → (W1).frozen? ⟨b, i, none⟩ = false → (on ux).frozen? ⟨b, i, none⟩ = false := fun h g => (hR.frozen (World.block_lt_of_cell? _ _ h)).trans g
  have b00'' := cR b00'
  have b01'' := cR b01'
  have b02'' := cR b02'
  have b10'' := cR b10'
  have fb10'' := fR b10' fb10'
  have b11'' := cR b11'
  have fb11'' := fR b11' fb11'
  have b12'' := cR b12'
  have fb12'' := fR b12' fb12'
  have b13'' := cR b13'
  have fb13'' := fR b13' fb13'
  have b14'' := cR b14'
  have fb14'' := fR b14' fb14'
  have b15'' := cR b15'
  have fb15'' := fR b15' fb15'
  have B100' := cR B100
  have B101' := cR B101
  have B102' := cR B102
  have B103' := cR B103
  have B104' := cR B104
  have B105' := cR B105
  have B106' := cR B106
  have B107' := cR B107
  have hB2 : Below w.heap.size w (on ux) := by repeat first | (with_reducible exact hB1) | (with_reducible refine below_on ?_ _) | (with_reducible refine below_alloc ?_ _)
  clear hR cR fR b00' b01' b02' b10' b11' b12' b13' b14' b15' B100 B101 B102 B103 B104 B105 B106 B107 fb10' fb11' fb12' fb13' fb14' fb15' hB1
  generalize (on ux) = W2 at *
  clear ux
  refine region_tail 12 (by kernel_rfl) (by kernel_rfl) ?_
  simp only [List.take_succ_cons, List.take_zero, List.drop_succ_cons, List.drop_zero]
  repeat (first
    | (refine wpLex_plain (by rfl) (by rfl) (by rfl) (fun K hK => ?_); go_big_quiet_op; refine hK _ ?_; clear hK K)
    | (refine wpLex_call (by rfl) (by rfl) (fun K hK => ?_); go_simp; apply Exists.intro; refine ⟨fun _ => ?_, hK _ ?_⟩; ((fail)); clear hK K)
    | (refine wpLex_new (by rfl) ?_; simp only [Act.put, List.setIfInBounds_toArray, List.set_cons_zero, List.set_cons_succ]))
  refine wpLex_nil ?_
  intro u9
  go_wp2_with fail
  exact bodyPost_ret (v := .agg #[.int .i64 (1 + 2 * x), .int .i64 (1 + 2 * y), .int .i64 (2 * x), .int .i64 (2 * y), .int .i64 (2 + 2 * x), .int .i64 (2 * y)]) (by simp [results, Tryd.results16, go_sem, b00'', b01'', b02'', b10'', b11'', b12'', b13'', b14'', b15'', B100', B101', B102', B103', B104', B105', B106', B107'] <;> omega) rfl ⟨rfl, (by repeat first | (with_reducible exact hB2) | (with_reducible refine below_on ?_ _) | (with_reducible refine below_alloc ?_ _) | (with_reducible refine below_set ?_ (by simp; try omega) _))⟩

set_option maxRecDepth 100000 in
set_option maxHeartbeats 2000000 in
theorem rcor_1 (x y : Int) (w : World) (x1 : -100000 ≤ x) (x2 : x ≤ 100000) (y1 : -100000 ≤ y) (y2 : y ≤ 100000) : Calls Tryd.prog 16 #[cl x y 1] w fun e w' => e = .returned (.agg #[.int .i64 (1 + 2 * x), .int .i64 (1 + 2 * y), .int .i64 (2 + 2 * x), .int .i64 (2 + 2 * y), .int .i64 (2 + 2 * x), .int .i64 (2 * y)]) ∧ Below w.heap.size w w' := by
  go_enter Tryd.func16, Tryd.ntmps16
  go_wp2_with fail
  have hB0 : Below w.heap.size w ((w.alloc (.cells #[.int .i64 (x), .int .i64 (y), .int .u8 (1)] 23)).alloc (.cells #[.int .i64 0, .int .i64 0, .int .i64 0, .int .i64 0, .int .i64 0, .int .i64 0] 32)) := (by repeat first | (with_reducible exact Below.refl _ _) | (with_reducible refine below_on ?_ _) | (with_reducible refine below_alloc ?_ _) | (with_reducible refine below_set ?_ (by simp; try omega) _))
  have b00 : ((w.alloc (.cells #[.int .i64 (x), .int .i64 (y), .int .u8 (1)] 23)).alloc (.cells #[.int .i64 0, .int .i64 0, .int .i64 0, .int .i64 0, .int .i64 0, .int .i64 0] 32)).cell? ⟨w.heap.size, 0, none⟩ = some (.int .i64 (x)) := by simp [go_sem]
  have b01 : ((w.alloc (.cells #[.int .i64 (x), .int .i64 (y), .int .u8 (1)] 23)).alloc (.cells #[.int .i64 0, .int .i64 0, .int .i64 0, .int .i64 0, .int .i64 0, .int .i64 0] 32)).cell? ⟨w.heap.size, 1, none⟩ = some (.int .i64 (y)) := by simp [go_sem]
  have b02 : ((w.alloc (.cells #[.int .i64 (x), .int .i64 (y), .int .u8 (1)] 23)).alloc (.cells #[.int .i64 0, .int .i64 0, .int .i64 0, .int .i64 0, .int .i64 0, .int .i64 0] 32)).cell? ⟨w.heap.size, 2, none⟩ = some (.int .u8 (1)) := by simp [go_sem]
  have b10 : ((w.alloc (.cells #[.int .i64 (x), .int .i64 (y), .int .u8 (1)] 23)).alloc (.cells #[.int .i64 0, .int .i64 0, .int .i64 0, .int .i64 0, .int .i64 0, .int .i64 0] 32)).cell? ⟨w.heap.size + 1, 0, none⟩ = some (.int .i64 0) := by simp [go_sem]
  have fb10 : ((w.alloc (.cells #[.int .i64 (x), .int .i64 (y), .int .u8 (1)] 23)).alloc (.cells #[.int .i64 0, .int .i64 0, .int .i64 0, .int .i64 0, .int .i64 0, .int .i64 0] 32)).frozen? ⟨w.heap.size + 1, 0, none⟩ = false := by simp [go_sem]
  have b11 : ((w.alloc (.cells #[.int .i64 (x), .int .i64 (y), .int .u8 (1)] 23)).alloc (.cells #[.int .i64 0, .int .i64 0, .int .i64 0, .int .i64 0, .int .i64 0, .int .i64 0] 32)).cell? ⟨w.heap.size + 1, 1, none⟩ = some (.int .i64 0) := by simp [go_sem]
  have fb11 : ((w.alloc (.cells #[.int .i64 (x), .int .i64 (y), .int .u8 (1)] 23)).alloc (.cells #[.int .i64 0, .int .i64 0, .int .i64 0, .int .i64 0, .int .i64 0, .int .i64 0] 32)).frozen? ⟨w.heap.size + 1, 1, none⟩ = false := by simp [go_sem]
  have b12 : ((w.alloc (.cells #[.int .i64 (x), .int .i64 (y), .int .u8 (1)] 23)).alloc (.cells #[.int .i64 0, .int .i64 0, .int .i64 0, .int .i64 0, .int .i64 0, .int .i64 0] 32)).cell? ⟨w.heap.size + 1, 2, none⟩ = some (.int .i64 0) := by simp [go_sem]
  have fb12 : ((w.alloc (.cells #[.int .i64 (x), .int .i64 (y), .int .u8 (1)] 23)).alloc (.cells #[.int .i64 0, .int .i64 0, .int .i64 0, .int .i64 0, .int .i64 0, .int .i64 0] 32)).frozen? ⟨w.heap.size + 1, 2, none⟩ = false := by simp [go_sem]
  have b13 : ((w.alloc (.cells #[.int .i64 (x), .int .i64 (y), .int .u8 (1)] 23)).alloc (.cells #[.int .i64 0, .int .i64 0, .int .i64 0, .int .i64 0, .int .i64 0, .int .i64 0] 32)).cell? ⟨w.heap.size + 1, 3, none⟩ = some (.int .i64 0) := by simp [go_sem]
  have fb13 : ((w.alloc (.cells #[.int .i64 (x), .int .i64 (y), .int .u8 (1)] 23)).alloc (.cells #[.int .i64 0, .int .i64 0, .int .i64 0, .int .i64 0, .int .i64 0, .int .i64 0] 32)).frozen? ⟨w.heap.size + 1, 3, none⟩ = false := by simp [go_sem]
  have b14 : ((w.alloc (.cells #[.int .i64 (x), .int .i64 (y), .int .u8 (1)] 23)).alloc (.cells #[.int .i64 0, .int .i64 0, .int .i64 0, .int .i64 0, .int .i64 0, .int .i64 0] 32)).cell? ⟨w.heap.size + 1, 4, none⟩ = some (.int .i64 0) := by simp [go_sem]
  have fb14 : ((w.alloc (.cells #[.int .i64 (x), .int .i64 (y), .int .u8 (1)] 23)).alloc (.cells #[.int .i64 0, .int .i64 0, .int .i64 0, .int .i64 0, .int .i64 0, .int .i64 0] 32)).frozen? ⟨w.heap.size + 1, 4, none⟩ = false := by simp [go_sem]
  have b15 : ((w.alloc (.cells #[.int .i64 (x), .int .i64 (y), .int .u8 (1)] 23)).alloc (.cells #[.int .i64 0, .int .i64 0, .int .i64 0, .int .i64 0, .int .i64 0, .int .i64 0] 32)).cell? ⟨w.heap.size + 1, 5, none⟩ = some (.int .i64 0) := by simp [go_sem]
  have fb15 : ((w.alloc (.cells #[.int .i64 (x), .int .i64 (y), .int .u8 (1)] 23)).alloc (.cells #[.int .i64 0, .int .i64 0, .int .i64 0, .int .i64 0, .int .i64 0, .int .i64 0] 32)).frozen? ⟨w.heap.size + 1, 5, none⟩ = false := by simp [go_sem]
  generalize ((w.alloc (.cells #[.int .i64 (x), .int .i64 (y), .int .u8 (1)] 23)).alloc (.cells #[.int .i64 0, .int .i64 0, .int .i64 0, .int .i64 0, .int .i64 0, .int .i64 0] 32)) = W0 at *
  refine region_later (by kernel_rfl) (by kernel_rfl) ?_
  repeat (go_big_quiet_step (fail))
  refine wpQuiet_nil ?_
  rintro _ ⟨ux, rfl⟩
  go_wp2_with fail
  have hR : Below (W0).heap.size (W0) ((on ux).alloc (.cells #[.int .i64 (2 * x), .int .i64 (2 * y), .int .i64 (2 * x + 2), .int .i64 (2 * y), .int .i64 (2 * x + 2), .int .i64 (2 * y + 2), .int .i64 (2 * x), .int .i64 (2 * y + 2)] 90)) := by repeat first | (with_reducible exact Below.refl _ _) | (with_reducible refine below_on ?_ _) | (with_reducible refine below_alloc ?_ _)
  have cR : ∀ {b i : Nat} {v : Value}, (W0).cell? ⟨b, i, none⟩ = some v → ((on ux).alloc (.cells #[.int .i64 (2 * x), .int .i64 (2 * y), .int .i64 (2 * x + 2), .int .i64 (2 * y), .int .i64 (2 * x + 2), .int .i64 (2 * y + 2), .int .i64 (2 * x), .int .i64 (2 * y + 2)] 90)).cell? ⟨b, i, none⟩ = some v := fun h => (hR.cell (World.block_lt_of_cell? _ _ h)).trans h
  have fR : ∀ {b i : Nat} {v : Value}, (W0).cell? ⟨b, i, none⟩ = some v → (W0).frozen? ⟨b, i, none⟩ = false → ((on ux).alloc (.cells #[.int .i64 (2 * x), .int .i64 (2 * y), .int .i64 (2 * x + 2), .int .i64 (2 * y), .int .i64 (2 * x + 2), .int .i64 (2 * y + 2), .int .i64 (2 * x), .int .i64 (2 * y + 2)] 90)).frozen? ⟨b, i, none⟩ = false := fun h g => (hR.frozen (World.block_lt_of_cell? _ _ h)).trans g
  have b00' := cR b00
  have b01' := cR b01
  have b02' := cR b02
  have b10' := cR b10
  have fb10' := fR b10 fb10
  have b11' := cR b11
  have fb11' := fR b11 fb11
  have b12' := cR b12
  have fb12' := fR b12 fb12
  have b13' := cR b13
  have fb13' := fR b13 fb13
  have b14' := cR b14
  have fb14' := fR b14 fb14
  have b15' := cR b15
  have fb15' := fR b15 fb15
  have B100 : ((on ux).alloc (.cells #[.int .i64 (2 * x), .int .i64 (2 * y), .int .i64 (2 * x + 2), .int .i64 (2 * y), .int .i64 (2 * x + 2), .int .i64 (2 * y + 2), .int .i64 (2 * x), .int .i64 (2 * y + 2)] 90)).cell? ⟨(on ux).heap.size, 0, none⟩ = some (.int .i64 (2 * x)) := by simp [go_sem]
  have B101 : ((on ux).alloc (.cells #[.int .i64 (2 * x), .int .i64 (2 * y), .int .i64 (2 * x + 2), .int .i64 (2 * y), .int .i64 (2 * x + 2), .int .i64 (2 * y + 2), .int .i64 (2 * x), .int .i64 (2 * y + 2)] 90)).cell? ⟨(on ux).heap.size, 1, none⟩ = some (.int .i64 (2 * y)) := by simp [go_sem]
  have B102 : ((on ux).alloc (.cells #[.int .i64 (2 * x), .int .i64 (2 * y), .int .i64 (2 * x + 2), .int .i64 (2 * y), .int .i64 (2 * x + 2), .int .i64 (2 * y + 2), .int .i64 (2 * x), .int .i64 (2 * y + 2)] 90)).cell? ⟨(on ux).heap.size, 2, none⟩ = some (.int .i64 (2 * x + 2)) := by simp [go_sem]
  have B103 : ((on ux).alloc (.cells #[.int .i64 (2 * x), .int .i64 (2 * y), .int .i64 (2 * x + 2), .int .i64 (2 * y), .int .i64 (2 * x + 2), .int .i64 (2 * y + 2), .int .i64 (2 * x), .int .i64 (2 * y + 2)] 90)).cell? ⟨(on ux).heap.size, 3, none⟩ = some (.int .i64 (2 * y)) := by simp [go_sem]
  have B104 : ((on ux).alloc (.cells #[.int .i64 (2 * x), .int .i64 (2 * y), .int .i64 (2 * x + 2), .int .i64 (2 * y), .int .i64 (2 * x + 2), .int .i64 (2 * y + 2), .int .i64 (2 * x), .int .i64 (2 * y + 2)] 90)).cell? ⟨(on ux).heap.size, 4, none⟩ = some (.int .i64 (2 * x + 2)) := by simp [go_sem]
  have B105 : ((on ux).alloc (.cells #[.int .i64 (2 * x), .int .i64 (2 * y), .int .i64 (2 * x + 2), .int .i64 (2 * y), .int .i64 (2 * x + 2), .int .i64 (2 * y + 2), .int .i64 (2 * x), .int .i64 (2 * y + 2)] 90)).cell? ⟨(on ux).heap.size, 5, none⟩ = some (.int .i64 (2 * y + 2)) := by simp [go_sem]
  have B106 : ((on ux).alloc (.cells #[.int .i64 (2 * x), .int .i64 (2 * y), .int .i64 (2 * x + 2), .int .i64 (2 * y), .int .i64 (2 * x + 2), .int .i64 (2 * y + 2), .int .i64 (2 * x), .int .i64 (2 * y + 2)] 90)).cell? ⟨(on ux).heap.size, 6, none⟩ = some (.int .i64 (2 * x)) := by simp [go_sem]
  have B107 : ((on ux).alloc (.cells #[.int .i64 (2 * x), .int .i64 (2 * y), .int .i64 (2 * x + 2), .int .i64 (2 * y), .int .i64 (2 * x + 2), .int .i64 (2 * y + 2), .int .i64 (2 * x), .int .i64 (2 * y + 2)] 90)).cell? ⟨(on ux).heap.size, 7, none⟩ = some (.int .i64 (2 * y + 2)) := by simp [go_sem]
  have hB1 : Below w.heap.size w ((on ux).alloc (.cells #[.int .i64 (2 * x), .int .i64 (2 * y), .int .i64 (2 * x + 2), .int .i64 (2 * y), .int .i64 (2 * x + 2), .int .i64 (2 * y + 2), .int .i64 (2 * x), .int .i64 (2 * y + 2)] 90)) := by repeat first | (with_reducible exact hB0) | (with_reducible refine below_on ?_ _) | (with_reducible refine below_alloc ?_ _)
  clear hR cR fR b00 b01 b02 b10 b11 b12 b13 b14 b15 fb10 fb11 fb12 fb13 fb14 fb15 hB0
  generalize ((on ux).alloc (.cells #[.int .i64 (2 * x), .int .i64 (2 * y), .int .i64 (2 * x + 2), .int .i64 (2 * y), .int .i64 (2 * x + 2), .int .i64 (2 * y + 2), .int .i64 (2 * x), .int .i64 (2 * y + 2)] 90)) = W1 at *
  generalize (on ux).heap.size = B1 at *
  clear ux
  refine region_later (by kernel_rfl) (by kernel_rfl) ?_
  repeat (go_big_quiet_step (fail))
  refine wpQuiet_nil ?_
  rintro _ ⟨ux, rfl⟩
  go_wp2_with fail
  have hR : Below (W1).heap.size (W1) (on ux) := by repeat first | (with_reducible exact Below.refl _ _) | (with_reducible refine below_on ?_ _) | (with_reducible refine below_alloc ?_ _)
  have cR : ∀ {b i : Nat} {v : Value}, (W1).cell? ⟨b, i, none⟩ = some v → (on ux).cell? ⟨b, i, none⟩ = some v := fun h => (hR.cell (World.block_lt_of_cell? _ _ h)).trans h
  have fR : ∀ {b i : Nat} {v : Value}, (W1).cell? ⟨b, i, none⟩ = some v → (W1).frozen? ⟨b, i, none⟩ = false → (on ux).frozen? ⟨b, i, none⟩ = false := fun h g => (hR.frozen (World.block_lt_of_cell? _ _ h)).trans g
  have b00'' := cR b00'
  have b01'' := cR b01'
  have b02'' := cR b02'
  have b10'' := cR b10'
  have fb10'' := fR b10' fb10'
  have b11'' := cR b11'
  have fb11'' := fR b11' fb11'
  have b12'' := cR b12'
  have fb12'' := fR b12' fb12'
  have b13'' := cR b13'
  have fb13'' := fR b13' fb13'
  have b14'' := cR b14'
  have fb14'' := fR b14' fb14'
  have b15'' := cR b15'
  have fb15'' := fR b15' fb15'
  have B100' := cR B100
  have B101' := cR B101
  have B102' := cR B102
  have B103' := cR B103
  have B104' := cR B104
  have B105' := cR B105
  have B106' := cR B106
  have B107' := cR B107
  have hB2 : Below w.heap.size w (on ux) := by repeat first | (with_reducible exact hB1) | (with_reducible refine below_on ?_ _) | (with_reducible refine below_alloc ?_ _)
  clear hR cR fR b00' b01' b02' b10' b11' b12' b13' b14' b15' B100 B101 B102 B103 B104 B105 B106 B107 fb10' fb11' fb12' fb13' fb14' fb15' hB1
  generalize (on ux) = W2 at *
  clear ux
  refine region_tail 12 (by kernel_rfl) (by kernel_rfl) ?_
  simp only [List.take_succ_cons, List.take_zero, List.drop_succ_cons, List.drop_zero]
  repeat (first
    | (refine wpLex_plain (by rfl) (by rfl) (by rfl) (fun K hK => ?_); go_big_quiet_op; refine hK _ ?_; clear hK K)
    | (refine wpLex_call (by rfl) (by rfl) (fun K hK => ?_); go_simp; apply Exists.intro; refine ⟨fun _ => ?_, hK _ ?_⟩; ((fail)); clear hK K)
    | (refine wpLex_new (by rfl) ?_; simp only [Act.put, List.setIfInBounds_toArray, List.set_cons_zero, List.set_cons_succ]))
  refine wpLex_nil ?_
  intro u9
  go_wp2_with fail
  exact bodyPost_ret (v := .agg #[.int .i64 (1 + 2 * x), .int .i64 (1 + 2 * y), .int .i64 (2 + 2 * x), .int .i64 (2 + 2 * y), .int .i64 (2 + 2 * x), .int .i64 (2 * y)]) (by simp [results, Tryd.results16, go_sem, b00'', b01'', b02'', b10'', b11'', b12'', b13'', b14'', b15'', B100', B101', B102', B103', B104', B105', B106', B107'] <;> omega) rfl ⟨rfl, (by repeat first | (with_reducible exact hB2) | (with_reducible refine below_on ?_ _) | (with_reducible refine below_alloc ?_ _) | (with_reducible refine below_set ?_ (by simp; try omega) _))⟩

set_option maxRecDepth 100000 in
set_option maxHeartbeats 2000000 in
theorem rcor_2 (x y : Int) (w : World) (x1 : -100000 ≤ x) (x2 : x ≤ 100000) (y1 : -100000 ≤ y) (y2 : y ≤ 100000) : Calls Tryd.prog 16 #[cl x y 2] w fun e w' => e = .returned (.agg #[.int .i64 (1 + 2 * x), .int .i64 (1 + 2 * y), .int .i64 (2 + 2 * x), .int .i64 (2 + 2 * y), .int .i64 (2 * x), .int .i64 (2 + 2 * y)]) ∧ Below w.heap.size w w' := by
  go_enter Tryd.func16, Tryd.ntmps16
  go_wp2_with fail
  have hB0 : Below w.heap.size w ((w.alloc (.cells #[.int .i64 (x), .int .i64 (y), .int .u8 (2)] 23)).alloc (.cells #[.int .i64 0, .int .i64 0, .int .i64 0, .int .i64 0, .int .i64 0, .int .i64 0] 32)) := (by repeat first | (with_reducible exact Below.refl _ _) | (with_reducible refine below_on ?_ _) | (with_reducible refine below_alloc ?_ _) | (with_reducible refine below_set ?_ (by simp; try omega) _))
  have b00 : ((w.alloc (.cells #[.int .i64 (x), .int .i64 (y), .int .u8 (2)] 23)).alloc (.cells #[.int .i64 0, .int .i64 0, .int .i64 0, .int .i64 0, .int .i64 0, .int .i64 0] 32)).cell? ⟨w.heap.size, 0, none⟩ = some (.int .i64 (x)) := by simp [go_sem]
  have b01 : ((w.alloc (.cells #[.int .i64 (x), .int .i64 (y), .int .u8 (2)] 23)).alloc (.cells #[.int .i64 0, .int .i64 0, .int .i64 0, .int .i64 0, .int .i64 0, .int .i64 0] 32)).cell? ⟨w.heap.size, 1, none⟩ = some (.int .i64 (y)) := by simp [go_sem]
  have b02 : ((w.alloc (.cells #[.int .i64 (x), .int .i64 (y), .int .u8 (2)] 23)).alloc (.cells #[.int .i64 0, .int .i64 0, .int .i64 0, .int .i64 0, .int .i64 0, .int .i64 0] 32)).cell? ⟨w.heap.size, 2, none⟩ = some (.int .u8 (2)) := by simp [go_sem]
  have b10 : ((w.alloc (.cells #[.int .i64 (x), .int .i64 (y), .int .u8 (2)] 23)).alloc (.cells #[.int .i64 0, .int .i64 0, .int .i64 0, .int .i64 0, .int .i64 0, .int .i64 0] 32)).cell? ⟨w.heap.size + 1, 0, none⟩ = some (.int .i64 0) := by simp [go_sem]
  have fb10 : ((w.alloc (.cells #[.int .i64 (x), .int .i64 (y), .int .u8 (2)] 23)).alloc (.cells #[.int .i64 0, .int .i64 0, .int .i64 0, .int .i64 0, .int .i64 0, .int .i64 0] 32)).frozen? ⟨w.heap.size + 1, 0, none⟩ = false := by simp [go_sem]
  have b11 : ((w.alloc (.cells #[.int .i64 (x), .int .i64 (y), .int .u8 (2)] 23)).alloc (.cells #[.int .i64 0, .int .i64 0, .int .i64 0, .int .i64 0, .int .i64 0, .int .i64 0] 32)).cell? ⟨w.heap.size + 1, 1, none⟩ = some (.int .i64 0) := by simp [go_sem]
  have fb11 : ((w.alloc (.cells #[.int .i64 (x), .int .i64 (y), .int .u8 (2)] 23)).alloc (.cells #[.int .i64 0, .int .i64 0, .int .i64 0, .int .i64 0, .int .i64 0, .int .i64 0] 32)).frozen? ⟨w.heap.size + 1, 1, none⟩ = false := by simp [go_sem]
  have b12 : ((w.alloc (.cells #[.int .i64 (x), .int .i64 (y), .int .u8 (2)] 23)).alloc (.cells #[.int .i64 0, .int .i64 0, .int .i64 0, .int .i64 0, .int .i64 0, .int .i64 0] 32)).cell? ⟨w.heap.size + 1, 2, none⟩ = some (.int .i64 0) := by simp [go_sem]
  have fb12 : ((w.alloc (.cells #[.int .i64 (x), .int .i64 (y), .int .u8 (2)] 23)).alloc (.cells #[.int .i64 0, .int .i64 0, .int .i64 0, .int .i64 0, .int .i64 0, .int .i64 0] 32)).frozen? ⟨w.heap.size + 1, 2, none⟩ = false := by simp [go_sem]
  have b13 : ((w.alloc (.cells #[.int .i64 (x), .int .i64 (y), .int .u8 (2)] 23)).alloc (.cells #[.int .i64 0, .int .i64 0, .int .i64 0, .int .i64 0, .int .i64 0, .int .i64 0] 32)).cell? ⟨w.heap.size + 1, 3, none⟩ = some (.int .i64 0) := by simp [go_sem]
  have fb13 : ((w.alloc (.cells #[.int .i64 (x), .int .i64 (y), .int .u8 (2)] 23)).alloc (.cells #[.int .i64 0, .int .i64 0, .int .i64 0, .int .i64 0, .int .i64 0, .int .i64 0] 32)).frozen? ⟨w.heap.size + 1, 3, none⟩ = false := by simp [go_sem]
  have b14 : ((w.alloc (.cells #[.int .i64 (x), .int .i64 (y), .int .u8 (2)] 23)).alloc (.cells #[.int .i64 0, .int .i64 0, .int .i64 0, .int .i64 0, .int .i64 0, .int .i64 0] 32)).cell? ⟨w.heap.size + 1, 4, none⟩ = some (.int .i64 0) := by simp [go_sem]
  have fb14 : ((w.alloc (.cells #[.int .i64 (x), .int .i64 (y), .int .u8 (2)] 23)).alloc (.cells #[.int .i64 0, .int .i64 0, .int .i64 0, .int .i64 0, .int .i64 0, .int .i64 0] 32)).frozen? ⟨w.heap.size + 1, 4, none⟩ = false := by simp [go_sem]
  have b15 : ((w.alloc (.cells #[.int .i64 (x), .int .i64 (y), .int .u8 (2)] 23)).alloc (.cells #[.int .i64 0, .int .i64 0, .int .i64 0, .int .i64 0, .int .i64 0, .int .i64 0] 32)).cell? ⟨w.heap.size + 1, 5, none⟩ = some (.int .i64 0) := by simp [go_sem]
  have fb15 : ((w.alloc (.cells #[.int .i64 (x), .int .i64 (y), .int .u8 (2)] 23)).alloc (.cells #[.int .i64 0, .int .i64 0, .int .i64 0, .int .i64 0, .int .i64 0, .int .i64 0] 32)).frozen? ⟨w.heap.size + 1, 5, none⟩ = false := by simp [go_sem]
  generalize ((w.alloc (.cells #[.int .i64 (x), .int .i64 (y), .int .u8 (2)] 23)).alloc (.cells #[.int .i64 0, .int .i64 0, .int .i64 0, .int .i64 0, .int .i64 0, .int .i64 0] 32)) = W0 at *
  refine region_later (by kernel_rfl) (by kernel_rfl) ?_
  repeat (go_big_quiet_step (fail))
  refine wpQuiet_nil ?_
  rintro _ ⟨ux, rfl⟩
  go_wp2_with fail
  have hR : Below (W0).heap.size (W0) ((on ux).alloc (.cells #[.int .i64 (2 * x), .int .i64 (2 * y), .int .i64 (2 * x + 2), .int .i64 (2 * y), .int .i64 (2 * x + 2), .int .i64 (2 * y + 2), .int .i64 (2 * x), .int .i64 (2 * y + 2)] 90)) := by repeat first | (with_reducible exact Below.refl _ _) | (with_reducible refine below_on ?_ _) | (with_reducible refine below_alloc ?_ _)
  have cR : ∀ {b i : Nat} {v : Value}, (W0).cell? ⟨b, i, none⟩ = some v → ((on ux).alloc (.cells #[.int .i64 (2 * x), .int .i64 (2 * y), .int .i64 (2 * x + 2), .int .i64 (2 * y), .int .i64 (2 * x + 2), .int .i64 (2 * y + 2), .int .i64 (2 * x), .int .i64 (2 * y + 2)] 90)).cell? ⟨b, i, none⟩ = some v := fun h => (hR.cell (World.block_lt_of_cell? _ _ h)).trans h
  have fR : ∀ {b i : Nat} {v : Value}, (W0).cell? ⟨b, i, none⟩ = some v → (W0).frozen? ⟨b, i, none⟩ = false → ((on ux).alloc (.cells #[.int .i64 (2 * x), .int .i64 (2 * y), .int .i64 (2 * x + 2), .int .i64 (2 * y), .int .i64 (2 * x + 2), .int .i64 (2 * y + 2), .int .i64 (2 * x), .int .i64 (2 * y + 2)] 90)).frozen? ⟨b, i, none⟩ = false := fun h g => (hR.frozen (World.block_lt_of_cell? _ _ h)).trans g
  have b00' := cR b00
  have b01' := cR b01
  have b02' := cR b02
  have b10' := cR b10
  have fb10' := fR b10 fb10
  have b11' := cR b11
  have fb11' := fR b11 fb11
  have b12' := cR b12
  have fb12' := fR b12 fb12
  have b13' := cR b13
  have fb13' := fR b13 fb13
  have b14' := cR b14
  have fb14' := fR b14 fb14
  have b15' := cR b15
  have fb15' := fR b15 fb15
  have B100 : ((on ux).alloc (.cells #[.int .i64 (2 * x), .int .i64 (2 * y), .int .i64 (2 * x + 2), .int .i64 (2 * y), .int .i64 (2 * x + 2), .int .i64 (2 * y + 2), .int .i64 (2 * x), .int .i64 (2 * y + 2)] 90)).cell? ⟨(on ux).heap.size, 0, none⟩ = some (.int .i64 (2 * x)) := by simp [go_sem]
  have B101 : ((on ux).alloc (.cells #[.int .i64 (2 * x), .int .i64 (2 * y), .int .i64 (2 * x + 2), .int .i64 (2 * y), .int .i64 (2 * x + 2), .int .i64 (2 * y + 2), .int .i64 (2 * x), .int .i64 (2 * y + 2)] 90)).cell? ⟨(on ux).heap.size, 1, none⟩ = some (.int .i64 (2 * y)) := by simp [go_sem]
  have B102 : ((on ux).alloc (.cells #[.int .i64 (2 * x), .int .i64 (2 * y), .int .i64 (2 * x + 2), .int .i64 (2 * y), .int .i64 (2 * x + 2), .int .i64 (2 * y + 2), .int .i64 (2 * x), .int .i64 (2 * y + 2)] 90)).cell? ⟨(on ux).heap.size, 2, none⟩ = some (.int .i64 (2 * x + 2)) := by simp [go_sem]
  have B103 : ((on ux).alloc (.cells #[.int .i64 (2 * x), .int .i64 (2 * y), .int .i64 (2 * x + 2), .int .i64 (2 * y), .int .i64 (2 * x + 2), .int .i64 (2 * y + 2), .int .i64 (2 * x), .int .i64 (2 * y + 2)] 90)).cell? ⟨(on ux).heap.size, 3, none⟩ = some (.int .i64 (2 * y)) := by simp [go_sem]
  have B104 : ((on ux).alloc (.cells #[.int .i64 (2 * x), .int .i64 (2 * y), .int .i64 (2 * x + 2), .int .i64 (2 * y), .int .i64 (2 * x + 2), .int .i64 (2 * y + 2), .int .i64 (2 * x), .int .i64 (2 * y + 2)] 90)).cell? ⟨(on ux).heap.size, 4, none⟩ = some (.int .i64 (2 * x + 2)) := by simp [go_sem]
  have B105 : ((on ux).alloc (.cells #[.int .i64 (2 * x), .int .i64 (2 * y), .int .i64 (2 * x + 2), .int .i64 (2 * y), .int .i64 (2 * x + 2), .int .i64 (2 * y + 2), .int .i64 (2 * x), .int .i64 (2 * y + 2)] 90)).cell? ⟨(on ux).heap.size, 5, none⟩ = some (.int .i64 (2 * y + 2)) := by simp [go_sem]
  have B106 : ((on ux).alloc (.cells #[.int .i64 (2 * x), .int .i64 (2 * y), .int .i64 (2 * x + 2), .int .i64 (2 * y), .int .i64 (2 * x + 2), .int .i64 (2 * y + 2), .int .i64 (2 * x), .int .i64 (2 * y + 2)] 90)).cell? ⟨(on ux).heap.size, 6, none⟩ = some (.int .i64 (2 * x)) := by simp [go_sem]
  have B107 : ((on ux).alloc (.cells #[.int .i64 (2 * x), .int .i64 (2 * y), .int .i64 (2 * x + 2), .int .i64 (2 * y), .int .i64 (2 * x + 2), .int .i64 (2 * y + 2), .int .i64 (2 * x), .int .i64 (2 * y + 2)] 90)).cell? ⟨(on ux).heap.size, 7, none⟩ = some (.int .i64 (2 * y + 2)) := by simp [go_sem]
  have hB1 : Below w.heap.size w ((on ux).alloc (.cells #[.int .i64 (2 * x), .int .i64 (2 * y), .int .i64 (2 * x + 2), .int .i64 (2 * y), .int .i64 (2 * x + 2), .int .i64 (2 * y + 2), .int .i64 (2 * x), .int .i64 (2 * y + 2)] 90)) := by repeat first | (with_reducible exact hB0) | (with_reducible refine below_on ?_ _) | (with_reducible refine below_alloc ?_ _)
  clear hR cR fR b00 b01 b02 b10 b11 b12 b13 b14 b15 fb10 fb11 fb12 fb13 fb14 fb15 hB0
  generalize ((on ux).alloc (.cells #[.int .i64 (2 * x), .int .i64 (2 * y), .int .i64 (2 * x + 2), .int .i64 (2 * y), .int .i64 (2 * x + 2), .int .i64 (2 * y + 2), .int .i64 (2 * x), .int .i64 (2 * y + 2)] 90)) = W1 at *
  generalize (on ux).heap.size = B1 at *
  clear ux
  refine region_later (by kernel_rfl) (by kernel_rfl) ?_
  repeat (go_big_quiet_step (fail))
  refine wpQuiet_nil ?_
  rintro _ ⟨ux, rfl⟩
  go_wp2_with fail
  have hR : Below (W1).heap.size (W1) (on ux) := by repeat first | (with_reducible exact Below.refl _ _) | (with_reducible refine below_on ?_ _) | (with_reducible refine below_alloc ?_ _)
  have cR : ∀ {b i : Nat} {v : Value}, (W1).cell? ⟨b, i, none⟩ = some v → (on ux).cell? ⟨b, i, none⟩ = some v := fun h => (hR.cell (World.block_lt_of_cell? _ _ h)).trans h
  have fR : ∀ {b i : Nat} {v : Value}, (W1).cell? ⟨b, i, none⟩ = some v → (W1).frozen? ⟨b, i, none⟩ = false → (on ux).frozen? ⟨b, i, none⟩ = false := fun h g => (hR.frozen (World.block_lt_of_cell? _ _ h)).trans g
  have b00'' := cR b00'
  have b01'' := cR b01'
  have b02'' := cR b02'
  have b10'' := cR b10'
  have fb10'' := fR b10' fb10'
  have b11'' := cR b11'
  have fb11'' := fR b11' fb11'
  have b12'' := cR b12'
  have fb12'' := fR b12' fb12'
  have b13'' := cR b13'
  have fb13'' := fR b13' fb13'
  have b14'' := cR b14'
  have fb14'' := fR b14' fb14'
  have b15'' := cR b15'
  have fb15'' := fR b15' fb15'
  have B100' := cR B100
  have B101' := cR B101
  have B102' := cR B102
  have B103' := cR B103
  have B104' := cR B104
  have B105' := cR B105
  have B106' := cR B106
  have B107' := cR B107
  have hB2 : Below w.heap.size w (on ux) := by repeat first | (with_reducible exact hB1) | (with_reducible refine below_on ?_ _) | (with_reducible refine below_alloc ?_ _)
  clear hR cR fR b00' b01' b02' b10' b11' b12' b13' b14' b15' B100 B101 B102 B103 B104 B105 B106 B107 fb10' fb11' fb12' fb13' fb14' fb15' hB1
  generalize (on ux) = W2 at *
  clear ux
  refine region_tail 12 (by kernel_rfl) (by kernel_rfl) ?_
  simp only [List.take_succ_cons, List.take_zero, List.drop_succ_cons, List.drop_zero]
  repeat (first
    | (refine wpLex_plain (by rfl) (by rfl) (by rfl) (fun K hK => ?_); go_big_quiet_op; refine hK _ ?_; clear hK K)
    | (refine wpLex_call (by rfl) (by rfl) (fun K hK => ?_); go_simp; apply Exists.intro; refine ⟨fun _ => ?_, hK _ ?_⟩; ((fail)); clear hK K)
    | (refine wpLex_new (by rfl) ?_; simp only [Act.put, List.setIfInBounds_toArray, List.set_cons_zero, List.set_cons_succ]))
  refine wpLex_nil ?_
  intro u9
  go_wp2_with fail
  exact bodyPost_ret (v := .agg #[.int .i64 (1 + 2 * x), .int .i64 (1 + 2 * y), .int .i64 (2 + 2 * x), .int .i64 (2 + 2 * y), .int .i64 (2 * x), .int .i64 (2 + 2 * y)]) (by simp [results, Tryd.results16, go_sem, b00'', b01'', b02'', b10'', b11'', b12'', b13'', b14'', b15'', B100', B101', B102', B103', B104', B105', B106', B107'] <;> omega) rfl ⟨rfl, (by repeat first | (with_reducible exact hB2) | (with_reducible refine below_on ?_ _) | (with_reducible refine below_alloc ?_ _) | (with_reducible refine below_set ?_ (by simp; try omega) _))⟩

set_option maxRecDepth 100000 in
set_option maxHeartbeats 2000000 in
theorem rcor_3 (x y : Int) (w : World) (x1 : -100000 ≤ x) (x2 : x ≤ 100000) (y1 : -100000 ≤ y) (y2 : y ≤ 100000) : Calls Tryd.prog 16 #[cl x y 3] w fun e w' => e = .returned (.agg #[.int .i64 (1 + 2 * x), .int .i64 (1 + 2 * y), .int .i64 (2 * x), .int .i64 (2 * y), .int .i64 (2 * x), .int .i64 (2 + 2 * y)]) ∧ Below w.heap.size w w' := by
  go_enter Tryd.func16, Tryd.ntmps16
  go_wp2_with fail
  have hB0 : Below w.heap.size w ((w.alloc (.cells #[.int .i64 (x), .int .i64 (y), .int .u8 (3)] 23)).alloc (.cells #[.int .i64 0, .int .i64 0, .int .i64 0, .int .i64 0, .int .i64 0, .int .i64 0] 32)) := (by repeat first | (with_reducible exact Below.refl _ _) | (with_reducible refine below_on ?_ _) | (with_reducible refine below_alloc ?_ _) | (with_reducible refine below_set ?_ (by simp; try omega) _))
  have b00 : ((w.alloc (.cells #[.int .i64 (x), .int .i64 (y), .int .u8 (3)] 23)).alloc (.cells #[.int .i64 0, .int .i64 0, .int .i64 0, .int .i64 0, .int .i64 0, .int .i64 0] 32)).cell? ⟨w.heap.size, 0, none⟩ = some (.int .i64 (x)) := by simp [go_sem]
  have b01 : ((w.alloc (.cells #[.int .i64 (x), .int .i64 (y), .int .u8 (3)] 23)).alloc (.cells #[.int .i64 0, .int .i64 0, .int .i64 0, .int .i64 0, .int .i64 0, .int .i64 0] 32)).cell? ⟨w.heap.size, 1, none⟩ = some (.int .i64 (y)) := by simp [go_sem]
  have b02 : ((w.alloc (.cells #[.int .i64 (x), .int .i64 (y), .int .u8 (3)] 23)).alloc (.cells #[.int .i64 0, .int .i64 0, .int .i64 0, .int .i64 0, .int .i64 0, .int .i64 0] 32)).cell? ⟨w.heap.size, 2, none⟩ = some (.int .u8 (3)) := by simp [go_sem]
  have b10 : ((w.alloc (.cells #[.int .i64 (x), .int .i64 (y), .int .u8 (3)] 23)).alloc (.cells #[.int .i64 0, .int .i64 0, .int .i64 0, .int .i64 0, .int .i64 0, .int .i64 0] 32)).cell? ⟨w.heap.size + 1, 0, none⟩ = some (.int .i64 0) := by simp [go_sem]
  have fb10 : ((w.alloc (.cells #[.int .i64 (x), .int .i64 (y), .int .u8 (3)] 23)).alloc (.cells #[.int .i64 0, .int .i64 0, .int .i64 0, .int .i64 0, .int .i64 0, .int .i64 0] 32)).frozen? ⟨w.heap.size + 1, 0, none⟩ = false := by simp [go_sem]
  have b11 : ((w.alloc (.cells #[.int .i64 (x), .int .i64 (y), .int .u8 (3)] 23)).alloc (.cells #[.int .i64 0, .int .i64 0, .int .i64 0, .int .i64 0, .int .i64 0, .int .i64 0] 32)).cell? ⟨w.heap.size + 1, 1, none⟩ = some (.int .i64 0) := by simp [go_sem]
  have fb11 : ((w.alloc (.cells #[.int .i64 (x), .int .i64 (y), .int .u8 (3)] 23)).alloc (.cells #[.int .i64 0, .int .i64 0, .int .i64 0, .int .i64 0, .int .i64 0, .int .i64 0] 32)).frozen? ⟨w.heap.size + 1, 1, none⟩ = false := by simp [go_sem]
  have b12 : ((w.alloc (.cells #[.int .i64 (x), .int .i64 (y), .int .u8 (3)] 23)).alloc (.cells #[.int .i64 0, .int .i64 0, .int .i64 0, .int .i64 0, .int .i64 0, .int .i64 0] 32)).cell? ⟨w.heap.size + 1, 2, none⟩ = some (.int .i64 0) := by simp [go_sem]
  have fb12 : ((w.alloc (.cells #[.int .i64 (x), .int .i64 (y), .int .u8 (3)] 23)).alloc (.cells #[.int .i64 0, .int .i64 0, .int .i64 0, .int .i64 0, .int .i64 0, .int .i64 0] 32)).frozen? ⟨w.heap.size + 1, 2, none⟩ = false := by simp [go_sem]
  have b13 : ((w.alloc (.cells #[.int .i64 (x), .int .i64 (y), .int .u8 (3)] 23)).alloc (.cells #[.int .i64 0, .int .i64 0, .int .i64 0, .int .i64 0, .int .i64 0, .int .i64 0] 32)).cell? ⟨w.heap.size + 1, 3, none⟩ = some (.int .i64 0) := by simp [go_sem]
  have fb13 : ((w.alloc (.cells #[.int .i64 (x), .int .i64 (y), .int .u8 (3)] 23)).alloc (.cells #[.int .i64 0, .int .i64 0, .int .i64 0, .int .i64 0, .int .i64 0, .int .i64 0] 32)).frozen? ⟨w.heap.size + 1, 3, none⟩ = false := by simp [go_sem]
  have b14 : ((w.alloc (.cells #[.int .i64 (x), .int .i64 (y), .int .u8 (3)] 23)).alloc (.cells #[.int .i64 0, .int .i64 0, .int .i64 0, .int .i64 0, .int .i64 0, .int .i64 0] 32)).cell? ⟨w.heap.size + 1, 4, none⟩ = some (.int .i64 0) := by simp [go_sem]
  have fb14 : ((w.alloc (.cells #[.int .i64 (x), .int .i64 (y), .int .u8 (3)] 23)).alloc (.cells #[.int .i64 0, .int .i64 0, .int .i64 0, .int .i64 0, .int .i64 0, .int .i64 0] 32)).frozen? ⟨w.heap.size + 1, 4, none⟩ = false := by simp [go_sem]
  have b15 : ((w.alloc (.cells #[.int .i64 (x), .int .i64 (y), .int .u8 (3)] 23)).alloc (.cells #[.int .i64 0, .int .i64 0, .int .i64 0, .int .i64 0, .int .i64 0, .int .i64 0] 32)).cell? ⟨w.heap.size + 1, 5, none⟩ = some (.int .i64 0) := by simp [go_sem]
  have fb15 : ((w.alloc (.cells #[.int .i64 (x), .int .i64 (y), .int .u8 (3)] 23)).alloc (.cells #[.int .i64 0, .int .i64 0, .int .i64 0, .int .i64 0, .int .i64 0, .int .i64 0] 32)).frozen? ⟨w.heap.size + 1, 5, none⟩ = false := by simp [go_sem]
  generalize ((w.alloc (.cells #[.int .i64 (x), .int .i64 (y), .int .u8 (3)] 23)).alloc (.cells #[.int .i64 0, .int .i64 0, .int .i64 0, .int .i64 0, .int .i64 0, .int .i64 0] 32)) = W0 at *
  refine region_later (by kernel_rfl) (by kernel_rfl) ?_
  repeat (go_big_quiet_step (fail))
  refine wpQuiet_nil ?_
  rintro _ ⟨ux, rfl⟩
  go_wp2_with fail
  have hR : Below (W0).heap.size (W0) ((on ux).alloc (.cells #[.int .i64 (2 * x), .int .i64 (2 * y), .int .i64 (2 * x + 2), .int .i64 (2 * y), .int .i64 (2 * x + 2), .int .i64 (2 * y + 2), .int .i64 (2 * x), .int .i64 (2 * y + 2)] 90)) := by repeat first | (with_reducible exact Below.refl _ _) | (with_reducible refine below_on ?_ _) | (with_reducible refine below_alloc ?_ _)
  have cR : ∀ {b i : Nat} {v : Value}, (W0).cell? ⟨b, i, none⟩ = some v → ((on ux).alloc (.cells #[.int .i64 (2 * x), .int .i64 (2 * y), .int .i64 (2 * x + 2), .int .i64 (2 * y), .int .i64 (2 * x + 2), .int .i64 (2 * y + 2), .int .i64 (2 * x), .int .i64 (2 * y + 2)] 90)).cell? ⟨b, i, none⟩ = some v := fun h => (hR.cell (World.block_lt_of_cell? _ _ h)).trans h
  have fR : ∀ {b i : Nat} {v : Value}, (W0).cell? ⟨b, i, none⟩ = some v → (W0).frozen? ⟨b, i, none⟩ = false → ((on ux).alloc (.cells #[.int .i64 (2 * x), .int .i64 (2 * y), .int .i64 (2 * x + 2), .int .i64 (2 * y), .int .i64 (2 * x + 2), .int .i64 (2 * y + 2), .int .i64 (2 * x), .int .i64 (2 * y + 2)] 90)).frozen? ⟨b, i, none⟩ = false := fun h g => (hR.frozen (World.block_lt_of_cell? _ _ h)).trans g
  have b00' := cR b00
  have b01' := cR b01
  have b02' := cR b02
  have b10' := cR b10
  have fb10' := fR b10 fb10
  have b11' := cR b11
  have fb11' := fR b11 fb11
  have b12' := cR b12
  have fb12' := fR b12 fb12
  have b13' := cR b13
  have fb13' := fR b13 fb13
  have b14' := cR b14
  have fb14' := fR b14 fb14
  have b15' := cR b15
  have fb15' := fR b15 fb15
  have B100 : ((on ux).alloc (.cells #[.int .i64 (2 * x), .int .i64 (2 * y), .int .i64 (2 * x + 2), .int .i64 (2 * y), .int .i64 (2 * x + 2), .int .i64 (2 * y + 2), .int .i64 (2 * x), .int .i64 (2 * y + 2)] 90)).cell? ⟨(on ux).heap.size, 0, none⟩ = some (.int .i64 (2 * x)) := by simp [go_sem]
  have B101 : ((on ux).alloc (.cells #[.int .i64 (2 * x), .int .i64 (2 * y), .int .i64 (2 * x + 2), .int .i64 (2 * y), .int .i64 (2 * x + 2), .int .i64 (2 * y + 2), .int .i64 (2 * x), .int .i64 (2 * y + 2)] 90)).cell? ⟨(on ux).heap.size, 1, none⟩ = some (.int .i64 (2 * y)) := by simp [go_sem]
  have B102 : ((on ux).alloc (.cells #[.int .i64 (2 * x), .int .i64 (2 * y), .int .i64 (2 * x + 2), .int .i64 (2 * y), .int .i64 (2 * x + 2), .int .i64 (2 * y + 2), .int .i64 (2 * x), .int .i64 (2 * y + 2)] 90)).cell? ⟨(on ux).heap.size, 2, none⟩ = some (.int .i64 (2 * x + 2)) := by simp [go_sem]
  have B103 : ((on ux).alloc (.cells #[.int .i64 (2 * x), .int .i64 (2 * y), .int .i64 (2 * x + 2), .int .i64 (2 * y), .int .i64 (2 * x + 2), .int .i64 (2 * y + 2), .int .i64 (2 * x), .int .i64 (2 * y + 2)] 90)).cell? ⟨(on ux).heap.size, 3, none⟩ = some (.int .i64 (2 * y)) := by simp [go_sem]
  have B104 : ((on ux).alloc (.cells #[.int .i64 (2 * x), .int .i64 (2 * y), .int .i64 (2 * x + 2), .int .i64 (2 * y), .int .i64 (2 * x + 2), .int .i64 (2 * y + 2), .int .i64 (2 * x), .int .i64 (2 * y + 2)] 90)).cell? ⟨(on ux).heap.size, 4, none⟩ = some (.int .i64 (2 * x + 2)) := by simp [go_sem]
  have B105 : ((on ux).alloc (.cells #[.int .i64 (2 * x), .int .i64 (2 * y), .int .i64 (2 * x + 2), .int .i64 (2 * y), .int .i64 (2 * x + 2), .int .i64 (2 * y + 2), .int .i64 (2 * x), .int .i64 (2 * y + 2)] 90)).cell? ⟨(on ux).heap.size, 5, none⟩ = some (.int .i64 (2 * y + 2)) := by simp [go_sem]
  have B106 : ((on ux).alloc (.cells #[.int .i64 (2 * x), .int .i64 (2 * y), .int .i64 (2 * x + 2), .int .i64 (2 * y), .int .i64 (2 * x + 2), .int .i64 (2 * y + 2), .int .i64 (2 * x), .int .i64 (2 * y + 2)] 90)).cell? ⟨(on ux).heap.size, 6, none⟩ = some (.int .i64 (2 * x)) := by simp [go_sem]
  have B107 : ((on ux).alloc (.cells #[.int .i64 (2 * x), .int .i64 (2 * y), .int .i64 (2 * x + 2), .int .i64 (2 * y), .int .i64 (2 * x + 2), .int .i64 (2 * y + 2), .int .i64 (2 * x), .int .i64 (2 * y + 2)] 90)).cell? ⟨(on ux).heap.size, 7, none⟩ = some (.int .i64 (2 * y + 2)) := by simp [go_sem]
  have hB1 : Below w.heap.size w ((on ux).alloc (.cells #[.int .i64 (2 * x), .int .i64 (2 * y), .int .i64 (2 * x + 2), .int .i64 (2 * y), .int .i64 (2 * x + 2), .int .i64 (2 * y + 2), .int .i64 (2 * x), .int .i64 (2 * y + 2)] 90)) := by repeat first | (with_reducible exact hB0) | (with_reducible refine below_on ?_ _) | (with_reducible refine below_alloc ?_ _)
  clear hR cR fR b00 b01 b02 b10 b11 b12 b13 b14 b15 fb10 fb11 fb12 fb13 fb14 fb15 hB0
  generalize ((on ux).alloc (.cells #[.int .i64 (2 * x), .int .i64 (2 * y), .int .i64 (2 * x + 2), .int .i64 (2 * y), .int .i64 (2 * x + 2), .int .i64 (2 * y + 2), .int .i64 (2 * x), .int .i64 (2 * y + 2)] 90)) = W1 at *
  generalize (on ux).heap.size = B1 at *
  clear ux
  refine region_later (by kernel_rfl) (by kernel_rfl) ?_
  repeat (go_big_quiet_step (fail))
  refine wpQuiet_nil ?_
  rintro _ ⟨ux, rfl⟩
  go_wp2_with fail
  have hR : Below (W1).heap.size (W1) (on ux) := by repeat first | (with_reducible exact Below.refl _ _) | (with_reducible refine below_on ?_ _) | (with_reducible refine below_alloc ?_ _)
  have cR : ∀ {b i : Nat} {v : Value}, (W1).cell? ⟨b, i, none⟩ = some v → (on ux).cell? ⟨b, i, none⟩ = some v := fun h => (hR.cell (World.block_lt_of_cell? _ _ h)).trans h
  have fR : ∀ {b i : Nat} {v : Value}, (W1).cell? ⟨b, i, none⟩ = some v → (W1).frozen? ⟨b, i, none⟩ = false → (on ux).frozen? ⟨b, i, none⟩ = false := fun h g => (hR.frozen (World.block_lt_of_cell? _ _ h)).trans g
  have b00'' := cR b00'
  have b01'' := cR b01'
  have b02'' := cR b02'
  have b10'' := cR b10'
  have fb10'' := fR b10' fb10'
  have b11'' := cR b11'
  have fb11'' := fR b11' fb11'
  have b12'' := cR b12'
  have fb12'' := fR b12' fb12'
  have b13'' := cR b13'
  have fb13'' := fR b13' fb13'
  have b14'' := cR b14'
  have fb14'' := fR b14' fb14'
  have b15'' := cR b15'
  have fb15'' := fR b15' fb15'
  have B100' := cR B100
  have B101' := cR B101
  have B102' := cR B102
  have B103' := cR B103
  have B104' := cR B104
  have B105' := cR B105
  have B106' := cR B106
  have B107' := cR B107
  have hB2 : Below w.heap.size w (on ux) := by repeat first | (with_reducible exact hB1) | (with_reducible refine below_on ?_ _) | (with_reducible refine below_alloc ?_ _)
  clear hR cR fR b00' b01' b02' b10' b11' b12' b13' b14' b15' B100 B101 B102 B103 B104 B105 B106 B107 fb10' fb11' fb12' fb13' fb14' fb15' hB1
  generalize (on ux) = W2 at *
  clear ux
  refine region_tail 12 (by kernel_rfl) (by kernel_rfl) ?_
  simp only [List.take_succ_cons, List.take_zero, List.drop_succ_cons, List.drop_zero]
  repeat (first
    | (refine wpLex_plain (by rfl) (by rfl) (by rfl) (fun K hK => ?_); go_big_quiet_op; refine hK _ ?_; clear hK K)
    | (refine wpLex_call (by rfl) (by rfl) (fun K hK => ?_); go_simp; apply Exists.intro; refine ⟨fun _ => ?_, hK _ ?_⟩; ((fail)); clear hK K)
    | (refine wpLex_new (by rfl) ?_; simp only [Act.put, List.setIfInBounds_toArray, List.set_cons_zero, List.set_cons_succ]))
  refine wpLex_nil ?_
  intro u9
  go_wp2_with fail
  exact bodyPost_ret (v := .agg #[.int .i64 (1 + 2 * x), .int .i64 (1 + 2 * y), .int .i64 (2 * x), .int .i64 (2 * y), .int .i64 (2 * x), .int .i64 (2 + 2 * y)]) (by simp [results, Tryd.results16, go_sem, b00'', b01'', b02'', b10'', b11'', b12'', b13'', b14'', b15'', B100', B101', B102', B103', B104', B105', B106', B107'] <;> omega) rfl ⟨rfl, (by repeat first | (with_reducible exact hB2) | (with_reducible refine below_on ?_ _) | (with_reducible refine below_alloc ?_ _) | (with_reducible refine below_set ?_ (by simp; try omega) _))⟩

end Go.Proofs.YtgkiliijefkcaaaDoor
