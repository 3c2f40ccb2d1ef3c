/-
  Says: what Check, limited, hasEdge, neighbourOf and lineOf of package cells give.
-/
import Derived.Test.YtgkiliijefkcaaaDoorCf1
set_option linter.unusedVariables false
set_option linter.unusedSimpArgs false
namespace Go.Proofs.YtgkiliijefkcaaaDoor
open Go Go.RowKit

attribute [local go_sem] World.cell?_alloc_some frozen?_alloc_cells fz0 fz1 fz2 fz3 fz4 fz5

set_option maxRecDepth 100000 in
set_option maxHeartbeats 2000000 in
theorem ccheck_ok (x y q : Int) (w : World) (c1 : -4096 ≤ x) (c2 : x ≤ 4096) (c3 : -4096 ≤ y) (c4 : y ≤ 4096) (c5 : 0 ≤ q) (c6 : q ≤ 3) : Calls Tryd.prog 14 #[cl x y q] w fun e w' => e = .returned (.int .i64 0) ∧ Below w.heap.size w w' := by
  go_enter Tryd.func14, Tryd.ntmps14
  go_wp2
  go_ret
  exact ⟨rfl, (by repeat first | (with_reducible exact Below.refl _ _) | (with_reducible refine below_on ?_ _) | (with_reducible refine below_alloc ?_ _) | (with_reducible refine below_set ?_ (by simp; try omega) _))⟩

set_option maxRecDepth 100000 in
set_option maxHeartbeats 2000000 in
theorem ccheck_bad (x y q : Int) (w : World) (h : 3 < q ∨ x < -4096 ∨ 4096 < x ∨ y < -4096 ∨ 4096 < y) : Calls Tryd.prog 14 #[cl x y q] w fun e w' => e = .returned (.int .i64 1) ∧ Below w.heap.size w w' := by
  by_cases c1 : 3 < q
  · clear h
    go_enter Tryd.func14, Tryd.ntmps14
    go_wp2
    go_ret
    exact ⟨rfl, (by repeat first | (with_reducible exact Below.refl _ _) | (with_reducible refine below_on ?_ _) | (with_reducible refine below_alloc ?_ _) | (with_reducible refine below_set ?_ (by simp; try omega) _))⟩
  have d1 : q ≤ 3 := by omega
  by_cases c2 : x < -4096
  · clear h
    go_enter Tryd.func14, Tryd.ntmps14
    go_wp2
    go_ret
    exact ⟨rfl, (by repeat first | (with_reducible exact Below.refl _ _) | (with_reducible refine below_on ?_ _) | (with_reducible refine below_alloc ?_ _) | (with_reducible refine below_set ?_ (by simp; try omega) _))⟩
  have d2 : -4096 ≤ x := by omega
  by_cases c3 : 4096 < x
  · clear h
    go_enter Tryd.func14, Tryd.ntmps14
    go_wp2
    go_ret
    exact ⟨rfl, (by repeat first | (with_reducible exact Below.refl _ _) | (with_reducible refine below_on ?_ _) | (with_reducible refine below_alloc ?_ _) | (with_reducible refine below_set ?_ (by simp; try omega) _))⟩
  have d3 : x ≤ 4096 := by omega
  by_cases c4 : y < -4096
  · clear h
    go_enter Tryd.func14, Tryd.ntmps14
    go_wp2
    go_ret
    exact ⟨rfl, (by repeat first | (with_reducible exact Below.refl _ _) | (with_reducible refine below_on ?_ _) | (with_reducible refine below_alloc ?_ _) | (with_reducible refine below_set ?_ (by simp; try omega) _))⟩
  have d4 : -4096 ≤ y := by omega
  have d5 : ¬ y ≤ 4096 := by omega
  clear h c1 c2 c3 c4
  go_enter Tryd.func14, Tryd.ntmps14
  go_wp2
  go_ret
  exact ⟨rfl, (by repeat first | (with_reducible exact Below.refl _ _) | (with_reducible refine below_on ?_ _) | (with_reducible refine below_alloc ?_ _) | (with_reducible refine below_set ?_ (by simp; try omega) _))⟩


set_option maxRecDepth 100000 in
set_option maxHeartbeats 2000000 in
theorem clim_ok (x y q : Int) (w : World) (c1 : -4096 ≤ x) (c2 : x ≤ 4096) (c3 : -4096 ≤ y) (c4 : y ≤ 4096) (c5 : 0 ≤ q) (c6 : q ≤ 3) : Calls Tryd.prog 47 #[cl x y q] w fun e w' => e = .returned (.tuple #[cl x y q, .int .i64 0]) ∧ Below w.heap.size w w' := by
  go_enter Tryd.func47, Tryd.ntmps47
  go_wp2_with fail
  have hB0 : Below w.heap.size w ((w.alloc (.cells #[.int .i64 (x), .int .i64 (y), .int .u8 (q)] 23)).alloc (.cells #[.int .i64 0, .int .i64 0, .int .u8 0] 23)) := (by repeat first | (with_reducible exact Below.refl _ _) | (with_reducible refine below_on ?_ _) | (with_reducible refine below_alloc ?_ _) | (with_reducible refine below_set ?_ (by simp; try omega) _))
  have b00 : ((w.alloc (.cells #[.int .i64 (x), .int .i64 (y), .int .u8 (q)] 23)).alloc (.cells #[.int .i64 0, .int .i64 0, .int .u8 0] 23)).cell? ⟨w.heap.size, 0, none⟩ = some (.int .i64 (x)) := by simp [go_sem]
  have b01 : ((w.alloc (.cells #[.int .i64 (x), .int .i64 (y), .int .u8 (q)] 23)).alloc (.cells #[.int .i64 0, .int .i64 0, .int .u8 0] 23)).cell? ⟨w.heap.size, 1, none⟩ = some (.int .i64 (y)) := by simp [go_sem]
  have b02 : ((w.alloc (.cells #[.int .i64 (x), .int .i64 (y), .int .u8 (q)] 23)).alloc (.cells #[.int .i64 0, .int .i64 0, .int .u8 0] 23)).cell? ⟨w.heap.size, 2, none⟩ = some (.int .u8 (q)) := by simp [go_sem]
  have b10 : ((w.alloc (.cells #[.int .i64 (x), .int .i64 (y), .int .u8 (q)] 23)).alloc (.cells #[.int .i64 0, .int .i64 0, .int .u8 0] 23)).cell? ⟨w.heap.size + 1, 0, none⟩ = some (.int .i64 0) := by simp [go_sem]
  have fb10 : ((w.alloc (.cells #[.int .i64 (x), .int .i64 (y), .int .u8 (q)] 23)).alloc (.cells #[.int .i64 0, .int .i64 0, .int .u8 0] 23)).frozen? ⟨w.heap.size + 1, 0, none⟩ = false := by simp [go_sem]
  have b11 : ((w.alloc (.cells #[.int .i64 (x), .int .i64 (y), .int .u8 (q)] 23)).alloc (.cells #[.int .i64 0, .int .i64 0, .int .u8 0] 23)).cell? ⟨w.heap.size + 1, 1, none⟩ = some (.int .i64 0) := by simp [go_sem]
  have fb11 : ((w.alloc (.cells #[.int .i64 (x), .int .i64 (y), .int .u8 (q)] 23)).alloc (.cells #[.int .i64 0, .int .i64 0, .int .u8 0] 23)).frozen? ⟨w.heap.size + 1, 1, none⟩ = false := by simp [go_sem]
  have b12 : ((w.alloc (.cells #[.int .i64 (x), .int .i64 (y), .int .u8 (q)] 23)).alloc (.cells #[.int .i64 0, .int .i64 0, .int .u8 0] 23)).cell? ⟨w.heap.size + 1, 2, none⟩ = some (.int .u8 0) := by simp [go_sem]
  have fb12 : ((w.alloc (.cells #[.int .i64 (x), .int .i64 (y), .int .u8 (q)] 23)).alloc (.cells #[.int .i64 0, .int .i64 0, .int .u8 0] 23)).frozen? ⟨w.heap.size + 1, 2, none⟩ = false := by simp [go_sem]
  generalize ((w.alloc (.cells #[.int .i64 (x), .int .i64 (y), .int .u8 (q)] 23)).alloc (.cells #[.int .i64 0, .int .i64 0, .int .u8 0] 23)) = W0 at *
  go_wp2_with (first | (go_at_call 14; with_reducible refine (ccheck_ok x y q _ c1 c2 c3 c4 c5 c6).mono ?_; rintro e wx ⟨rfl, hx⟩; obtain ⟨ux, rfl⟩ := after hx; clear hx) | fail)
  exact bodyPost_ret (v := .tuple #[cl x y q, .int .i64 0]) (by simp [results, Tryd.results47, go_sem, b00, b01, b02, b10, b11, b12]) rfl ⟨rfl, (by repeat first | (with_reducible exact hB0) | (with_reducible refine below_on ?_ _) | (with_reducible refine below_alloc ?_ _) | (with_reducible refine below_set ?_ (by simp; try omega) _))⟩

set_option maxRecDepth 100000 in
set_option maxHeartbeats 2000000 in
theorem clim_bad (x y q : Int) (w : World) (h : 3 < q ∨ x < -4096 ∨ 4096 < x ∨ y < -4096 ∨ 4096 < y) : Calls Tryd.prog 47 #[cl x y q] w fun e w' => e = .returned (.tuple #[cl 0 0 0, .int .i64 3]) ∧ Below w.heap.size w w' := by
  have H : Hid (3 < q ∨ x < -4096 ∨ 4096 < x ∨ y < -4096 ∨ 4096 < y) := h
  clear h
  go_enter Tryd.func47, Tryd.ntmps47
  go_wp2_with fail
  have hB0 : Below w.heap.size w ((w.alloc (.cells #[.int .i64 (x), .int .i64 (y), .int .u8 (q)] 23)).alloc (.cells #[.int .i64 0, .int .i64 0, .int .u8 0] 23)) := (by repeat first | (with_reducible exact Below.refl _ _) | (with_reducible refine below_on ?_ _) | (with_reducible refine below_alloc ?_ _) | (with_reducible refine below_set ?_ (by simp; try omega) _))
  have b00 : ((w.alloc (.cells #[.int .i64 (x), .int .i64 (y), .int .u8 (q)] 23)).alloc (.cells #[.int .i64 0, .int .i64 0, .int .u8 0] 23)).cell? ⟨w.heap.size, 0, none⟩ = some (.int .i64 (x)) := by simp [go_sem]
  have b01 : ((w.alloc (.cells #[.int .i64 (x), .int .i64 (y), .int .u8 (q)] 23)).alloc (.cells #[.int .i64 0, .int .i64 0, .int .u8 0] 23)).cell? ⟨w.heap.size, 1, none⟩ = some (.int .i64 (y)) := by simp [go_sem]
  have b02 : ((w.alloc (.cells #[.int .i64 (x), .int .i64 (y), .int .u8 (q)] 23)).alloc (.cells #[.int .i64 0, .int .i64 0, .int .u8 0] 23)).cell? ⟨w.heap.size, 2, none⟩ = some (.int .u8 (q)) := by simp [go_sem]
  have b10 : ((w.alloc (.cells #[.int .i64 (x), .int .i64 (y), .int .u8 (q)] 23)).alloc (.cells #[.int .i64 0, .int .i64 0, .int .u8 0] 23)).cell? ⟨w.heap.size + 1, 0, none⟩ = some (.int .i64 0) := by simp [go_sem]
  have fb10 : ((w.alloc (.cells #[.int .i64 (x), .int .i64 (y), .int .u8 (q)] 23)).alloc (.cells #[.int .i64 0, .int .i64 0, .int .u8 0] 23)).frozen? ⟨w.heap.size + 1, 0, none⟩ = false := by simp [go_sem]
  have b11 : ((w.alloc (.cells #[.int .i64 (x), .int .i64 (y), .int .u8 (q)] 23)).alloc (.cells #[.int .i64 0, .int .i64 0, .int .u8 0] 23)).cell? ⟨w.heap.size + 1, 1, none⟩ = some (.int .i64 0) := by simp [go_sem]
  have fb11 : ((w.alloc (.cells #[.int .i64 (x), .int .i64 (y), .int .u8 (q)] 23)).alloc (.cells #[.int .i64 0, .int .i64 0, .int .u8 0] 23)).frozen? ⟨w.heap.size + 1, 1, none⟩ = false := by simp [go_sem]
  have b12 : ((w.alloc (.cells #[.int .i64 (x), .int .i64 (y), .int .u8 (q)] 23)).alloc (.cells #[.int .i64 0, .int .i64 0, .int .u8 0] 23)).cell? ⟨w.heap.size + 1, 2, none⟩ = some (.int .u8 0) := by simp [go_sem]
  have fb12 : ((w.alloc (.cells #[.int .i64 (x), .int .i64 (y), .int .u8 (q)] 23)).alloc (.cells #[.int .i64 0, .int .i64 0, .int .u8 0] 23)).frozen? ⟨w.heap.size + 1, 2, none⟩ = false := by simp [go_sem]
  generalize ((w.alloc (.cells #[.int .i64 (x), .int .i64 (y), .int .u8 (q)] 23)).alloc (.cells #[.int .i64 0, .int .i64 0, .int .u8 0] 23)) = W0 at *
  go_wp2_with (first | (go_at_call 14; with_reducible refine (ccheck_bad x y q _ H.out).mono ?_; rintro e wx ⟨rfl, hx⟩; obtain ⟨ux, rfl⟩ := after hx; clear hx) | fail)
  exact bodyPost_ret (v := .tuple #[cl 0 0 0, .int .i64 3]) (by simp [results, Tryd.results47, go_sem, b00, b01, b02, b10, b11, b12]) rfl ⟨rfl, (by repeat first | (with_reducible exact hB0) | (with_reducible refine below_on ?_ _) | (with_reducible refine below_alloc ?_ _) | (with_reducible refine below_set ?_ (by simp; try omega) _))⟩

set_option maxRecDepth 100000 in
set_option maxHeartbeats 2000000 in
theorem hedge_ok (x y q e : Int) (w : World) (c1 : -4096 ≤ x) (c2 : x ≤ 4096) (c3 : -4096 ≤ y) (c4 : y ≤ 4096) (c5 : 0 ≤ q) (c6 : q ≤ 3) (e1 : e < 3) : Calls Tryd.prog 40 #[cl x y q, .int .u8 e] w fun r w' => r = .returned (.bool true) ∧ Below w.heap.size w w' := by
  go_enter Tryd.func40, Tryd.ntmps40
  go_wp2_with fail
  have hB0 : Below w.heap.size w (w.alloc (.cells #[.int .i64 (x), .int .i64 (y), .int .u8 (q)] 23)) := (by repeat first | (with_reducible exact Below.refl _ _) | (with_reducible refine below_on ?_ _) | (with_reducible refine below_alloc ?_ _) | (with_reducible refine below_set ?_ (by simp; try omega) _))
  have b00 : (w.alloc (.cells #[.int .i64 (x), .int .i64 (y), .int .u8 (q)] 23)).cell? ⟨w.heap.size, 0, none⟩ = some (.int .i64 (x)) := by simp [go_sem]
  have b01 : (w.alloc (.cells #[.int .i64 (x), .int .i64 (y), .int .u8 (q)] 23)).cell? ⟨w.heap.size, 1, none⟩ = some (.int .i64 (y)) := by simp [go_sem]
  have b02 : (w.alloc (.cells #[.int .i64 (x), .int .i64 (y), .int .u8 (q)] 23)).cell? ⟨w.heap.size, 2, none⟩ = some (.int .u8 (q)) := by simp [go_sem]
  generalize (w.alloc (.cells #[.int .i64 (x), .int .i64 (y), .int .u8 (q)] 23)) = W0 at *
  go_wp2_with (first | (go_at_call 14; with_reducible refine (ccheck_ok x y q _ c1 c2 c3 c4 c5 c6).mono ?_; rintro e wx ⟨rfl, hx⟩; obtain ⟨ux, rfl⟩ := after hx; clear hx) | fail)
  go_ret
  exact ⟨by first | rfl | (simp; done) | (simp; omega), (by repeat first | (with_reducible exact hB0) | (with_reducible refine below_on ?_ _) | (with_reducible refine below_alloc ?_ _) | (with_reducible refine below_set ?_ (by simp; try omega) _))⟩

set_option maxRecDepth 100000 in
set_option maxHeartbeats 2000000 in
theorem hedge_bad1 (x y q e : Int) (w : World) (h : 3 < q ∨ x < -4096 ∨ 4096 < x ∨ y < -4096 ∨ 4096 < y) : Calls Tryd.prog 40 #[cl x y q, .int .u8 e] w fun r w' => r = .returned (.bool false) ∧ Below w.heap.size w w' := by
  have H : Hid (3 < q ∨ x < -4096 ∨ 4096 < x ∨ y < -4096 ∨ 4096 < y) := h
  clear h
  go_enter Tryd.func40, Tryd.ntmps40
  go_wp2_with fail
  have hB0 : Below w.heap.size w (w.alloc (.cells #[.int .i64 (x), .int .i64 (y), .int .u8 (q)] 23)) := (by repeat first | (with_reducible exact Below.refl _ _) | (with_reducible refine below_on ?_ _) | (with_reducible refine below_alloc ?_ _) | (with_reducible refine below_set ?_ (by simp; try omega) _))
  have b00 : (w.alloc (.cells #[.int .i64 (x), .int .i64 (y), .int .u8 (q)] 23)).cell? ⟨w.heap.size, 0, none⟩ = some (.int .i64 (x)) := by simp [go_sem]
  have b01 : (w.alloc (.cells #[.int .i64 (x), .int .i64 (y), .int .u8 (q)] 23)).cell? ⟨w.heap.size, 1, none⟩ = some (.int .i64 (y)) := by simp [go_sem]
  have b02 : (w.alloc (.cells #[.int .i64 (x), .int .i64 (y), .int .u8 (q)] 23)).cell? ⟨w.heap.size, 2, none⟩ = some (.int .u8 (q)) := by simp [go_sem]
  generalize (w.alloc (.cells #[.int .i64 (x), .int .i64 (y), .int .u8 (q)] 23)) = W0 at *
  go_wp2_with (first | (go_at_call 14; with_reducible refine (ccheck_bad x y q _ H.out).mono ?_; rintro e wx ⟨rfl, hx⟩; obtain ⟨ux, rfl⟩ := after hx; clear hx) | fail)
  go_ret
  exact ⟨by first | rfl | (simp; done) | (simp; omega), (by repeat first | (with_reducible exact hB0) | (with_reducible refine below_on ?_ _) | (with_reducible refine below_alloc ?_ _) | (with_reducible refine below_set ?_ (by simp; try omega) _))⟩

set_option maxRecDepth 100000 in
set_option maxHeartbeats 2000000 in
theorem hedge_bad2 (x y q e : Int) (w : World) (c1 : -4096 ≤ x) (c2 : x ≤ 4096) (c3 : -4096 ≤ y) (c4 : y ≤ 4096) (c5 : 0 ≤ q) (c6 : q ≤ 3) (e1 : ¬ e < 3) : Calls Tryd.prog 40 #[cl x y q, .int .u8 e] w fun r w' => r = .returned (.bool false) ∧ Below w.heap.size w w' := by
  go_enter Tryd.func40, Tryd.ntmps40
  go_wp2_with fail
  have hB0 : Below w.heap.size w (w.alloc (.cells #[.int .i64 (x), .int .i64 (y), .int .u8 (q)] 23)) := (by repeat first | (with_reducible exact Below.refl _ _) | (with_reducible refine below_on ?_ _) | (with_reducible refine below_alloc ?_ _) | (with_reducible refine below_set ?_ (by simp; try omega) _))
  have b00 : (w.alloc (.cells #[.int .i64 (x), .int .i64 (y), .int .u8 (q)] 23)).cell? ⟨w.heap.size, 0, none⟩ = some (.int .i64 (x)) := by simp [go_sem]
  have b01 : (w.alloc (.cells #[.int .i64 (x), .int .i64 (y), .int .u8 (q)] 23)).cell? ⟨w.heap.size, 1, none⟩ = some (.int .i64 (y)) := by simp [go_sem]
  have b02 : (w.alloc (.cells #[.int .i64 (x), .int .i64 (y), .int .u8 (q)] 23)).cell? ⟨w.heap.size, 2, none⟩ = some (.int .u8 (q)) := by simp [go_sem]
  generalize (w.alloc (.cells #[.int .i64 (x), .int .i64 (y), .int .u8 (q)] 23)) = W0 at *
  go_wp2_with (first | (go_at_call 14; with_reducible refine (ccheck_ok x y q _ c1 c2 c3 c4 c5 c6).mono ?_; rintro e wx ⟨rfl, hx⟩; obtain ⟨ux, rfl⟩ := after hx; clear hx) | fail)
  go_ret
  exact ⟨by first | rfl | (simp; done) | (simp; omega), (by repeat first | (with_reducible exact hB0) | (with_reducible refine below_on ?_ _) | (with_reducible refine below_alloc ?_ _) | (with_reducible refine below_set ?_ (by simp; try omega) _))⟩

set_option maxRecDepth 100000 in
set_option maxHeartbeats 2000000 in
theorem nof_00 (x y : Int) (w : World) (hL : Lay w) (x1 : -100000 ≤ x) (x2 : x ≤ 100000) (y1 : -100000 ≤ y) (y2 : y ≤ 100000) : Calls Tryd.prog 48 #[cl x y 0, .int .u8 0] w fun e w' => e = .returned (cl (nbX 0 0 x) (nbY 0 0 y) (nbQ 0 0)) ∧ Below w.heap.size w w' := by
  have g0 : ∀ o1 o2, ((w.alloc o1).alloc o2).cell? ⟨1, 0, none⟩ = some (.int .i64 0) := al2 (hL.nei 0 (by decide))
  have g1 : ∀ o1 o2, ((w.alloc o1).alloc o2).cell? ⟨1, 1, none⟩ = some (.int .i64 (-1)) := al2 (hL.nei 1 (by decide))
  have g2 : ∀ o1 o2, ((w.alloc o1).alloc o2).cell? ⟨1, 2, none⟩ = some (.int .u8 2) := al2 (hL.nei 2 (by decide))
  rw [nbX00, nbY00, nbQ00]
  go_enter Tryd.func48, Tryd.ntmps48
  go_wp2_with fail
  exact bodyPost_ret (v := cl (x) (y - 1) 2) (by simp [results, Tryd.results48, go_sem] <;> omega) rfl ⟨rfl, (by repeat first | (with_reducible exact Below.refl _ _) | (with_reducible refine below_on ?_ _) | (with_reducible refine below_alloc ?_ _) | (with_reducible refine below_set ?_ (by simp; try omega) _))⟩

set_option maxRecDepth 100000 in
set_option maxHeartbeats 2000000 in
theorem lof_00 (x y : Int) (w : World) (x1 : -100000 ≤ x) (x2 : x ≤ 100000) (y1 : -100000 ≤ y) (y2 : y ≤ 100000) : Calls Tryd.prog 41 #[cl x y 0, .int .u8 0] w fun e w' => e = .returned (ln (lnK 0 0) (lnC 0 0 x y)) ∧ Below w.heap.size w w' := by
  rw [lnK00, lnC00]
  go_enter Tryd.func41, Tryd.ntmps41
  go_wp2_with fail
  exact bodyPost_ret (v := ln 2 (y)) (by simp [results, Tryd.results41, go_sem] <;> omega) rfl ⟨rfl, (by repeat first | (with_reducible exact Below.refl _ _) | (with_reducible refine below_on ?_ _) | (with_reducible refine below_alloc ?_ _) | (with_reducible refine below_set ?_ (by simp; try omega) _))⟩

set_option maxRecDepth 100000 in
set_option maxHeartbeats 2000000 in
theorem nof_01 (x y : Int) (w : World) (hL : Lay w) (x1 : -100000 ≤ x) (x2 : x ≤ 100000) (y1 : -100000 ≤ y) (y2 : y ≤ 100000) : Calls Tryd.prog 48 #[cl x y 0, .int .u8 1] w fun e w' => e = .returned (cl (nbX 0 1 x) (nbY 0 1 y) (nbQ 0 1)) ∧ Below w.heap.size w w' := by
  have g0 : ∀ o1 o2, ((w.alloc o1).alloc o2).cell? ⟨1, 3, none⟩ = some (.int .i64 0) := al2 (hL.nei 3 (by decide))
  have g1 : ∀ o1 o2, ((w.alloc o1).alloc o2).cell? ⟨1, 4, none⟩ = some (.int .i64 0) := al2 (hL.nei 4 (by decide))
  have g2 : ∀ o1 o2, ((w.alloc o1).alloc o2).cell? ⟨1, 5, none⟩ = some (.int .u8 1) := al2 (hL.nei 5 (by decide))
  rw [nbX01, nbY01, nbQ01]
  go_enter Tryd.func48, Tryd.ntmps48
  go_wp2_with fail
  exact bodyPost_ret (v := cl (x) (y) 1) (by simp [results, Tryd.results48, go_sem] <;> omega) rfl ⟨rfl, (by repeat first | (with_reducible exact Below.refl _ _) | (with_reducible refine below_on ?_ _) | (with_reducible refine below_alloc ?_ _) | (with_reducible refine below_set ?_ (by simp; try omega) _))⟩

set_option maxRecDepth 100000 in
set_option maxHeartbeats 2000000 in
theorem lof_01 (x y : Int) (w : World) (x1 : -100000 ≤ x) (x2 : x ≤ 100000) (y1 : -100000 ≤ y) (y2 : y ≤ 100000) : Calls Tryd.prog 41 #[cl x y 0, .int .u8 1] w fun e w' => e = .returned (ln (lnK 0 1) (lnC 0 1 x y)) ∧ Below w.heap.size w w' := by
  rw [lnK01, lnC01]
  go_enter Tryd.func41, Tryd.ntmps41
  go_wp2_with fail
  exact bodyPost_ret (v := ln 3 (x + y + 1)) (by simp [results, Tryd.results41, go_sem] <;> omega) rfl ⟨rfl, (by repeat first | (with_reducible exact Below.refl _ _) | (with_reducible refine below_on ?_ _) | (with_reducible refine below_alloc ?_ _) | (with_reducible refine below_set ?_ (by simp; try omega) _))⟩

set_option maxRecDepth 100000 in
set_option maxHeartbeats 2000000 in
theorem nof_02 (x y : Int) (w : World) (hL : Lay w) (x1 : -100000 ≤ x) (x2 : x ≤ 100000) (y1 : -100000 ≤ y) (y2 : y ≤ 100000) : Calls Tryd.prog 48 #[cl x y 0, .int .u8 2] w fun e w' => e = .returned (cl (nbX 0 2 x) (nbY 0 2 y) (nbQ 0 2)) ∧ Below w.heap.size w w' := by
  have g0 : ∀ o1 o2, ((w.alloc o1).alloc o2).cell? ⟨1, 6, none⟩ = some (.int .i64 0) := al2 (hL.nei 6 (by decide))
  have g1 : ∀ o1 o2, ((w.alloc o1).alloc o2).cell? ⟨1, 7, none⟩ = some (.int .i64 0) := al2 (hL.nei 7 (by decide))
  have g2 : ∀ o1 o2, ((w.alloc o1).alloc o2).cell? ⟨1, 8, none⟩ = some (.int .u8 3) := al2 (hL.nei 8 (by decide))
  rw [nbX02, nbY02, nbQ02]
  go_enter Tryd.func48, Tryd.ntmps48
  go_wp2_with fail
  exact bodyPost_ret (v := cl (x) (y) 3) (by simp [results, Tryd.results48, go_sem] <;> omega) rfl ⟨rfl, (by repeat first | (with_reducible exact Below.refl _ _) | (with_reducible refine below_on ?_ _) | (with_reducible refine below_alloc ?_ _) | (with_reducible refine below_set ?_ (by simp; try omega) _))⟩

set_option maxRecDepth 100000 in
set_option maxHeartbeats 2000000 in
theorem lof_02 (x y : Int) (w : World) (x1 : -100000 ≤ x) (x2 : x ≤ 100000) (y1 : -100000 ≤ y) (y2 : y ≤ 100000) : Calls Tryd.prog 41 #[cl x y 0, .int .u8 2] w fun e w' => e = .returned (ln (lnK 0 2) (lnC 0 2 x y)) ∧ Below w.heap.size w w' := by
  rw [lnK02, lnC02]
  go_enter Tryd.func41, Tryd.ntmps41
  go_wp2_with fail
  exact bodyPost_ret (v := ln 4 (y - x)) (by simp [results, Tryd.results41, go_sem] <;> omega) rfl ⟨rfl, (by repeat first | (with_reducible exact Below.refl _ _) | (with_reducible refine below_on ?_ _) | (with_reducible refine below_alloc ?_ _) | (with_reducible refine below_set ?_ (by simp; try omega) _))⟩

set_option maxRecDepth 100000 in
set_option maxHeartbeats 2000000 in
theorem nof_10 (x y : Int) (w : World) (hL : Lay w) (x1 : -100000 ≤ x) (x2 : x ≤ 100000) (y1 : -100000 ≤ y) (y2 : y ≤ 100000) : Calls Tryd.prog 48 #[cl x y 1, .int .u8 0] w fun e w' => e = .returned (cl (nbX 1 0 x) (nbY 1 0 y) (nbQ 1 0)) ∧ Below w.heap.size w w' := by
  have g0 : ∀ o1 o2, ((w.alloc o1).alloc o2).cell? ⟨1, 9, none⟩ = some (.int .i64 1) := al2 (hL.nei 9 (by decide))
  have g1 : ∀ o1 o2, ((w.alloc o1).alloc o2).cell? ⟨1, 10, none⟩ = some (.int .i64 0) := al2 (hL.nei 10 (by decide))
  have g2 : ∀ o1 o2, ((w.alloc o1).alloc o2).cell? ⟨1, 11, none⟩ = some (.int .u8 3) := al2 (hL.nei 11 (by decide))
  rw [nbX10, nbY10, nbQ10]
  go_enter Tryd.func48, Tryd.ntmps48
  go_wp2_with fail
  exact bodyPost_ret (v := cl (x + 1) (y) 3) (by simp [results, Tryd.results48, go_sem] <;> omega) rfl ⟨rfl, (by repeat first | (with_reducible exact Below.refl _ _) | (with_reducible refine below_on ?_ _) | (with_reducible refine below_alloc ?_ _) | (with_reducible refine below_set ?_ (by simp; try omega) _))⟩

set_option maxRecDepth 100000 in
set_option maxHeartbeats 2000000 in
theorem lof_10 (x y : Int) (w : World) (x1 : -100000 ≤ x) (x2 : x ≤ 100000) (y1 : -100000 ≤ y) (y2 : y ≤ 100000) : Calls Tryd.prog 41 #[cl x y 1, .int .u8 0] w fun e w' => e = .returned (ln (lnK 1 0) (lnC 1 0 x y)) ∧ Below w.heap.size w w' := by
  rw [lnK10, lnC10]
  go_enter Tryd.func41, Tryd.ntmps41
  go_wp2_with fail
  exact bodyPost_ret (v := ln 1 (x + 1)) (by simp [results, Tryd.results41, go_sem] <;> omega) rfl ⟨rfl, (by repeat first | (with_reducible exact Below.refl _ _) | (with_reducible refine below_on ?_ _) | (with_reducible refine below_alloc ?_ _) | (with_reducible refine below_set ?_ (by simp; try omega) _))⟩

set_option maxRecDepth 100000 in
set_option maxHeartbeats 2000000 in
theorem nof_11 (x y : Int) (w : World) (hL : Lay w) (x1 : -100000 ≤ x) (x2 : x ≤ 100000) (y1 : -100000 ≤ y) (y2 : y ≤ 100000) : Calls Tryd.prog 48 #[cl x y 1, .int .u8 1] w fun e w' => e = .returned (cl (nbX 1 1 x) (nbY 1 1 y) (nbQ 1 1)) ∧ Below w.heap.size w w' := by
  have g0 : ∀ o1 o2, ((w.alloc o1).alloc o2).cell? ⟨1, 12, none⟩ = some (.int .i64 0) := al2 (hL.nei 12 (by decide))
  have g1 : ∀ o1 o2, ((w.alloc o1).alloc o2).cell? ⟨1, 13, none⟩ = some (.int .i64 0) := al2 (hL.nei 13 (by decide))
  have g2 : ∀ o1 o2, ((w.alloc o1).alloc o2).cell? ⟨1, 14, none⟩ = some (.int .u8 0) := al2 (hL.nei 14 (by decide))
  rw [nbX11, nbY11, nbQ11]
  go_enter Tryd.func48, Tryd.ntmps48
  go_wp2_with fail
  exact bodyPost_ret (v := cl (x) (y) 0) (by simp [results, Tryd.results48, go_sem] <;> omega) rfl ⟨rfl, (by repeat first | (with_reducible exact Below.refl _ _) | (with_reducible refine below_on ?_ _) | (with_reducible refine below_alloc ?_ _) | (with_reducible refine below_set ?_ (by simp; try omega) _))⟩

set_option maxRecDepth 100000 in
set_option maxHeartbeats 2000000 in
theorem lof_11 (x y : Int) (w : World) (x1 : -100000 ≤ x) (x2 : x ≤ 100000) (y1 : -100000 ≤ y) (y2 : y ≤ 100000) : Calls Tryd.prog 41 #[cl x y 1, .int .u8 1] w fun e w' => e = .returned (ln (lnK 1 1) (lnC 1 1 x y)) ∧ Below w.heap.size w w' := by
  rw [lnK11, lnC11]
  go_enter Tryd.func41, Tryd.ntmps41
  go_wp2_with fail
  exact bodyPost_ret (v := ln 3 (x + y + 1)) (by simp [results, Tryd.results41, go_sem] <;> omega) rfl ⟨rfl, (by repeat first | (with_reducible exact Below.refl _ _) | (with_reducible refine below_on ?_ _) | (with_reducible refine below_alloc ?_ _) | (with_reducible refine below_set ?_ (by simp; try omega) _))⟩

set_option maxRecDepth 100000 in
set_option maxHeartbeats 2000000 in
theorem nof_12 (x y : Int) (w : World) (hL : Lay w) (x1 : -100000 ≤ x) (x2 : x ≤ 100000) (y1 : -100000 ≤ y) (y2 : y ≤ 100000) : Calls Tryd.prog 48 #[cl x y 1, .int .u8 2] w fun e w' => e = .returned (cl (nbX 1 2 x) (nbY 1 2 y) (nbQ 1 2)) ∧ Below w.heap.size w w' := by
  have g0 : ∀ o1 o2, ((w.alloc o1).alloc o2).cell? ⟨1, 15, none⟩ = some (.int .i64 0) := al2 (hL.nei 15 (by decide))
  have g1 : ∀ o1 o2, ((w.alloc o1).alloc o2).cell? ⟨1, 16, none⟩ = some (.int .i64 0) := al2 (hL.nei 16 (by decide))
  have g2 : ∀ o1 o2, ((w.alloc o1).alloc o2).cell? ⟨1, 17, none⟩ = some (.int .u8 2) := al2 (hL.nei 17 (by decide))
  rw [nbX12, nbY12, nbQ12]
  go_enter Tryd.func48, Tryd.ntmps48
  go_wp2_with fail
  exact bodyPost_ret (v := cl (x) (y) 2) (by simp [results, Tryd.results48, go_sem] <;> omega) rfl ⟨rfl, (by repeat first | (with_reducible exact Below.refl _ _) | (with_reducible refine below_on ?_ _) | (with_reducible refine below_alloc ?_ _) | (with_reducible refine below_set ?_ (by simp; try omega) _))⟩

set_option maxRecDepth 100000 in
set_option maxHeartbeats 2000000 in
theorem lof_12 (x y : Int) (w : World) (x1 : -100000 ≤ x) (x2 : x ≤ 100000) (y1 : -100000 ≤ y) (y2 : y ≤ 100000) : Calls Tryd.prog 41 #[cl x y 1, .int .u8 2] w fun e w' => e = .returned (ln (lnK 1 2) (lnC 1 2 x y)) ∧ Below w.heap.size w w' := by
  rw [lnK12, lnC12]
  go_enter Tryd.func41, Tryd.ntmps41
  go_wp2_with fail
  exact bodyPost_ret (v := ln 4 (y - x)) (by simp [results, Tryd.results41, go_sem] <;> omega) rfl ⟨rfl, (by repeat first | (with_reducible exact Below.refl _ _) | (with_reducible refine below_on ?_ _) | (with_reducible refine below_alloc ?_ _) | (with_reducible refine below_set ?_ (by simp; try omega) _))⟩

set_option maxRecDepth 100000 in
set_option maxHeartbeats 2000000 in
theorem nof_20 (x y : Int) (w : World) (hL : Lay w) (x1 : -100000 ≤ x) (x2 : x ≤ 100000) (y1 : -100000 ≤ y) (y2 : y ≤ 100000) : Calls Tryd.prog 48 #[cl x y 2, .int .u8 0] w fun e w' => e = .returned (cl (nbX 2 0 x) (nbY 2 0 y) (nbQ 2 0)) ∧ Below w.heap.size w w' := by
  have g0 : ∀ o1 o2, ((w.alloc o1).alloc o2).cell? ⟨1, 18, none⟩ = some (.int .i64 0) := al2 (hL.nei 18 (by decide))
  have g1 : ∀ o1 o2, ((w.alloc o1).alloc o2).cell? ⟨1, 19, none⟩ = some (.int .i64 1) := al2 (hL.nei 19 (by decide))
  have g2 : ∀ o1 o2, ((w.alloc o1).alloc o2).cell? ⟨1, 20, none⟩ = some (.int .u8 0) := al2 (hL.nei 20 (by decide))
  rw [nbX20, nbY20, nbQ20]
  go_enter Tryd.func48, Tryd.ntmps48
  go_wp2_with fail
  exact bodyPost_ret (v := cl (x) (y + 1) 0) (by simp [results, Tryd.results48, go_sem] <;> omega) rfl ⟨rfl, (by repeat first | (with_reducible exact Below.refl _ _) | (with_reducible refine below_on ?_ _) | (with_reducible refine below_alloc ?_ _) | (with_reducible refine below_set ?_ (by simp; try omega) _))⟩

set_option maxRecDepth 100000 in
set_option maxHeartbeats 2000000 in
theorem lof_20 (x y : Int) (w : World) (x1 : -100000 ≤ x) (x2 : x ≤ 100000) (y1 : -100000 ≤ y) (y2 : y ≤ 100000) : Calls Tryd.prog 41 #[cl x y 2, .int .u8 0] w fun e w' => e = .returned (ln (lnK 2 0) (lnC 2 0 x y)) ∧ Below w.heap.size w w' := by
  rw [lnK20, lnC20]
  go_enter Tryd.func41, Tryd.ntmps41
  go_wp2_with fail
  exact bodyPost_ret (v := ln 2 (y + 1)) (by simp [results, Tryd.results41, go_sem] <;> omega) rfl ⟨rfl, (by repeat first | (with_reducible exact Below.refl _ _) | (with_reducible refine below_on ?_ _) | (with_reducible refine below_alloc ?_ _) | (with_reducible refine below_set ?_ (by simp; try omega) _))⟩

set_option maxRecDepth 100000 in
set_option maxHeartbeats 2000000 in
theorem nof_21 (x y : Int) (w : World) (hL : Lay w) (x1 : -100000 ≤ x) (x2 : x ≤ 100000) (y1 : -100000 ≤ y) (y2 : y ≤ 100000) : Calls Tryd.prog 48 #[cl x y 2, .int .u8 1] w fun e w' => e = .returned (cl (nbX 2 1 x) (nbY 2 1 y) (nbQ 2 1)) ∧ Below w.heap.size w w' := by
  have g0 : ∀ o1 o2, ((w.alloc o1).alloc o2).cell? ⟨1, 21, none⟩ = some (.int .i64 0) := al2 (hL.nei 21 (by decide))
  have g1 : ∀ o1 o2, ((w.alloc o1).alloc o2).cell? ⟨1, 22, none⟩ = some (.int .i64 0) := al2 (hL.nei 22 (by decide))
  have g2 : ∀ o1 o2, ((w.alloc o1).alloc o2).cell? ⟨1, 23, none⟩ = some (.int .u8 3) := al2 (hL.nei 23 (by decide))
  rw [nbX21, nbY21, nbQ21]
  go_enter Tryd.func48, Tryd.ntmps48
  go_wp2_with fail
  exact bodyPost_ret (v := cl (x) (y) 3) (by simp [results, Tryd.results48, go_sem] <;> omega) rfl ⟨rfl, (by repeat first | (with_reducible exact Below.refl _ _) | (with_reducible refine below_on ?_ _) | (with_reducible refine below_alloc ?_ _) | (with_reducible refine below_set ?_ (by simp; try omega) _))⟩

set_option maxRecDepth 100000 in
set_option maxHeartbeats 2000000 in
theorem lof_21 (x y : Int) (w : World) (x1 : -100000 ≤ x) (x2 : x ≤ 100000) (y1 : -100000 ≤ y) (y2 : y ≤ 100000) : Calls Tryd.prog 41 #[cl x y 2, .int .u8 1] w fun e w' => e = .returned (ln (lnK 2 1) (lnC 2 1 x y)) ∧ Below w.heap.size w w' := by
  rw [lnK21, lnC21]
  go_enter Tryd.func41, Tryd.ntmps41
  go_wp2_with fail
  exact bodyPost_ret (v := ln 3 (x + y + 1)) (by simp [results, Tryd.results41, go_sem] <;> omega) rfl ⟨rfl, (by repeat first | (with_reducible exact Below.refl _ _) | (with_reducible refine below_on ?_ _) | (with_reducible refine below_alloc ?_ _) | (with_reducible refine below_set ?_ (by simp; try omega) _))⟩

set_option maxRecDepth 100000 in
set_option maxHeartbeats 2000000 in
theorem nof_22 (x y : Int) (w : World) (hL : Lay w) (x1 : -100000 ≤ x) (x2 : x ≤ 100000) (y1 : -100000 ≤ y) (y2 : y ≤ 100000) : Calls Tryd.prog 48 #[cl x y 2, .int .u8 2] w fun e w' => e = .returned (cl (nbX 2 2 x) (nbY 2 2 y) (nbQ 2 2)) ∧ Below w.heap.size w w' := by
  have g0 : ∀ o1 o2, ((w.alloc o1).alloc o2).cell? ⟨1, 24, none⟩ = some (.int .i64 0) := al2 (hL.nei 24 (by decide))
  have g1 : ∀ o1 o2, ((w.alloc o1).alloc o2).cell? ⟨1, 25, none⟩ = some (.int .i64 0) := al2 (hL.nei 25 (by decide))
  have g2 : ∀ o1 o2, ((w.alloc o1).alloc o2).cell? ⟨1, 26, none⟩ = some (.int .u8 1) := al2 (hL.nei 26 (by decide))
  rw [nbX22, nbY22, nbQ22]
  go_enter Tryd.func48, Tryd.ntmps48
  go_wp2_with fail
  exact bodyPost_ret (v := cl (x) (y) 1) (by simp [results, Tryd.results48, go_sem] <;> omega) rfl ⟨rfl, (by repeat first | (with_reducible exact Below.refl _ _) | (with_reducible refine below_on ?_ _) | (with_reducible refine below_alloc ?_ _) | (with_reducible refine below_set ?_ (by simp; try omega) _))⟩

set_option maxRecDepth 100000 in
set_option maxHeartbeats 2000000 in
theorem lof_22 (x y : Int) (w : World) (x1 : -100000 ≤ x) (x2 : x ≤ 100000) (y1 : -100000 ≤ y) (y2 : y ≤ 100000) : Calls Tryd.prog 41 #[cl x y 2, .int .u8 2] w fun e w' => e = .returned (ln (lnK 2 2) (lnC 2 2 x y)) ∧ Below w.heap.size w w' := by
  rw [lnK22, lnC22]
  go_enter Tryd.func41, Tryd.ntmps41
  go_wp2_with fail
  exact bodyPost_ret (v := ln 4 (y - x)) (by simp [results, Tryd.results41, go_sem] <;> omega) rfl ⟨rfl, (by repeat first | (with_reducible exact Below.refl _ _) | (with_reducible refine below_on ?_ _) | (with_reducible refine below_alloc ?_ _) | (with_reducible refine below_set ?_ (by simp; try omega) _))⟩

set_option maxRecDepth 100000 in
set_option maxHeartbeats 2000000 in
theorem nof_30 (x y : Int) (w : World) (hL : Lay w) (x1 : -100000 ≤ x) (x2 : x ≤ 100000) (y1 : -100000 ≤ y) (y2 : y ≤ 100000) : Calls Tryd.prog 48 #[cl x y 3, .int .u8 0] w fun e w' => e = .returned (cl (nbX 3 0 x) (nbY 3 0 y) (nbQ 3 0)) ∧ Below w.heap.size w w' := by
  have g0 : ∀ o1 o2, ((w.alloc o1).alloc o2).cell? ⟨1, 27, none⟩ = some (.int .i64 (-1)) := al2 (hL.nei 27 (by decide))
  have g1 : ∀ o1 o2, ((w.alloc o1).alloc o2).cell? ⟨1, 28, none⟩ = some (.int .i64 0) := al2 (hL.nei 28 (by decide))
  have g2 : ∀ o1 o2, ((w.alloc o1).alloc o2).cell? ⟨1, 29, none⟩ = some (.int .u8 1) := al2 (hL.nei 29 (by decide))
  rw [nbX30, nbY30, nbQ30]
  go_enter Tryd.func48, Tryd.ntmps48
  go_wp2_with fail
  exact bodyPost_ret (v := cl (x - 1) (y) 1) (by simp [results, Tryd.results48, go_sem] <;> omega) rfl ⟨rfl, (by repeat first | (with_reducible exact Below.refl _ _) | (with_reducible refine below_on ?_ _) | (with_reducible refine below_alloc ?_ _) | (with_reducible refine below_set ?_ (by simp; try omega) _))⟩

set_option maxRecDepth 100000 in
set_option maxHeartbeats 2000000 in
theorem lof_30 (x y : Int) (w : World) (x1 : -100000 ≤ x) (x2 : x ≤ 100000) (y1 : -100000 ≤ y) (y2 : y ≤ 100000) : Calls Tryd.prog 41 #[cl x y 3, .int .u8 0] w fun e w' => e = .returned (ln (lnK 3 0) (lnC 3 0 x y)) ∧ Below w.heap.size w w' := by
  rw [lnK30, lnC30]
  go_enter Tryd.func41, Tryd.ntmps41
  go_wp2_with fail
  exact bodyPost_ret (v := ln 1 (x)) (by simp [results, Tryd.results41, go_sem] <;> omega) rfl ⟨rfl, (by repeat first | (with_reducible exact Below.refl _ _) | (with_reducible refine below_on ?_ _) | (with_reducible refine below_alloc ?_ _) | (with_reducible refine below_set ?_ (by simp; try omega) _))⟩

set_option maxRecDepth 100000 in
set_option maxHeartbeats 2000000 in
theorem nof_31 (x y : Int) (w : World) (hL : Lay w) (x1 : -100000 ≤ x) (x2 : x ≤ 100000) (y1 : -100000 ≤ y) (y2 : y ≤ 100000) : Calls Tryd.prog 48 #[cl x y 3, .int .u8 1] w fun e w' => e = .returned (cl (nbX 3 1 x) (nbY 3 1 y) (nbQ 3 1)) ∧ Below w.heap.size w w' := by
  have g0 : ∀ o1 o2, ((w.alloc o1).alloc o2).cell? ⟨1, 30, none⟩ = some (.int .i64 0) := al2 (hL.nei 30 (by decide))
  have g1 : ∀ o1 o2, ((w.alloc o1).alloc o2).cell? ⟨1, 31, none⟩ = some (.int .i64 0) := al2 (hL.nei 31 (by decide))
  have g2 : ∀ o1 o2, ((w.alloc o1).alloc o2).cell? ⟨1, 32, none⟩ = some (.int .u8 2) := al2 (hL.nei 32 (by decide))
  rw [nbX31, nbY31, nbQ31]
  go_enter Tryd.func48, Tryd.ntmps48
  go_wp2_with fail
  exact bodyPost_ret (v := cl (x) (y) 2) (by simp [results, Tryd.results48, go_sem] <;> omega) rfl ⟨rfl, (by repeat first | (with_reducible exact Below.refl _ _) | (with_reducible refine below_on ?_ _) | (with_reducible refine below_alloc ?_ _) | (with_reducible refine below_set ?_ (by simp; try omega) _))⟩

set_option maxRecDepth 100000 in
set_option maxHeartbeats 2000000 in
theorem lof_31 (x y : Int) (w : World) (x1 : -100000 ≤ x) (x2 : x ≤ 100000) (y1 : -100000 ≤ y) (y2 : y ≤ 100000) : Calls Tryd.prog 41 #[cl x y 3, .int .u8 1] w fun e w' => e = .returned (ln (lnK 3 1) (lnC 3 1 x y)) ∧ Below w.heap.size w w' := by
  rw [lnK31, lnC31]
  go_enter Tryd.func41, Tryd.ntmps41
  go_wp2_with fail
  exact bodyPost_ret (v := ln 3 (x + y + 1)) (by simp [results, Tryd.results41, go_sem] <;> omega) rfl ⟨rfl, (by repeat first | (with_reducible exact Below.refl _ _) | (with_reducible refine below_on ?_ _) | (with_reducible refine below_alloc ?_ _) | (with_reducible refine below_set ?_ (by simp; try omega) _))⟩

set_option maxRecDepth 100000 in
set_option maxHeartbeats 2000000 in
theorem nof_32 (x y : Int) (w : World) (hL : Lay w) (x1 : -100000 ≤ x) (x2 : x ≤ 100000) (y1 : -100000 ≤ y) (y2 : y ≤ 100000) : Calls Tryd.prog 48 #[cl x y 3, .int .u8 2] w fun e w' => e = .returned (cl (nbX 3 2 x) (nbY 3 2 y) (nbQ 3 2)) ∧ Below w.heap.size w w' := by
  have g0 : ∀ o1 o2, ((w.alloc o1).alloc o2).cell? ⟨1, 33, none⟩ = some (.int .i64 0) := al2 (hL.nei 33 (by decide))
  have g1 : ∀ o1 o2, ((w.alloc o1).alloc o2).cell? ⟨1, 34, none⟩ = some (.int .i64 0) := al2 (hL.nei 34 (by decide))
  have g2 : ∀ o1 o2, ((w.alloc o1).alloc o2).cell? ⟨1, 35, none⟩ = some (.int .u8 0) := al2 (hL.nei 35 (by decide))
  rw [nbX32, nbY32, nbQ32]
  go_enter Tryd.func48, Tryd.ntmps48
  go_wp2_with fail
  exact bodyPost_ret (v := cl (x) (y) 0) (by simp [results, Tryd.results48, go_sem] <;> omega) rfl ⟨rfl, (by repeat first | (with_reducible exact Below.refl _ _) | (with_reducible refine below_on ?_ _) | (with_reducible refine below_alloc ?_ _) | (with_reducible refine below_set ?_ (by simp; try omega) _))⟩

set_option maxRecDepth 100000 in
set_option maxHeartbeats 2000000 in
theorem lof_32 (x y : Int) (w : World) (x1 : -100000 ≤ x) (x2 : x ≤ 100000) (y1 : -100000 ≤ y) (y2 : y ≤ 100000) : Calls Tryd.prog 41 #[cl x y 3, .int .u8 2] w fun e w' => e = .returned (ln (lnK 3 2) (lnC 3 2 x y)) ∧ Below w.heap.size w w' := by
  rw [lnK32, lnC32]
  go_enter Tryd.func41, Tryd.ntmps41
  go_wp2_with fail
  exact bodyPost_ret (v := ln 4 (y - x)) (by simp [results, Tryd.results41, go_sem] <;> omega) rfl ⟨rfl, (by repeat first | (with_reducible exact Below.refl _ _) | (with_reducible refine below_on ?_ _) | (with_reducible refine below_alloc ?_ _) | (with_reducible refine below_set ?_ (by simp; try omega) _))⟩

theorem nof_any (x y q e : Int) (w : World) (hL : Lay w) (x1 : -100000 ≤ x) (x2 : x ≤ 100000) (y1 : -100000 ≤ y) (y2 : y ≤ 100000) (q1 : 0 ≤ q) (q2 : q ≤ 3) (e1 : 0 ≤ e) (e2 : e ≤ 2) : Calls Tryd.prog 48 #[cl x y q, .int .u8 e] w fun r w' => r = .returned (cl (nbX q e x) (nbY q e y) (nbQ q e)) ∧ Below w.heap.size w w' := by
  obtain rfl | rfl | rfl | rfl : q = 0 ∨ q = 1 ∨ q = 2 ∨ q = 3 := by omega
  · obtain rfl | rfl | rfl : e = 0 ∨ e = 1 ∨ e = 2 := by omega
    · exact nof_00 x y w hL x1 x2 y1 y2
    · exact nof_01 x y w hL x1 x2 y1 y2
    · exact nof_02 x y w hL x1 x2 y1 y2
  · obtain rfl | rfl | rfl : e = 0 ∨ e = 1 ∨ e = 2 := by omega
    · exact nof_10 x y w hL x1 x2 y1 y2
    · exact nof_11 x y w hL x1 x2 y1 y2
    · exact nof_12 x y w hL x1 x2 y1 y2
  · obtain rfl | rfl | rfl : e = 0 ∨ e = 1 ∨ e = 2 := by omega
    · exact nof_20 x y w hL x1 x2 y1 y2
    · exact nof_21 x y w hL x1 x2 y1 y2
    · exact nof_22 x y w hL x1 x2 y1 y2
  · obtain rfl | rfl | rfl : e = 0 ∨ e = 1 ∨ e = 2 := by omega
    · exact nof_30 x y w hL x1 x2 y1 y2
    · exact nof_31 x y w hL x1 x2 y1 y2
    · exact nof_32 x y w hL x1 x2 y1 y2

theorem lof_any (x y q e : Int) (w : World) (x1 : -100000 ≤ x) (x2 : x ≤ 100000) (y1 : -100000 ≤ y) (y2 : y ≤ 100000) (q1 : 0 ≤ q) (q2 : q ≤ 3) (e1 : 0 ≤ e) (e2 : e ≤ 2) : Calls Tryd.prog 41 #[cl x y q, .int .u8 e] w fun r w' => r = .returned (ln (lnK q e) (lnC q e x y)) ∧ Below w.heap.size w w' := by
  obtain rfl | rfl | rfl | rfl : q = 0 ∨ q = 1 ∨ q = 2 ∨ q = 3 := by omega
  · obtain rfl | rfl | rfl : e = 0 ∨ e = 1 ∨ e = 2 := by omega
    · exact lof_00 x y w x1 x2 y1 y2
    · exact lof_01 x y w x1 x2 y1 y2
    · exact lof_02 x y w x1 x2 y1 y2
  · obtain rfl | rfl | rfl : e = 0 ∨ e = 1 ∨ e = 2 := by omega
    · exact lof_10 x y w x1 x2 y1 y2
    · exact lof_11 x y w x1 x2 y1 y2
    · exact lof_12 x y w x1 x2 y1 y2
  · obtain rfl | rfl | rfl : e = 0 ∨ e = 1 ∨ e = 2 := by omega
    · exact lof_20 x y w x1 x2 y1 y2
    · exact lof_21 x y w x1 x2 y1 y2
    · exact lof_22 x y w x1 x2 y1 y2
  · obtain rfl | rfl | rfl : e = 0 ∨ e = 1 ∨ e = 2 := by omega
    · exact lof_30 x y w x1 x2 y1 y2
    · exact lof_31 x y w x1 x2 y1 y2
    · exact lof_32 x y w x1 x2 y1 y2

end Go.Proofs.YtgkiliijefkcaaaDoor
