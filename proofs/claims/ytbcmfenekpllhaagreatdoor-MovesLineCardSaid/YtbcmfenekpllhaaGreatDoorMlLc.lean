/-
  Says: MovesLine answers true, given what its calls give.
-/
import Derived.Test.YtbcmfenekpllhaaGreatDoorMv12
import Derived.Test.YtbcmfenekpllhaaGreatDoorMr3
import Derived.Test.YtbcmfenekpllhaaGreatDoorMv7a
import Derived.Test.YtbcmfenekpllhaaGreatDoorRfA
import Derived.Test.YtbcmfenekpllhaaGreatDoorMr1
import Derived.Test.YtbcmfenekpllhaaGreatDoorMvz
import Derived.Deep.RegionHeld3
import Derived.RowKit3
set_option linter.unusedVariables false
set_option linter.unusedSimpArgs false
namespace Go.Proofs.YtbcmfenekpllhaaGreatDoor
open Go Go.RowKit

attribute [local go_sem] World.cell?_alloc_some frozen?_alloc_cells fz0 fz1 fz2 fz3 fz4 fz5

theorem stored3l {W : World} {u : Later W} {b : Nat} {x0 x1 x2 : Value} {t : TypeId} (hb : W.heap.size ≤ b) (h : (on u).heap[b]? = some (.cells #[x0, x1, x2] t)) (v0 v1 v2 : Value) :
    ∃ u' : Later W, (((on u).setCell ⟨b, 0, none⟩ v0).setCell ⟨b, 1, none⟩ v1).setCell ⟨b, 2, none⟩ v2 = on u' ∧ (on u').heap[b]? = some (.cells #[v0, v1, v2] t) :=
  ⟨⟨_, ((u.b.setCell (p := ⟨b, 0, none⟩) hb v0).setCell (p := ⟨b, 1, none⟩) hb v1).setCell (p := ⟨b, 2, none⟩) hb v2⟩, rfl, held_set (held_set (held_set h 0 v0) 1 v1) 2 v2⟩
theorem alloc51l : ∀ w, (Instr.alloc 23 true (.tuple #[])).run Tryz.prog w = .ok (.pointer (some ⟨w.heap.size, 0, none⟩)) (w.alloc (.cells #[.int .u8 0, .int .i64 0, .int .i64 0] 23)) := fun _ => by kernel_rfl

set_option maxRecDepth 100000 in
set_option maxHeartbeats 2000000 in
theorem mline_bad1 (t X Y k c : Int) (w : World) (h : 7 < t ∨ X < -16384 ∨ 16384 < X ∨ Y < -16384 ∨ 16384 < Y ∨ (X + Y) % 2 ≠ 0) : Calls Tryz.prog 5 #[mv t X Y, ln k c] w fun e w' => e = .returned (.tuple #[ln 0 0, .int .i64 1]) ∧ Below w.heap.size w w' := by
  have H : Hid (7 < t ∨ X < -16384 ∨ 16384 < X ∨ Y < -16384 ∨ 16384 < Y ∨ (X + Y) % 2 ≠ 0) := h
  clear h
  go_enter Tryz.func5, Tryz.ntmps5
  go_wp2_with (first | (go_at_call 24; with_reducible refine (mcheck_bad t X Y _ H.out).mono ?_; rintro e wx ⟨rfl, hx⟩; obtain ⟨ux, rfl⟩ := after hx; clear hx) | fail)
  exact bodyPost_ret (v := .tuple #[ln 0 0, .int .i64 1]) (by simp [results, Tryz.results5, go_sem]) rfl ⟨rfl, (by repeat first | (with_reducible exact Below.refl _ _) | (with_reducible refine below_on ?_ _) | (with_reducible refine below_alloc ?_ _) | (with_reducible refine below_set ?_ (by simp; try omega) _))⟩

set_option maxRecDepth 100000 in
set_option maxHeartbeats 2000000 in
theorem mline_bad2 (t X Y k c : Int) (w : World) (a1 : 0 ≤ t) (a2 : t ≤ 7) (a3 : -16384 ≤ X) (a4 : X ≤ 16384) (a5 : -16384 ≤ Y) (a6 : Y ≤ 16384) (a7 : (X + Y) % 2 = 0) (h : k < 1 ∨ 4 < k ∨ c < -4096 ∨ 4096 < c) : Calls Tryz.prog 5 #[mv t X Y, ln k c] w fun e w' => e = .returned (.tuple #[ln 0 0, .int .i64 1]) ∧ Below w.heap.size w w' := by
  have HA : Hid ((X + Y) % 2 = 0) := a7
  clear a7
  have H : Hid (k < 1 ∨ 4 < k ∨ c < -4096 ∨ 4096 < c) := h
  clear h
  go_enter Tryz.func5, Tryz.ntmps5
  go_wp2_with (first | (go_at_call 24; with_reducible refine (mcheck_ok t X Y _ a1 a2 a3 a4 a5 a6 HA.out).mono ?_; rintro e wx ⟨rfl, hx⟩; obtain ⟨ux, rfl⟩ := after hx; clear hx) | (go_at_call 25; with_reducible refine (check_bad k c _ H.out).mono ?_; rintro e wx ⟨rfl, hx⟩; obtain ⟨ux, rfl⟩ := after hx; clear hx) | fail)
  exact bodyPost_ret (v := .tuple #[ln 0 0, .int .i64 1]) (by simp [results, Tryz.results5, go_sem]) rfl ⟨rfl, (by repeat first | (with_reducible exact Below.refl _ _) | (with_reducible refine below_on ?_ _) | (with_reducible refine below_alloc ?_ _) | (with_reducible refine below_set ?_ (by simp; try omega) _))⟩

set_option maxRecDepth 100000 in
set_option maxHeartbeats 8000000 in
theorem mln_bad1 (t X Y k c : Int) (w : World) (hS : Std w) (h : 7 < t ∨ X < -16384 ∨ 16384 < X ∨ Y < -16384 ∨ 16384 < Y ∨ (X + Y) % 2 ≠ 0) : Calls Tryz.prog 3 #[mv t X Y, ln k c] w fun e w' => e = .returned (.bool true) ∧ Below w.heap.size w w' := by
  have hS' : ∀ W, Below w.heap.size w W → Std W := fun W h => std_below hS h
  have H : Hid (7 < t ∨ X < -16384 ∨ 16384 < X ∨ Y < -16384 ∨ 16384 < Y ∨ (X + Y) % 2 ≠ 0) := h
  clear h
  go_enter Tryz.func3, Tryz.ntmps3
  go_wp2_with fail
  have hB0 : Below w.heap.size w ((w.alloc (.cells #[.int .u8 t, .int .i64 (X), .int .i64 (Y)] 23)).alloc (.cells #[.int .u8 k, .int .i64 c] 26)) := (by repeat first | (with_reducible exact Below.refl _ _) | (with_reducible refine below_on ?_ _) | (with_reducible refine below_alloc ?_ _) | (with_reducible refine below_set ?_ (by simp; try omega) _))
  have b00 : ((w.alloc (.cells #[.int .u8 t, .int .i64 (X), .int .i64 (Y)] 23)).alloc (.cells #[.int .u8 k, .int .i64 c] 26)).cell? ⟨w.heap.size, 0, none⟩ = some (.int .u8 t) := by simp [go_sem]
  have b01 : ((w.alloc (.cells #[.int .u8 t, .int .i64 (X), .int .i64 (Y)] 23)).alloc (.cells #[.int .u8 k, .int .i64 c] 26)).cell? ⟨w.heap.size, 1, none⟩ = some (.int .i64 (X)) := by simp [go_sem]
  have b02 : ((w.alloc (.cells #[.int .u8 t, .int .i64 (X), .int .i64 (Y)] 23)).alloc (.cells #[.int .u8 k, .int .i64 c] 26)).cell? ⟨w.heap.size, 2, none⟩ = some (.int .i64 (Y)) := by simp [go_sem]
  have b10 : ((w.alloc (.cells #[.int .u8 t, .int .i64 (X), .int .i64 (Y)] 23)).alloc (.cells #[.int .u8 k, .int .i64 c] 26)).cell? ⟨w.heap.size + 1, 0, none⟩ = some (.int .u8 k) := by simp [go_sem]
  have b11 : ((w.alloc (.cells #[.int .u8 t, .int .i64 (X), .int .i64 (Y)] 23)).alloc (.cells #[.int .u8 k, .int .i64 c] 26)).cell? ⟨w.heap.size + 1, 1, none⟩ = some (.int .i64 c) := by simp [go_sem]
  generalize ((w.alloc (.cells #[.int .u8 t, .int .i64 (X), .int .i64 (Y)] 23)).alloc (.cells #[.int .u8 k, .int .i64 c] 26)) = W0 at *
  go_wp2_with (first | (go_at_call 5; with_reducible refine (mline_bad1 t X Y k c _ H.out).mono ?_; rintro e wx ⟨rfl, hx⟩; obtain ⟨ux, rfl⟩ := after hx; clear hx) | fail)
  have hR : Below (W0).heap.size (W0) ((on ux).alloc (.cells #[.int .u8 0, .int .i64 0] 26)) := by repeat first | (with_reducible exact Below.refl _ _) | (with_reducible refine below_on ?_ _) | (with_reducible refine below_alloc ?_ _)
  have b00' : ((on ux).alloc (.cells #[.int .u8 0, .int .i64 0] 26)).cell? ⟨w.heap.size, 0, none⟩ = some (.int .u8 t) := (hR.cell (World.block_lt_of_cell? _ _ b00)).trans b00
  have b01' : ((on ux).alloc (.cells #[.int .u8 0, .int .i64 0] 26)).cell? ⟨w.heap.size, 1, none⟩ = some (.int .i64 (X)) := (hR.cell (World.block_lt_of_cell? _ _ b01)).trans b01
  have b02' : ((on ux).alloc (.cells #[.int .u8 0, .int .i64 0] 26)).cell? ⟨w.heap.size, 2, none⟩ = some (.int .i64 (Y)) := (hR.cell (World.block_lt_of_cell? _ _ b02)).trans b02
  have b10' : ((on ux).alloc (.cells #[.int .u8 0, .int .i64 0] 26)).cell? ⟨w.heap.size + 1, 0, none⟩ = some (.int .u8 k) := (hR.cell (World.block_lt_of_cell? _ _ b10)).trans b10
  have b11' : ((on ux).alloc (.cells #[.int .u8 0, .int .i64 0] 26)).cell? ⟨w.heap.size + 1, 1, none⟩ = some (.int .i64 c) := (hR.cell (World.block_lt_of_cell? _ _ b11)).trans b11
  have B100 : ((on ux).alloc (.cells #[.int .u8 0, .int .i64 0] 26)).cell? ⟨(on ux).heap.size, 0, none⟩ = some (.int .u8 0) := by simp [go_sem]
  have B101 : ((on ux).alloc (.cells #[.int .u8 0, .int .i64 0] 26)).cell? ⟨(on ux).heap.size, 1, none⟩ = some (.int .i64 0) := by simp [go_sem]
  have hB1 : Below w.heap.size w ((on ux).alloc (.cells #[.int .u8 0, .int .i64 0] 26)) := by repeat first | (with_reducible exact hB0) | (with_reducible refine below_on ?_ _) | (with_reducible refine below_alloc ?_ _)
  clear hR b00 b01 b02 b10 b11  hB0
  generalize ((on ux).alloc (.cells #[.int .u8 0, .int .i64 0] 26)) = W1 at *
  generalize (on ux).heap.size = B1 at *
  clear ux
  go_wp2_with (first | (go_at_call 6; with_reducible refine (mvalid_no t X Y _ H.out).mono ?_; rintro e wx ⟨rfl, hx⟩; obtain ⟨ux, rfl⟩ := after hx; clear hx) | (go_at_call 8; with_reducible refine (lives2_ok _ (hS' _ (by repeat first | (with_reducible exact hB1) | (with_reducible refine below_on ?_ _) | (with_reducible refine below_alloc ?_ _) | (with_reducible refine below_set ?_ (by simp; try omega) _)))).mono ?_; rintro e wx ⟨rfl, hx⟩; obtain ⟨ux, rfl⟩ := after hx; clear hx) | fail)
  go_ret
  exact ⟨rfl, (by repeat first | (with_reducible exact hB1) | (with_reducible refine below_on ?_ _) | (with_reducible refine below_alloc ?_ _) | (with_reducible refine below_set ?_ (by simp; try omega) _))⟩

set_option maxRecDepth 100000 in
set_option maxHeartbeats 8000000 in
theorem mln_bad2 (t X Y k c : Int) (w : World) (hS : Std w) (a1 : 0 ≤ t) (a2 : t ≤ 7) (a3 : -16384 ≤ X) (a4 : X ≤ 16384) (a5 : -16384 ≤ Y) (a6 : Y ≤ 16384) (a7 : (X + Y) % 2 = 0) (h : k < 1 ∨ 4 < k ∨ c < -4096 ∨ 4096 < c) : Calls Tryz.prog 3 #[mv t X Y, ln k c] w fun e w' => e = .returned (.bool true) ∧ Below w.heap.size w w' := by
  have hS' : ∀ W, Below w.heap.size w W → Std W := fun W h => std_below hS h
  have HA : Hid ((X + Y) % 2 = 0) := a7
  clear a7
  have H : Hid (k < 1 ∨ 4 < k ∨ c < -4096 ∨ 4096 < c) := h
  clear h
  go_enter Tryz.func3, Tryz.ntmps3
  go_wp2_with fail
  have hB0 : Below w.heap.size w ((w.alloc (.cells #[.int .u8 t, .int .i64 (X), .int .i64 (Y)] 23)).alloc (.cells #[.int .u8 k, .int .i64 c] 26)) := (by repeat first | (with_reducible exact Below.refl _ _) | (with_reducible refine below_on ?_ _) | (with_reducible refine below_alloc ?_ _) | (with_reducible refine below_set ?_ (by simp; try omega) _))
  have b00 : ((w.alloc (.cells #[.int .u8 t, .int .i64 (X), .int .i64 (Y)] 23)).alloc (.cells #[.int .u8 k, .int .i64 c] 26)).cell? ⟨w.heap.size, 0, none⟩ = some (.int .u8 t) := by simp [go_sem]
  have b01 : ((w.alloc (.cells #[.int .u8 t, .int .i64 (X), .int .i64 (Y)] 23)).alloc (.cells #[.int .u8 k, .int .i64 c] 26)).cell? ⟨w.heap.size, 1, none⟩ = some (.int .i64 (X)) := by simp [go_sem]
  have b02 : ((w.alloc (.cells #[.int .u8 t, .int .i64 (X), .int .i64 (Y)] 23)).alloc (.cells #[.int .u8 k, .int .i64 c] 26)).cell? ⟨w.heap.size, 2, none⟩ = some (.int .i64 (Y)) := by simp [go_sem]
  have b10 : ((w.alloc (.cells #[.int .u8 t, .int .i64 (X), .int .i64 (Y)] 23)).alloc (.cells #[.int .u8 k, .int .i64 c] 26)).cell? ⟨w.heap.size + 1, 0, none⟩ = some (.int .u8 k) := by simp [go_sem]
  have b11 : ((w.alloc (.cells #[.int .u8 t, .int .i64 (X), .int .i64 (Y)] 23)).alloc (.cells #[.int .u8 k, .int .i64 c] 26)).cell? ⟨w.heap.size + 1, 1, none⟩ = some (.int .i64 c) := by simp [go_sem]
  generalize ((w.alloc (.cells #[.int .u8 t, .int .i64 (X), .int .i64 (Y)] 23)).alloc (.cells #[.int .u8 k, .int .i64 c] 26)) = W0 at *
  go_wp2_with (first | (go_at_call 5; with_reducible refine (mline_bad2 t X Y k c _ a1 a2 a3 a4 a5 a6 HA.out H.out).mono ?_; rintro e wx ⟨rfl, hx⟩; obtain ⟨ux, rfl⟩ := after hx; clear hx) | fail)
  have hR : Below (W0).heap.size (W0) ((on ux).alloc (.cells #[.int .u8 0, .int .i64 0] 26)) := by repeat first | (with_reducible exact Below.refl _ _) | (with_reducible refine below_on ?_ _) | (with_reducible refine below_alloc ?_ _)
  have b00' : ((on ux).alloc (.cells #[.int .u8 0, .int .i64 0] 26)).cell? ⟨w.heap.size, 0, none⟩ = some (.int .u8 t) := (hR.cell (World.block_lt_of_cell? _ _ b00)).trans b00
  have b01' : ((on ux).alloc (.cells #[.int .u8 0, .int .i64 0] 26)).cell? ⟨w.heap.size, 1, none⟩ = some (.int .i64 (X)) := (hR.cell (World.block_lt_of_cell? _ _ b01)).trans b01
  have b02' : ((on ux).alloc (.cells #[.int .u8 0, .int .i64 0] 26)).cell? ⟨w.heap.size, 2, none⟩ = some (.int .i64 (Y)) := (hR.cell (World.block_lt_of_cell? _ _ b02)).trans b02
  have b10' : ((on ux).alloc (.cells #[.int .u8 0, .int .i64 0] 26)).cell? ⟨w.heap.size + 1, 0, none⟩ = some (.int .u8 k) := (hR.cell (World.block_lt_of_cell? _ _ b10)).trans b10
  have b11' : ((on ux).alloc (.cells #[.int .u8 0, .int .i64 0] 26)).cell? ⟨w.heap.size + 1, 1, none⟩ = some (.int .i64 c) := (hR.cell (World.block_lt_of_cell? _ _ b11)).trans b11
  have B100 : ((on ux).alloc (.cells #[.int .u8 0, .int .i64 0] 26)).cell? ⟨(on ux).heap.size, 0, none⟩ = some (.int .u8 0) := by simp [go_sem]
  have B101 : ((on ux).alloc (.cells #[.int .u8 0, .int .i64 0] 26)).cell? ⟨(on ux).heap.size, 1, none⟩ = some (.int .i64 0) := by simp [go_sem]
  have hB1 : Below w.heap.size w ((on ux).alloc (.cells #[.int .u8 0, .int .i64 0] 26)) := by repeat first | (with_reducible exact hB0) | (with_reducible refine below_on ?_ _) | (with_reducible refine below_alloc ?_ _)
  clear hR b00 b01 b02 b10 b11  hB0
  generalize ((on ux).alloc (.cells #[.int .u8 0, .int .i64 0] 26)) = W1 at *
  generalize (on ux).heap.size = B1 at *
  clear ux
  go_wp2_with (first | (go_at_call 6; with_reducible refine (mvalid_yes t X Y _ a1 a2 a3 a4 a5 a6 HA.out).mono ?_; rintro e wx ⟨rfl, hx⟩; obtain ⟨ux, rfl⟩ := after hx; clear hx) | (go_at_call 7; with_reducible refine (valid_no k c _ H.out).mono ?_; rintro e wx ⟨rfl, hx⟩; obtain ⟨ux, rfl⟩ := after hx; clear hx) | (go_at_call 8; with_reducible refine (lives2_ok _ (hS' _ (by repeat first | (with_reducible exact hB1) | (with_reducible refine below_on ?_ _) | (with_reducible refine below_alloc ?_ _) | (with_reducible refine below_set ?_ (by simp; try omega) _)))).mono ?_; rintro e wx ⟨rfl, hx⟩; obtain ⟨ux, rfl⟩ := after hx; clear hx) | fail)
  go_ret
  exact ⟨rfl, (by repeat first | (with_reducible exact hB1) | (with_reducible refine below_on ?_ _) | (with_reducible refine below_alloc ?_ _) | (with_reducible refine below_set ?_ (by simp; try omega) _))⟩

set_option maxRecDepth 100000 in
set_option maxHeartbeats 8000000 in
theorem mln_far (t X Y k c g C : Int) (w : World) (hS : Std w) (a1 : 0 ≤ t) (a2 : t ≤ 7) (a3 : -16384 ≤ X) (a4 : X ≤ 16384) (a5 : -16384 ≤ Y) (a6 : Y ≤ 16384) (a7 : (X + Y) % 2 = 0) (h1 : 1 ≤ k) (h2 : k ≤ 4) (h3 : -4096 ≤ c) (h4 : c ≤ 4096) (hc : C < -4096 ∨ 4096 < C) (LI : ∀ W, Std W → Calls Tryz.prog 5 #[mv t X Y, ln k c] W fun e w' => e = .returned (.tuple #[ln 0 0, .int .i64 3]) ∧ Below W.heap.size W w') (RL : ∀ W, Calls Tryz.prog 9 #[mv t X Y, ln k c] W fun e w' => e = .returned (ln g C) ∧ Below W.heap.size W w') : Calls Tryz.prog 3 #[mv t X Y, ln k c] w fun e w' => e = .returned (.bool true) ∧ Below w.heap.size w w' := by
  have hS' : ∀ W, Below w.heap.size w W → Std W := fun W h => std_below hS h
  have HA : Hid ((X + Y) % 2 = 0) := a7
  clear a7
  have HC : Hid (C < -4096 ∨ 4096 < C) := hc
  clear hc
  go_enter Tryz.func3, Tryz.ntmps3
  go_wp2_with fail
  have hB0 : Below w.heap.size w ((w.alloc (.cells #[.int .u8 t, .int .i64 (X), .int .i64 (Y)] 23)).alloc (.cells #[.int .u8 k, .int .i64 c] 26)) := (by repeat first | (with_reducible exact Below.refl _ _) | (with_reducible refine below_on ?_ _) | (with_reducible refine below_alloc ?_ _) | (with_reducible refine below_set ?_ (by simp; try omega) _))
  have b00 : ((w.alloc (.cells #[.int .u8 t, .int .i64 (X), .int .i64 (Y)] 23)).alloc (.cells #[.int .u8 k, .int .i64 c] 26)).cell? ⟨w.heap.size, 0, none⟩ = some (.int .u8 t) := by simp [go_sem]
  have b01 : ((w.alloc (.cells #[.int .u8 t, .int .i64 (X), .int .i64 (Y)] 23)).alloc (.cells #[.int .u8 k, .int .i64 c] 26)).cell? ⟨w.heap.size, 1, none⟩ = some (.int .i64 (X)) := by simp [go_sem]
  have b02 : ((w.alloc (.cells #[.int .u8 t, .int .i64 (X), .int .i64 (Y)] 23)).alloc (.cells #[.int .u8 k, .int .i64 c] 26)).cell? ⟨w.heap.size, 2, none⟩ = some (.int .i64 (Y)) := by simp [go_sem]
  have b10 : ((w.alloc (.cells #[.int .u8 t, .int .i64 (X), .int .i64 (Y)] 23)).alloc (.cells #[.int .u8 k, .int .i64 c] 26)).cell? ⟨w.heap.size + 1, 0, none⟩ = some (.int .u8 k) := by simp [go_sem]
  have b11 : ((w.alloc (.cells #[.int .u8 t, .int .i64 (X), .int .i64 (Y)] 23)).alloc (.cells #[.int .u8 k, .int .i64 c] 26)).cell? ⟨w.heap.size + 1, 1, none⟩ = some (.int .i64 c) := by simp [go_sem]
  generalize ((w.alloc (.cells #[.int .u8 t, .int .i64 (X), .int .i64 (Y)] 23)).alloc (.cells #[.int .u8 k, .int .i64 c] 26)) = W0 at *
  go_wp2_with (first | (go_at_call 5; with_reducible refine (LI _ (hS' _ (by repeat first | (with_reducible exact hB0) | (with_reducible refine below_on ?_ _) | (with_reducible refine below_alloc ?_ _) | (with_reducible refine below_set ?_ (by simp; try omega) _)))).mono ?_; rintro e wx ⟨rfl, hx⟩; obtain ⟨ux, rfl⟩ := after hx; clear hx) | fail)
  have hR : Below (W0).heap.size (W0) ((on ux).alloc (.cells #[.int .u8 0, .int .i64 0] 26)) := by repeat first | (with_reducible exact Below.refl _ _) | (with_reducible refine below_on ?_ _) | (with_reducible refine below_alloc ?_ _)
  have b00' : ((on ux).alloc (.cells #[.int .u8 0, .int .i64 0] 26)).cell? ⟨w.heap.size, 0, none⟩ = some (.int .u8 t) := (hR.cell (World.block_lt_of_cell? _ _ b00)).trans b00
  have b01' : ((on ux).alloc (.cells #[.int .u8 0, .int .i64 0] 26)).cell? ⟨w.heap.size, 1, none⟩ = some (.int .i64 (X)) := (hR.cell (World.block_lt_of_cell? _ _ b01)).trans b01
  have b02' : ((on ux).alloc (.cells #[.int .u8 0, .int .i64 0] 26)).cell? ⟨w.heap.size, 2, none⟩ = some (.int .i64 (Y)) := (hR.cell (World.block_lt_of_cell? _ _ b02)).trans b02
  have b10' : ((on ux).alloc (.cells #[.int .u8 0, .int .i64 0] 26)).cell? ⟨w.heap.size + 1, 0, none⟩ = some (.int .u8 k) := (hR.cell (World.block_lt_of_cell? _ _ b10)).trans b10
  have b11' : ((on ux).alloc (.cells #[.int .u8 0, .int .i64 0] 26)).cell? ⟨w.heap.size + 1, 1, none⟩ = some (.int .i64 c) := (hR.cell (World.block_lt_of_cell? _ _ b11)).trans b11
  have B100 : ((on ux).alloc (.cells #[.int .u8 0, .int .i64 0] 26)).cell? ⟨(on ux).heap.size, 0, none⟩ = some (.int .u8 0) := by simp [go_sem]
  have B101 : ((on ux).alloc (.cells #[.int .u8 0, .int .i64 0] 26)).cell? ⟨(on ux).heap.size, 1, none⟩ = some (.int .i64 0) := by simp [go_sem]
  have hB1 : Below w.heap.size w ((on ux).alloc (.cells #[.int .u8 0, .int .i64 0] 26)) := by repeat first | (with_reducible exact hB0) | (with_reducible refine below_on ?_ _) | (with_reducible refine below_alloc ?_ _)
  clear hR b00 b01 b02 b10 b11  hB0
  generalize ((on ux).alloc (.cells #[.int .u8 0, .int .i64 0] 26)) = W1 at *
  generalize (on ux).heap.size = B1 at *
  clear ux
  go_wp2_with (first | (go_at_call 6; with_reducible refine (mvalid_yes t X Y _ a1 a2 a3 a4 a5 a6 HA.out).mono ?_; rintro e wx ⟨rfl, hx⟩; obtain ⟨ux, rfl⟩ := after hx; clear hx) | (go_at_call 7; with_reducible refine (valid_yes k c _ h1 h2 h3 h4).mono ?_; rintro e wx ⟨rfl, hx⟩; obtain ⟨ux, rfl⟩ := after hx; clear hx) | fail)
  go_wp2_with (first | (go_at_call 9; with_reducible refine (RL _).mono ?_; rintro e wx ⟨rfl, hx⟩; obtain ⟨ux, rfl⟩ := after hx; clear hx) | fail)
  have hR : Below (W1).heap.size (W1) ((on ux).alloc (.cells #[.int .u8 g, .int .i64 C] 26)) := by repeat first | (with_reducible exact Below.refl _ _) | (with_reducible refine below_on ?_ _) | (with_reducible refine below_alloc ?_ _)
  have b00'' : ((on ux).alloc (.cells #[.int .u8 g, .int .i64 C] 26)).cell? ⟨w.heap.size, 0, none⟩ = some (.int .u8 t) := (hR.cell (World.block_lt_of_cell? _ _ b00')).trans b00'
  have b01'' : ((on ux).alloc (.cells #[.int .u8 g, .int .i64 C] 26)).cell? ⟨w.heap.size, 1, none⟩ = some (.int .i64 (X)) := (hR.cell (World.block_lt_of_cell? _ _ b01')).trans b01'
  have b02'' : ((on ux).alloc (.cells #[.int .u8 g, .int .i64 C] 26)).cell? ⟨w.heap.size, 2, none⟩ = some (.int .i64 (Y)) := (hR.cell (World.block_lt_of_cell? _ _ b02')).trans b02'
  have b10'' : ((on ux).alloc (.cells #[.int .u8 g, .int .i64 C] 26)).cell? ⟨w.heap.size + 1, 0, none⟩ = some (.int .u8 k) := (hR.cell (World.block_lt_of_cell? _ _ b10')).trans b10'
  have b11'' : ((on ux).alloc (.cells #[.int .u8 g, .int .i64 C] 26)).cell? ⟨w.heap.size + 1, 1, none⟩ = some (.int .i64 c) := (hR.cell (World.block_lt_of_cell? _ _ b11')).trans b11'
  have B100' : ((on ux).alloc (.cells #[.int .u8 g, .int .i64 C] 26)).cell? ⟨B1, 0, none⟩ = some (.int .u8 0) := (hR.cell (World.block_lt_of_cell? _ _ B100)).trans B100
  have B101' : ((on ux).alloc (.cells #[.int .u8 g, .int .i64 C] 26)).cell? ⟨B1, 1, none⟩ = some (.int .i64 0) := (hR.cell (World.block_lt_of_cell? _ _ B101)).trans B101
  have B200 : ((on ux).alloc (.cells #[.int .u8 g, .int .i64 C] 26)).cell? ⟨(on ux).heap.size, 0, none⟩ = some (.int .u8 g) := by simp [go_sem]
  have B201 : ((on ux).alloc (.cells #[.int .u8 g, .int .i64 C] 26)).cell? ⟨(on ux).heap.size, 1, none⟩ = some (.int .i64 C) := by simp [go_sem]
  have hB2 : Below w.heap.size w ((on ux).alloc (.cells #[.int .u8 g, .int .i64 C] 26)) := by repeat first | (with_reducible exact hB1) | (with_reducible refine below_on ?_ _) | (with_reducible refine below_alloc ?_ _)
  clear hR b00' b01' b02' b10' b11' B100 B101  hB1
  generalize ((on ux).alloc (.cells #[.int .u8 g, .int .i64 C] 26)) = W2 at *
  generalize (on ux).heap.size = B2 at *
  clear ux
  go_wp2_with (first | (go_at_call 7; with_reducible refine (valid_no g C _ (by have := HC.out; omega)).mono ?_; rintro e wx ⟨rfl, hx⟩; obtain ⟨ux, rfl⟩ := after hx; clear hx) | (go_at_call 8; with_reducible refine (lives2_ok _ (hS' _ (by repeat first | (with_reducible exact hB2) | (with_reducible refine below_on ?_ _) | (with_reducible refine below_alloc ?_ _) | (with_reducible refine below_set ?_ (by simp; try omega) _)))).mono ?_; rintro e wx ⟨rfl, hx⟩; obtain ⟨ux, rfl⟩ := after hx; clear hx) | fail)
  go_ret
  exact ⟨rfl, (by repeat first | (with_reducible exact hB2) | (with_reducible refine below_on ?_ _) | (with_reducible refine below_alloc ?_ _) | (with_reducible refine below_set ?_ (by simp; try omega) _))⟩

set_option maxRecDepth 100000 in
set_option maxHeartbeats 8000000 in
theorem mln_ok (t X Y k c g C p0 p1 p2 r0 r1 r2 s0 s1 s2 n0 n1 n2 : Int) (w : World) (hS : Std w) (a1 : 0 ≤ t) (a2 : t ≤ 7) (a3 : -16384 ≤ X) (a4 : X ≤ 16384) (a5 : -16384 ≤ Y) (a6 : Y ≤ 16384) (a7 : (X + Y) % 2 = 0) (h1 : 1 ≤ k) (h2 : k ≤ 4) (h3 : -4096 ≤ c) (h4 : c ≤ 4096) (g1 : 1 ≤ g) (g2 : g ≤ 4) (c1 : -4096 ≤ C) (c2 : C ≤ 4096)
    (LI : ∀ W, Std W → Calls Tryz.prog 5 #[mv t X Y, ln k c] W fun e w' => e = .returned (.tuple #[ln g C, .int .i64 0]) ∧ Below W.heap.size W w') (RL : ∀ W, Calls Tryz.prog 9 #[mv t X Y, ln k c] W fun e w' => e = .returned (ln g C) ∧ Below W.heap.size W w')
    (RI : ∀ W, Calls Tryz.prog 11 #[mv t X Y] W fun e w' => e = .returned (mv p0 p1 p2) ∧ Below W.heap.size W w') (RO : ∀ W, Calls Tryz.prog 12 #[ln k c] W fun e w' => e = .returned (mv r0 r1 r2) ∧ Below W.heap.size W w') (R1 : ∀ W, Calls Tryz.prog 10 #[mv p0 p1 p2, mv r0 r1 r2] W fun e w' => e = .returned (mv s0 s1 s2) ∧ Below W.heap.size W w')
    (R2 : ∀ W, Calls Tryz.prog 10 #[mv s0 s1 s2, mv t X Y] W fun e w' => e = .returned (mv n0 n1 n2) ∧ Below W.heap.size W w') (MO : ∀ W, Calls Tryz.prog 13 #[ln g C] W fun e w' => e = .returned (.tuple #[mv n0 n1 n2, .int .i64 0]) ∧ Below W.heap.size W w') : Calls Tryz.prog 3 #[mv t X Y, ln k c] w fun e w' => e = .returned (.bool true) ∧ Below w.heap.size w w' := by
  have hS' : ∀ W, Below w.heap.size w W → Std W := fun W h => std_below hS h
  have HA : Hid ((X + Y) % 2 = 0) := a7
  clear a7
  go_enter Tryz.func3, Tryz.ntmps3
  go_wp2_with fail
  have hB0 : Below w.heap.size w ((w.alloc (.cells #[.int .u8 t, .int .i64 (X), .int .i64 (Y)] 23)).alloc (.cells #[.int .u8 k, .int .i64 c] 26)) := (by repeat first | (with_reducible exact Below.refl _ _) | (with_reducible refine below_on ?_ _) | (with_reducible refine below_alloc ?_ _) | (with_reducible refine below_set ?_ (by simp; try omega) _))
  have b00 : ((w.alloc (.cells #[.int .u8 t, .int .i64 (X), .int .i64 (Y)] 23)).alloc (.cells #[.int .u8 k, .int .i64 c] 26)).cell? ⟨w.heap.size, 0, none⟩ = some (.int .u8 t) := by simp [go_sem]
  have b01 : ((w.alloc (.cells #[.int .u8 t, .int .i64 (X), .int .i64 (Y)] 23)).alloc (.cells #[.int .u8 k, .int .i64 c] 26)).cell? ⟨w.heap.size, 1, none⟩ = some (.int .i64 (X)) := by simp [go_sem]
  have b02 : ((w.alloc (.cells #[.int .u8 t, .int .i64 (X), .int .i64 (Y)] 23)).alloc (.cells #[.int .u8 k, .int .i64 c] 26)).cell? ⟨w.heap.size, 2, none⟩ = some (.int .i64 (Y)) := by simp [go_sem]
  have b10 : ((w.alloc (.cells #[.int .u8 t, .int .i64 (X), .int .i64 (Y)] 23)).alloc (.cells #[.int .u8 k, .int .i64 c] 26)).cell? ⟨w.heap.size + 1, 0, none⟩ = some (.int .u8 k) := by simp [go_sem]
  have b11 : ((w.alloc (.cells #[.int .u8 t, .int .i64 (X), .int .i64 (Y)] 23)).alloc (.cells #[.int .u8 k, .int .i64 c] 26)).cell? ⟨w.heap.size + 1, 1, none⟩ = some (.int .i64 c) := by simp [go_sem]
  generalize ((w.alloc (.cells #[.int .u8 t, .int .i64 (X), .int .i64 (Y)] 23)).alloc (.cells #[.int .u8 k, .int .i64 c] 26)) = W0 at *
  go_wp2_with (first | (go_at_call 5; with_reducible refine (LI _ (hS' _ (by repeat first | (with_reducible exact hB0) | (with_reducible refine below_on ?_ _) | (with_reducible refine below_alloc ?_ _) | (with_reducible refine below_set ?_ (by simp; try omega) _)))).mono ?_; rintro e wx ⟨rfl, hx⟩; obtain ⟨ux, rfl⟩ := after hx; clear hx) | fail)
  have hR : Below (W0).heap.size (W0) ((on ux).alloc (.cells #[.int .u8 g, .int .i64 C] 26)) := by repeat first | (with_reducible exact Below.refl _ _) | (with_reducible refine below_on ?_ _) | (with_reducible refine below_alloc ?_ _)
  have b00' : ((on ux).alloc (.cells #[.int .u8 g, .int .i64 C] 26)).cell? ⟨w.heap.size, 0, none⟩ = some (.int .u8 t) := (hR.cell (World.block_lt_of_cell? _ _ b00)).trans b00
  have b01' : ((on ux).alloc (.cells #[.int .u8 g, .int .i64 C] 26)).cell? ⟨w.heap.size, 1, none⟩ = some (.int .i64 (X)) := (hR.cell (World.block_lt_of_cell? _ _ b01)).trans b01
  have b02' : ((on ux).alloc (.cells #[.int .u8 g, .int .i64 C] 26)).cell? ⟨w.heap.size, 2, none⟩ = some (.int .i64 (Y)) := (hR.cell (World.block_lt_of_cell? _ _ b02)).trans b02
  have b10' : ((on ux).alloc (.cells #[.int .u8 g, .int .i64 C] 26)).cell? ⟨w.heap.size + 1, 0, none⟩ = some (.int .u8 k) := (hR.cell (World.block_lt_of_cell? _ _ b10)).trans b10
  have b11' : ((on ux).alloc (.cells #[.int .u8 g, .int .i64 C] 26)).cell? ⟨w.heap.size + 1, 1, none⟩ = some (.int .i64 c) := (hR.cell (World.block_lt_of_cell? _ _ b11)).trans b11
  have B100 : ((on ux).alloc (.cells #[.int .u8 g, .int .i64 C] 26)).cell? ⟨(on ux).heap.size, 0, none⟩ = some (.int .u8 g) := by simp [go_sem]
  have B101 : ((on ux).alloc (.cells #[.int .u8 g, .int .i64 C] 26)).cell? ⟨(on ux).heap.size, 1, none⟩ = some (.int .i64 C) := by simp [go_sem]
  have hB1 : Below w.heap.size w ((on ux).alloc (.cells #[.int .u8 g, .int .i64 C] 26)) := by repeat first | (with_reducible exact hB0) | (with_reducible refine below_on ?_ _) | (with_reducible refine below_alloc ?_ _)
  clear hR b00 b01 b02 b10 b11  hB0
  generalize ((on ux).alloc (.cells #[.int .u8 g, .int .i64 C] 26)) = W1 at *
  generalize (on ux).heap.size = B1 at *
  clear ux
  go_wp2_with (first | (go_at_call 6; with_reducible refine (mvalid_yes t X Y _ a1 a2 a3 a4 a5 a6 HA.out).mono ?_; rintro e wx ⟨rfl, hx⟩; obtain ⟨ux, rfl⟩ := after hx; clear hx) | (go_at_call 7; with_reducible refine (valid_yes k c _ h1 h2 h3 h4).mono ?_; rintro e wx ⟨rfl, hx⟩; obtain ⟨ux, rfl⟩ := after hx; clear hx) | fail)
  go_wp2_with (first | (go_at_call 9; with_reducible refine (RL _).mono ?_; rintro e wx ⟨rfl, hx⟩; obtain ⟨ux, rfl⟩ := after hx; clear hx) | fail)
  have hR : Below (W1).heap.size (W1) ((on ux).alloc (.cells #[.int .u8 g, .int .i64 C] 26)) := by repeat first | (with_reducible exact Below.refl _ _) | (with_reducible refine below_on ?_ _) | (with_reducible refine below_alloc ?_ _)
  have b00'' : ((on ux).alloc (.cells #[.int .u8 g, .int .i64 C] 26)).cell? ⟨w.heap.size, 0, none⟩ = some (.int .u8 t) := (hR.cell (World.block_lt_of_cell? _ _ b00')).trans b00'
  have b01'' : ((on ux).alloc (.cells #[.int .u8 g, .int .i64 C] 26)).cell? ⟨w.heap.size, 1, none⟩ = some (.int .i64 (X)) := (hR.cell (World.block_lt_of_cell? _ _ b01')).trans b01'
  have b02'' : ((on ux).alloc (.cells #[.int .u8 g, .int .i64 C] 26)).cell? ⟨w.heap.size, 2, none⟩ = some (.int .i64 (Y)) := (hR.cell (World.block_lt_of_cell? _ _ b02')).trans b02'
  have b10'' : ((on ux).alloc (.cells #[.int .u8 g, .int .i64 C] 26)).cell? ⟨w.heap.size + 1, 0, none⟩ = some (.int .u8 k) := (hR.cell (World.block_lt_of_cell? _ _ b10')).trans b10'
  have b11'' : ((on ux).alloc (.cells #[.int .u8 g, .int .i64 C] 26)).cell? ⟨w.heap.size + 1, 1, none⟩ = some (.int .i64 c) := (hR.cell (World.block_lt_of_cell? _ _ b11')).trans b11'
  have B100' : ((on ux).alloc (.cells #[.int .u8 g, .int .i64 C] 26)).cell? ⟨B1, 0, none⟩ = some (.int .u8 g) := (hR.cell (World.block_lt_of_cell? _ _ B100)).trans B100
  have B101' : ((on ux).alloc (.cells #[.int .u8 g, .int .i64 C] 26)).cell? ⟨B1, 1, none⟩ = some (.int .i64 C) := (hR.cell (World.block_lt_of_cell? _ _ B101)).trans B101
  have B200 : ((on ux).alloc (.cells #[.int .u8 g, .int .i64 C] 26)).cell? ⟨(on ux).heap.size, 0, none⟩ = some (.int .u8 g) := by simp [go_sem]
  have B201 : ((on ux).alloc (.cells #[.int .u8 g, .int .i64 C] 26)).cell? ⟨(on ux).heap.size, 1, none⟩ = some (.int .i64 C) := by simp [go_sem]
  have hB2 : Below w.heap.size w ((on ux).alloc (.cells #[.int .u8 g, .int .i64 C] 26)) := by repeat first | (with_reducible exact hB1) | (with_reducible refine below_on ?_ _) | (with_reducible refine below_alloc ?_ _)
  clear hR b00' b01' b02' b10' b11' B100 B101  hB1
  generalize ((on ux).alloc (.cells #[.int .u8 g, .int .i64 C] 26)) = W2 at *
  generalize (on ux).heap.size = B2 at *
  clear ux
  go_wp2_with (first | (go_at_call 7; with_reducible refine (valid_yes g C _ g1 g2 c1 c2).mono ?_; rintro e wx ⟨rfl, hx⟩; obtain ⟨ux, rfl⟩ := after hx; clear hx) | fail)
  refine region_free1 8 7 8 23 _ (by kernel_rfl) (by kernel_rfl) (by kernel_rfl) alloc51l ?_
  simp only [List.take_succ_cons, List.take_zero, List.drop_succ_cons, List.drop_zero]
  repeat (first
    | (refine wpLex_plain (by rfl) (by rfl) (by rfl) (fun K hK => ?_); go_big_quiet_op; refine hK _ ?_; clear hK K)
    | (refine wpLex_call (by rfl) (by rfl) (fun K hK => ?_); go_simp; apply Exists.intro; refine ⟨fun _ => ?_, hK _ ?_⟩; ((first | (go_at_call 11; with_reducible exact Calls.laterL (RI _)) | (go_at_call 12; with_reducible exact Calls.laterL (RO _)) | (go_at_call 10; with_reducible exact Calls.laterL (R1 _)) | (go_at_call 10; with_reducible exact Calls.laterL (R2 _)))); clear hK K)
    | (refine wpLex_new (by rfl) ?_; simp only [Act.put, List.setIfInBounds_toArray, List.set_cons_zero, List.set_cons_succ]))
  refine wpLex_nil ?_
  intro q u hb hk
  simp only [Act.put, List.setIfInBounds_toArray, List.set_cons_zero, List.set_cons_succ]
  have e0 : (on u).cell? ⟨q, 0, none⟩ = some (.int .u8 0) := held_cell hk 0
  have f0 : (on u).frozen? ⟨q, 0, none⟩ = false := held_free hk 0
  have e1 : (on u).cell? ⟨q, 1, none⟩ = some (.int .i64 0) := held_cell hk 1
  have f1 : (on u).frozen? ⟨q, 1, none⟩ = false := held_free hk 1
  have e2 : (on u).cell? ⟨q, 2, none⟩ = some (.int .i64 0) := held_cell hk 2
  have f2 : (on u).frozen? ⟨q, 2, none⟩ = false := held_free hk 2
  have hlt : B1 < q := Nat.lt_of_lt_of_le (World.block_lt_of_cell? _ _ (show (on ux).cell? ⟨B1, 0, none⟩ = some (.int .u8 g) by simp [go_sem, B100'])) hb
  have hn1 : q ≠ B1 := Nat.ne_of_gt hlt
  have w0 : ∀ v0 v1 v2, ((((on u).setCell ⟨q, 0, none⟩ v0).setCell ⟨q, 1, none⟩ v1).setCell ⟨q, 2, none⟩ v2).cell? ⟨B1, 0, none⟩ = some (.int .u8 g) := fun v0 v1 v2 => by
    rw [World.cell?_setCell_far _ _ _ _ hn1, World.cell?_setCell_far _ _ _ _ hn1, World.cell?_setCell_far _ _ _ _ hn1]; simp [go_sem, B100']
  have w1 : ∀ v0 v1 v2, ((((on u).setCell ⟨q, 0, none⟩ v0).setCell ⟨q, 1, none⟩ v1).setCell ⟨q, 2, none⟩ v2).cell? ⟨B1, 1, none⟩ = some (.int .i64 C) := fun v0 v1 v2 => by
    rw [World.cell?_setCell_far _ _ _ _ hn1, World.cell?_setCell_far _ _ _ _ hn1, World.cell?_setCell_far _ _ _ _ hn1]; simp [go_sem, B101']
  go_wp2_with fail
  obtain ⟨v, hv, m0⟩ := stored3l hb hk (.int .u8 n0) (.int .i64 n1) (.int .i64 n2)
  rw [hv]
  have b00''v : (on v).cell? ⟨w.heap.size, 0, none⟩ = some (.int .u8 t) := by simp [go_sem, b00'']
  have b01''v : (on v).cell? ⟨w.heap.size, 1, none⟩ = some (.int .i64 (X)) := by simp [go_sem, b01'']
  have b02''v : (on v).cell? ⟨w.heap.size, 2, none⟩ = some (.int .i64 (Y)) := by simp [go_sem, b02'']
  have b10''v : (on v).cell? ⟨w.heap.size + 1, 0, none⟩ = some (.int .u8 k) := by simp [go_sem, b10'']
  have b11''v : (on v).cell? ⟨w.heap.size + 1, 1, none⟩ = some (.int .i64 c) := by simp [go_sem, b11'']
  have B100'v : (on v).cell? ⟨B1, 0, none⟩ = some (.int .u8 g) := by simp [go_sem, B100']
  have B101'v : (on v).cell? ⟨B1, 1, none⟩ = some (.int .i64 C) := by simp [go_sem, B101']
  have B200v : (on v).cell? ⟨B2, 0, none⟩ = some (.int .u8 g) := by simp [go_sem, B200]
  have B201v : (on v).cell? ⟨B2, 1, none⟩ = some (.int .i64 C) := by simp [go_sem, B201]
  have m1 : (on v).cell? ⟨q, 0, none⟩ = some (.int .u8 n0) := held_cell m0 0
  have m2 : (on v).cell? ⟨q, 1, none⟩ = some (.int .i64 n1) := held_cell m0 1
  have m3 : (on v).cell? ⟨q, 2, none⟩ = some (.int .i64 n2) := held_cell m0 2
  have hBv : Below w.heap.size w (on v) := (by repeat first | (with_reducible exact hB2) | (with_reducible refine below_on ?_ _) | (with_reducible refine below_alloc ?_ _) | (with_reducible refine below_set ?_ (by simp; try omega) _))
  clear hv m0 hb hk e0 e1 e2 f0 f1 f2 hlt hn1 w0 w1 b00'' b01'' b02'' b10'' b11'' B100' B101' B200 B201 hB2
  generalize on v = Wv at *
  clear v u ux
  go_wp2_with (first | (go_at_call 13; with_reducible refine (MO _).mono ?_; rintro e wx ⟨rfl, hx⟩; obtain ⟨ux, rfl⟩ := after hx; clear hx) | fail)
  have hR : Below (Wv).heap.size (Wv) ((on ux).alloc (.cells #[.int .u8 n0, .int .i64 (n1), .int .i64 (n2)] 23)) := by repeat first | (with_reducible exact Below.refl _ _) | (with_reducible refine below_on ?_ _) | (with_reducible refine below_alloc ?_ _)
  have b00''v' : ((on ux).alloc (.cells #[.int .u8 n0, .int .i64 (n1), .int .i64 (n2)] 23)).cell? ⟨w.heap.size, 0, none⟩ = some (.int .u8 t) := (hR.cell (World.block_lt_of_cell? _ _ b00''v)).trans b00''v
  have b01''v' : ((on ux).alloc (.cells #[.int .u8 n0, .int .i64 (n1), .int .i64 (n2)] 23)).cell? ⟨w.heap.size, 1, none⟩ = some (.int .i64 (X)) := (hR.cell (World.block_lt_of_cell? _ _ b01''v)).trans b01''v
  have b02''v' : ((on ux).alloc (.cells #[.int .u8 n0, .int .i64 (n1), .int .i64 (n2)] 23)).cell? ⟨w.heap.size, 2, none⟩ = some (.int .i64 (Y)) := (hR.cell (World.block_lt_of_cell? _ _ b02''v)).trans b02''v
  have b10''v' : ((on ux).alloc (.cells #[.int .u8 n0, .int .i64 (n1), .int .i64 (n2)] 23)).cell? ⟨w.heap.size + 1, 0, none⟩ = some (.int .u8 k) := (hR.cell (World.block_lt_of_cell? _ _ b10''v)).trans b10''v
  have b11''v' : ((on ux).alloc (.cells #[.int .u8 n0, .int .i64 (n1), .int .i64 (n2)] 23)).cell? ⟨w.heap.size + 1, 1, none⟩ = some (.int .i64 c) := (hR.cell (World.block_lt_of_cell? _ _ b11''v)).trans b11''v
  have B100'v' : ((on ux).alloc (.cells #[.int .u8 n0, .int .i64 (n1), .int .i64 (n2)] 23)).cell? ⟨B1, 0, none⟩ = some (.int .u8 g) := (hR.cell (World.block_lt_of_cell? _ _ B100'v)).trans B100'v
  have B101'v' : ((on ux).alloc (.cells #[.int .u8 n0, .int .i64 (n1), .int .i64 (n2)] 23)).cell? ⟨B1, 1, none⟩ = some (.int .i64 C) := (hR.cell (World.block_lt_of_cell? _ _ B101'v)).trans B101'v
  have B200v' : ((on ux).alloc (.cells #[.int .u8 n0, .int .i64 (n1), .int .i64 (n2)] 23)).cell? ⟨B2, 0, none⟩ = some (.int .u8 g) := (hR.cell (World.block_lt_of_cell? _ _ B200v)).trans B200v
  have B201v' : ((on ux).alloc (.cells #[.int .u8 n0, .int .i64 (n1), .int .i64 (n2)] 23)).cell? ⟨B2, 1, none⟩ = some (.int .i64 C) := (hR.cell (World.block_lt_of_cell? _ _ B201v)).trans B201v
  have m1' : ((on ux).alloc (.cells #[.int .u8 n0, .int .i64 (n1), .int .i64 (n2)] 23)).cell? ⟨q, 0, none⟩ = some (.int .u8 n0) := (hR.cell (World.block_lt_of_cell? _ _ m1)).trans m1
  have m2' : ((on ux).alloc (.cells #[.int .u8 n0, .int .i64 (n1), .int .i64 (n2)] 23)).cell? ⟨q, 1, none⟩ = some (.int .i64 n1) := (hR.cell (World.block_lt_of_cell? _ _ m2)).trans m2
  have m3' : ((on ux).alloc (.cells #[.int .u8 n0, .int .i64 (n1), .int .i64 (n2)] 23)).cell? ⟨q, 2, none⟩ = some (.int .i64 n2) := (hR.cell (World.block_lt_of_cell? _ _ m3)).trans m3
  have B300 : ((on ux).alloc (.cells #[.int .u8 n0, .int .i64 (n1), .int .i64 (n2)] 23)).cell? ⟨(on ux).heap.size, 0, none⟩ = some (.int .u8 n0) := by simp [go_sem]
  have B301 : ((on ux).alloc (.cells #[.int .u8 n0, .int .i64 (n1), .int .i64 (n2)] 23)).cell? ⟨(on ux).heap.size, 1, none⟩ = some (.int .i64 (n1)) := by simp [go_sem]
  have B302 : ((on ux).alloc (.cells #[.int .u8 n0, .int .i64 (n1), .int .i64 (n2)] 23)).cell? ⟨(on ux).heap.size, 2, none⟩ = some (.int .i64 (n2)) := by simp [go_sem]
  have hB3 : Below w.heap.size w ((on ux).alloc (.cells #[.int .u8 n0, .int .i64 (n1), .int .i64 (n2)] 23)) := by repeat first | (with_reducible exact hBv) | (with_reducible refine below_on ?_ _) | (with_reducible refine below_alloc ?_ _)
  clear hR b00''v b01''v b02''v b10''v b11''v B100'v B101'v B200v B201v m1 m2 m3  hBv
  generalize ((on ux).alloc (.cells #[.int .u8 n0, .int .i64 (n1), .int .i64 (n2)] 23)) = W3 at *
  generalize (on ux).heap.size = B3 at *
  clear ux
  go_wp2_with (first | (go_at_call 8; with_reducible refine (lives2_ok _ (hS' _ (by repeat first | (with_reducible exact hB3) | (with_reducible refine below_on ?_ _) | (with_reducible refine below_alloc ?_ _) | (with_reducible refine below_set ?_ (by simp; try omega) _)))).mono ?_; rintro e wx ⟨rfl, hx⟩; obtain ⟨ux, rfl⟩ := after hx; clear hx) | fail)
  go_ret
  exact ⟨rfl, (by repeat first | (with_reducible exact hB3) | (with_reducible refine below_on ?_ _) | (with_reducible refine below_alloc ?_ _) | (with_reducible refine below_set ?_ (by simp; try omega) _))⟩

end Go.Proofs.YtbcmfenekpllhaaGreatDoor
