/-
  Says: what a turns motion does with a point.
-/
import Derived.Test.YtppjogagimflpaaGreatDoorMv0
import Derived.Test.YtppjogagimflpaaGreatDoorFnB
set_option linter.unusedVariables false
set_option linter.unusedSimpArgs false
namespace Go.Proofs.YtppjogagimflpaaGreatDoor
open Go Go.RowKit

abbrev mv (t X Y : Int) : Value := .agg #[.int .u8 t, .int .i64 X, .int .i64 Y]
/-- The factors of the eight turns, as the package's table has them. -/
def turnsL : List Int := [1, 0, 0, 1, 0, -1, 1, 0, -1, 0, 0, -1, 0, 1, -1, 0, -1, 0, 0, 1, 0, -1, -1, 0, 1, 0, 0, -1, 0, 1, 1, 0]
/-- The package's table of turns is as its initialiser laid it. -/
def Turns (w : World) : Prop := ∀ i < 32, w.cell? ⟨0, i, none⟩ = some (.int .i64 (turnsL.getD i 0))
theorem turns_below {w w' : World} (h : Turns w) (hb : Below w.heap.size w w') : Turns w' := fun i hi =>
  (hb.cell (World.block_lt_of_cell? _ _ (h i hi))).trans (h i hi)
theorem turns_cell {w : World} (h : Turns w) (i : Nat) (hi : i < 32) : w.cell? ⟨0, i, none⟩ = some (.int .i64 (turnsL.getD i 0)) := h i hi

theorem al1 {w : World} {a : Addr} {v : Value} (h : w.cell? a = some v) (o : Obj) : (w.alloc o).cell? a = some v := by
  rw [World.cell?_alloc_old _ _ _ (Nat.ne_of_lt (World.block_lt_of_cell? _ _ h))]; exact h
theorem al3 {w : World} {a : Addr} {v : Value} (h : w.cell? a = some v) : ∀ o1 o2 o3, (((w.alloc o1).alloc o2).alloc o3).cell? a = some v := fun _ _ _ => al1 (al1 (al1 h _) _) _

set_option maxRecDepth 100000 in
set_option maxHeartbeats 800000 in
theorem take_0 (X Y x y : Int) (w : World) (hU : Turns w) (x1 : -1000000 ≤ x) (x2 : x ≤ 1000000) (y1 : -1000000 ≤ y) (y2 : y ≤ 1000000) (b1 : -1000000 ≤ X) (b2 : X ≤ 1000000) (b3 : -1000000 ≤ Y) (b4 : Y ≤ 1000000) :
    Calls Tryz.prog 42 #[mv 0 X Y, pt x y] w fun e w' => e = .returned (pt (mvx 0 x y + X) (mvy 0 x y + Y)) ∧ Below w.heap.size w w' := by
  have h0 : ∀ o1 o2 o3, (((w.alloc o1).alloc o2).alloc o3).cell? ⟨0, 0, none⟩ = some (.int .i64 (1)) := al3 (turns_cell hU 0 (by decide))
  have h1 : ∀ o1 o2 o3, (((w.alloc o1).alloc o2).alloc o3).cell? ⟨0, 1, none⟩ = some (.int .i64 (0)) := al3 (turns_cell hU 1 (by decide))
  have h2 : ∀ o1 o2 o3, (((w.alloc o1).alloc o2).alloc o3).cell? ⟨0, 2, none⟩ = some (.int .i64 (0)) := al3 (turns_cell hU 2 (by decide))
  have h3 : ∀ o1 o2 o3, (((w.alloc o1).alloc o2).alloc o3).cell? ⟨0, 3, none⟩ = some (.int .i64 (1)) := al3 (turns_cell hU 3 (by decide))
  rw [mvx0, mvy0]
  go_enter Tryz.func42, Tryz.ntmps42
  go_wp2
  exact bodyPost_ret (v := pt (x + X) (y + Y)) (by simp [results, Tryz.results42, go_sem] <;> omega) rfl ⟨rfl, (by repeat first | (with_reducible exact Below.refl _ _) | (with_reducible refine below_on ?_ _) | (with_reducible refine below_alloc ?_ _) | (with_reducible refine below_set ?_ (by simp; try omega) _))⟩

set_option maxRecDepth 100000 in
set_option maxHeartbeats 800000 in
theorem take_1 (X Y x y : Int) (w : World) (hU : Turns w) (x1 : -1000000 ≤ x) (x2 : x ≤ 1000000) (y1 : -1000000 ≤ y) (y2 : y ≤ 1000000) (b1 : -1000000 ≤ X) (b2 : X ≤ 1000000) (b3 : -1000000 ≤ Y) (b4 : Y ≤ 1000000) :
    Calls Tryz.prog 42 #[mv 1 X Y, pt x y] w fun e w' => e = .returned (pt (mvx 1 x y + X) (mvy 1 x y + Y)) ∧ Below w.heap.size w w' := by
  have h0 : ∀ o1 o2 o3, (((w.alloc o1).alloc o2).alloc o3).cell? ⟨0, 4, none⟩ = some (.int .i64 (0)) := al3 (turns_cell hU 4 (by decide))
  have h1 : ∀ o1 o2 o3, (((w.alloc o1).alloc o2).alloc o3).cell? ⟨0, 5, none⟩ = some (.int .i64 (-1)) := al3 (turns_cell hU 5 (by decide))
  have h2 : ∀ o1 o2 o3, (((w.alloc o1).alloc o2).alloc o3).cell? ⟨0, 6, none⟩ = some (.int .i64 (1)) := al3 (turns_cell hU 6 (by decide))
  have h3 : ∀ o1 o2 o3, (((w.alloc o1).alloc o2).alloc o3).cell? ⟨0, 7, none⟩ = some (.int .i64 (0)) := al3 (turns_cell hU 7 (by decide))
  rw [mvx1, mvy1]
  go_enter Tryz.func42, Tryz.ntmps42
  go_wp2
  exact bodyPost_ret (v := pt (-y + X) (x + Y)) (by simp [results, Tryz.results42, go_sem] <;> omega) rfl ⟨rfl, (by repeat first | (with_reducible exact Below.refl _ _) | (with_reducible refine below_on ?_ _) | (with_reducible refine below_alloc ?_ _) | (with_reducible refine below_set ?_ (by simp; try omega) _))⟩

set_option maxRecDepth 100000 in
set_option maxHeartbeats 800000 in
theorem take_2 (X Y x y : Int) (w : World) (hU : Turns w) (x1 : -1000000 ≤ x) (x2 : x ≤ 1000000) (y1 : -1000000 ≤ y) (y2 : y ≤ 1000000) (b1 : -1000000 ≤ X) (b2 : X ≤ 1000000) (b3 : -1000000 ≤ Y) (b4 : Y ≤ 1000000) :
    Calls Tryz.prog 42 #[mv 2 X Y, pt x y] w fun e w' => e = .returned (pt (mvx 2 x y + X) (mvy 2 x y + Y)) ∧ Below w.heap.size w w' := by
  have h0 : ∀ o1 o2 o3, (((w.alloc o1).alloc o2).alloc o3).cell? ⟨0, 8, none⟩ = some (.int .i64 (-1)) := al3 (turns_cell hU 8 (by decide))
  have h1 : ∀ o1 o2 o3, (((w.alloc o1).alloc o2).alloc o3).cell? ⟨0, 9, none⟩ = some (.int .i64 (0)) := al3 (turns_cell hU 9 (by decide))
  have h2 : ∀ o1 o2 o3, (((w.alloc o1).alloc o2).alloc o3).cell? ⟨0, 10, none⟩ = some (.int .i64 (0)) := al3 (turns_cell hU 10 (by decide))
  have h3 : ∀ o1 o2 o3, (((w.alloc o1).alloc o2).alloc o3).cell? ⟨0, 11, none⟩ = some (.int .i64 (-1)) := al3 (turns_cell hU 11 (by decide))
  rw [mvx2, mvy2]
  go_enter Tryz.func42, Tryz.ntmps42
  go_wp2
  exact bodyPost_ret (v := pt (-x + X) (-y + Y)) (by simp [results, Tryz.results42, go_sem] <;> omega) rfl ⟨rfl, (by repeat first | (with_reducible exact Below.refl _ _) | (with_reducible refine below_on ?_ _) | (with_reducible refine below_alloc ?_ _) | (with_reducible refine below_set ?_ (by simp; try omega) _))⟩

set_option maxRecDepth 100000 in
set_option maxHeartbeats 800000 in
theorem take_3 (X Y x y : Int) (w : World) (hU : Turns w) (x1 : -1000000 ≤ x) (x2 : x ≤ 1000000) (y1 : -1000000 ≤ y) (y2 : y ≤ 1000000) (b1 : -1000000 ≤ X) (b2 : X ≤ 1000000) (b3 : -1000000 ≤ Y) (b4 : Y ≤ 1000000) :
    Calls Tryz.prog 42 #[mv 3 X Y, pt x y] w fun e w' => e = .returned (pt (mvx 3 x y + X) (mvy 3 x y + Y)) ∧ Below w.heap.size w w' := by
  have h0 : ∀ o1 o2 o3, (((w.alloc o1).alloc o2).alloc o3).cell? ⟨0, 12, none⟩ = some (.int .i64 (0)) := al3 (turns_cell hU 12 (by decide))
  have h1 : ∀ o1 o2 o3, (((w.alloc o1).alloc o2).alloc o3).cell? ⟨0, 13, none⟩ = some (.int .i64 (1)) := al3 (turns_cell hU 13 (by decide))
  have h2 : ∀ o1 o2 o3, (((w.alloc o1).alloc o2).alloc o3).cell? ⟨0, 14, none⟩ = some (.int .i64 (-1)) := al3 (turns_cell hU 14 (by decide))
  have h3 : ∀ o1 o2 o3, (((w.alloc o1).alloc o2).alloc o3).cell? ⟨0, 15, none⟩ = some (.int .i64 (0)) := al3 (turns_cell hU 15 (by decide))
  rw [mvx3, mvy3]
  go_enter Tryz.func42, Tryz.ntmps42
  go_wp2
  exact bodyPost_ret (v := pt (y + X) (-x + Y)) (by simp [results, Tryz.results42, go_sem] <;> omega) rfl ⟨rfl, (by repeat first | (with_reducible exact Below.refl _ _) | (with_reducible refine below_on ?_ _) | (with_reducible refine below_alloc ?_ _) | (with_reducible refine below_set ?_ (by simp; try omega) _))⟩

set_option maxRecDepth 100000 in
set_option maxHeartbeats 800000 in
theorem take_4 (X Y x y : Int) (w : World) (hU : Turns w) (x1 : -1000000 ≤ x) (x2 : x ≤ 1000000) (y1 : -1000000 ≤ y) (y2 : y ≤ 1000000) (b1 : -1000000 ≤ X) (b2 : X ≤ 1000000) (b3 : -1000000 ≤ Y) (b4 : Y ≤ 1000000) :
    Calls Tryz.prog 42 #[mv 4 X Y, pt x y] w fun e w' => e = .returned (pt (mvx 4 x y + X) (mvy 4 x y + Y)) ∧ Below w.heap.size w w' := by
  have h0 : ∀ o1 o2 o3, (((w.alloc o1).alloc o2).alloc o3).cell? ⟨0, 16, none⟩ = some (.int .i64 (-1)) := al3 (turns_cell hU 16 (by decide))
  have h1 : ∀ o1 o2 o3, (((w.alloc o1).alloc o2).alloc o3).cell? ⟨0, 17, none⟩ = some (.int .i64 (0)) := al3 (turns_cell hU 17 (by decide))
  have h2 : ∀ o1 o2 o3, (((w.alloc o1).alloc o2).alloc o3).cell? ⟨0, 18, none⟩ = some (.int .i64 (0)) := al3 (turns_cell hU 18 (by decide))
  have h3 : ∀ o1 o2 o3, (((w.alloc o1).alloc o2).alloc o3).cell? ⟨0, 19, none⟩ = some (.int .i64 (1)) := al3 (turns_cell hU 19 (by decide))
  rw [mvx4, mvy4]
  go_enter Tryz.func42, Tryz.ntmps42
  go_wp2
  exact bodyPost_ret (v := pt (-x + X) (y + Y)) (by simp [results, Tryz.results42, go_sem] <;> omega) rfl ⟨rfl, (by repeat first | (with_reducible exact Below.refl _ _) | (with_reducible refine below_on ?_ _) | (with_reducible refine below_alloc ?_ _) | (with_reducible refine below_set ?_ (by simp; try omega) _))⟩

set_option maxRecDepth 100000 in
set_option maxHeartbeats 800000 in
theorem take_5 (X Y x y : Int) (w : World) (hU : Turns w) (x1 : -1000000 ≤ x) (x2 : x ≤ 1000000) (y1 : -1000000 ≤ y) (y2 : y ≤ 1000000) (b1 : -1000000 ≤ X) (b2 : X ≤ 1000000) (b3 : -1000000 ≤ Y) (b4 : Y ≤ 1000000) :
    Calls Tryz.prog 42 #[mv 5 X Y, pt x y] w fun e w' => e = .returned (pt (mvx 5 x y + X) (mvy 5 x y + Y)) ∧ Below w.heap.size w w' := by
  have h0 : ∀ o1 o2 o3, (((w.alloc o1).alloc o2).alloc o3).cell? ⟨0, 20, none⟩ = some (.int .i64 (0)) := al3 (turns_cell hU 20 (by decide))
  have h1 : ∀ o1 o2 o3, (((w.alloc o1).alloc o2).alloc o3).cell? ⟨0, 21, none⟩ = some (.int .i64 (-1)) := al3 (turns_cell hU 21 (by decide))
  have h2 : ∀ o1 o2 o3, (((w.alloc o1).alloc o2).alloc o3).cell? ⟨0, 22, none⟩ = some (.int .i64 (-1)) := al3 (turns_cell hU 22 (by decide))
  have h3 : ∀ o1 o2 o3, (((w.alloc o1).alloc o2).alloc o3).cell? ⟨0, 23, none⟩ = some (.int .i64 (0)) := al3 (turns_cell hU 23 (by decide))
  rw [mvx5, mvy5]
  go_enter Tryz.func42, Tryz.ntmps42
  go_wp2
  exact bodyPost_ret (v := pt (-y + X) (-x + Y)) (by simp [results, Tryz.results42, go_sem] <;> omega) rfl ⟨rfl, (by repeat first | (with_reducible exact Below.refl _ _) | (with_reducible refine below_on ?_ _) | (with_reducible refine below_alloc ?_ _) | (with_reducible refine below_set ?_ (by simp; try omega) _))⟩

set_option maxRecDepth 100000 in
set_option maxHeartbeats 800000 in
theorem take_6 (X Y x y : Int) (w : World) (hU : Turns w) (x1 : -1000000 ≤ x) (x2 : x ≤ 1000000) (y1 : -1000000 ≤ y) (y2 : y ≤ 1000000) (b1 : -1000000 ≤ X) (b2 : X ≤ 1000000) (b3 : -1000000 ≤ Y) (b4 : Y ≤ 1000000) :
    Calls Tryz.prog 42 #[mv 6 X Y, pt x y] w fun e w' => e = .returned (pt (mvx 6 x y + X) (mvy 6 x y + Y)) ∧ Below w.heap.size w w' := by
  have h0 : ∀ o1 o2 o3, (((w.alloc o1).alloc o2).alloc o3).cell? ⟨0, 24, none⟩ = some (.int .i64 (1)) := al3 (turns_cell hU 24 (by decide))
  have h1 : ∀ o1 o2 o3, (((w.alloc o1).alloc o2).alloc o3).cell? ⟨0, 25, none⟩ = some (.int .i64 (0)) := al3 (turns_cell hU 25 (by decide))
  have h2 : ∀ o1 o2 o3, (((w.alloc o1).alloc o2).alloc o3).cell? ⟨0, 26, none⟩ = some (.int .i64 (0)) := al3 (turns_cell hU 26 (by decide))
  have h3 : ∀ o1 o2 o3, (((w.alloc o1).alloc o2).alloc o3).cell? ⟨0, 27, none⟩ = some (.int .i64 (-1)) := al3 (turns_cell hU 27 (by decide))
  rw [mvx6, mvy6]
  go_enter Tryz.func42, Tryz.ntmps42
  go_wp2
  exact bodyPost_ret (v := pt (x + X) (-y + Y)) (by simp [results, Tryz.results42, go_sem] <;> omega) rfl ⟨rfl, (by repeat first | (with_reducible exact Below.refl _ _) | (with_reducible refine below_on ?_ _) | (with_reducible refine below_alloc ?_ _) | (with_reducible refine below_set ?_ (by simp; try omega) _))⟩

set_option maxRecDepth 100000 in
set_option maxHeartbeats 800000 in
theorem take_7 (X Y x y : Int) (w : World) (hU : Turns w) (x1 : -1000000 ≤ x) (x2 : x ≤ 1000000) (y1 : -1000000 ≤ y) (y2 : y ≤ 1000000) (b1 : -1000000 ≤ X) (b2 : X ≤ 1000000) (b3 : -1000000 ≤ Y) (b4 : Y ≤ 1000000) :
    Calls Tryz.prog 42 #[mv 7 X Y, pt x y] w fun e w' => e = .returned (pt (mvx 7 x y + X) (mvy 7 x y + Y)) ∧ Below w.heap.size w w' := by
  have h0 : ∀ o1 o2 o3, (((w.alloc o1).alloc o2).alloc o3).cell? ⟨0, 28, none⟩ = some (.int .i64 (0)) := al3 (turns_cell hU 28 (by decide))
  have h1 : ∀ o1 o2 o3, (((w.alloc o1).alloc o2).alloc o3).cell? ⟨0, 29, none⟩ = some (.int .i64 (1)) := al3 (turns_cell hU 29 (by decide))
  have h2 : ∀ o1 o2 o3, (((w.alloc o1).alloc o2).alloc o3).cell? ⟨0, 30, none⟩ = some (.int .i64 (1)) := al3 (turns_cell hU 30 (by decide))
  have h3 : ∀ o1 o2 o3, (((w.alloc o1).alloc o2).alloc o3).cell? ⟨0, 31, none⟩ = some (.int .i64 (0)) := al3 (turns_cell hU 31 (by decide))
  rw [mvx7, mvy7]
  go_enter Tryz.func42, Tryz.ntmps42
  go_wp2
  exact bodyPost_ret (v := pt (y + X) (x + Y)) (by simp [results, Tryz.results42, go_sem] <;> omega) rfl ⟨rfl, (by repeat first | (with_reducible exact Below.refl _ _) | (with_reducible refine below_on ?_ _) | (with_reducible refine below_alloc ?_ _) | (with_reducible refine below_set ?_ (by simp; try omega) _))⟩

end Go.Proofs.YtppjogagimflpaaGreatDoor
