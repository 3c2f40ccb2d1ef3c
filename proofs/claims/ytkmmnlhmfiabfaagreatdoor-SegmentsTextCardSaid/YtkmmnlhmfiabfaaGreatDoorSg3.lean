/-
  Says: what read of package segments makes of the pieces of a text.
-/
import Derived.Test.YtkmmnlhmfiabfaaGreatDoorSg1
import Derived.Test.YtkmmnlhmfiabfaaGreatDoorFnP
import Derived.BigRegion
import Derived.Deep.CutRange
import Derived.RowKit3
set_option linter.unusedVariables false
set_option linter.unusedSimpArgs false
namespace Go.Proofs.YtkmmnlhmfiabfaaGreatDoor
open Go Go.RowKit

attribute [local go_sem] World.cell?_alloc_some frozen?_alloc_cells fz0 fz1 fz2 fz3 fz4 fz5

theorem cells_some (w : World) (ps : List ByteArray) (N : Nat) (T : TypeId) (i : Nat) (p : ByteArray) (h : ps[i]? = some p) : (w.alloc (.cells (Lib.cellsOf ps N) T)).cell? ⟨w.heap.size, i, none⟩ = some (.string p) := by
  have e : (w.alloc (.cells (Lib.cellsOf ps N) T)).heap[w.heap.size]? = some (.cells (Lib.cellsOf ps N) T) := heap_alloc_new _ _
  rw [held_cell e]
  obtain ⟨hl, hh⟩ := List.getElem?_eq_some_iff.1 h
  unfold Lib.cellsOf
  simp [List.getElem?_append, hl, List.getElem?_map, hh]
theorem le_drew {W : World} (u : Later W.drew) : W.heap.size ≤ (on u).heap.size := u.b.size
theorem allocL : ∀ w, (Instr.alloc 27 true (.tuple #[])).run Tryz.prog w = .ok (.pointer (some ⟨w.heap.size, 0, none⟩)) (w.alloc (.cells #[.int .u8 0, .int .i64 0] 27)) := fun _ => by kernel_rfl

set_option maxRecDepth 100000 in
set_option maxHeartbeats 4000000 in
theorem read_1 (s p0 : ByteArray) (w : World) (hS : Std w) (hl : s.size < 4294967281) (hp : Lib.splitB ⟨#[32]⟩ 0 (min 5 (s.size + 1) - 1) s = [p0]) :
    Calls Tryz.prog 55 #[.string s] w fun e w' => e = .returned (sg 0 0 0 0 0) ∧ Below w.heap.size w w' := by
  have hS' : ∀ W, Below w.heap.size w W → Std W := fun W h => std_below hS h
  have SP : ∀ W, Std W → Calls Tryz.prog 77 #[.string s, .string ⟨#[32]⟩, .int .i64 5] W fun e w' => e = .returned (.slice (some ⟨W.heap.size, 0, none⟩) 1 (min 5 (s.size + 1))) ∧ w' = W.alloc (.cells (Lib.cellsOf [p0] (min 5 (s.size + 1))) 9) := fun W h => by
    obtain ⟨m, hm⟩ := h.ml
    have := Tryz.strings_SplitN s ⟨#[32]⟩ 5 m W hl hm (by decide) (by decide) (by decide)
    rw [hp] at this
    exact this
  have hN : ∃ N, N = min 5 (s.size + 1) := ⟨_, rfl⟩
  obtain ⟨N, hN⟩ := hN
  rw [← hN] at SP
  have hN1 : 1 ≤ N := by omega
  clear hN hp hl
  go_enter Tryz.func55, Tryz.ntmps55
  go_wp2_with (first | (go_at_call 77; with_reducible refine (SP _ (hS' _ (by repeat first | (with_reducible exact Below.refl _ _) | (with_reducible refine below_on ?_ _) | (with_reducible refine below_alloc ?_ _) | (with_reducible refine below_set ?_ (by simp; try omega) _)))).mono ?_; rintro e wx ⟨rfl, rfl⟩) | fail)
  exact bodyPost_ret (v := sg 0 0 0 0 0) (by simp [results, Tryz.results55, go_sem]) rfl ⟨rfl, (by repeat first | (with_reducible exact Below.refl _ _) | (with_reducible refine below_on ?_ _) | (with_reducible refine below_alloc ?_ _) | (with_reducible refine below_set ?_ (by simp; try omega) _))⟩

set_option maxRecDepth 100000 in
set_option maxHeartbeats 4000000 in
theorem read_2 (s p0 p1 : ByteArray) (w : World) (hS : Std w) (hl : s.size < 4294967281) (hp : Lib.splitB ⟨#[32]⟩ 0 (min 5 (s.size + 1) - 1) s = [p0, p1]) :
    Calls Tryz.prog 55 #[.string s] w fun e w' => e = .returned (sg 0 0 0 0 0) ∧ Below w.heap.size w w' := by
  have hS' : ∀ W, Below w.heap.size w W → Std W := fun W h => std_below hS h
  have SP : ∀ W, Std W → Calls Tryz.prog 77 #[.string s, .string ⟨#[32]⟩, .int .i64 5] W fun e w' => e = .returned (.slice (some ⟨W.heap.size, 0, none⟩) 2 (min 5 (s.size + 1))) ∧ w' = W.alloc (.cells (Lib.cellsOf [p0, p1] (min 5 (s.size + 1))) 9) := fun W h => by
    obtain ⟨m, hm⟩ := h.ml
    have := Tryz.strings_SplitN s ⟨#[32]⟩ 5 m W hl hm (by decide) (by decide) (by decide)
    rw [hp] at this
    exact this
  have hN : ∃ N, N = min 5 (s.size + 1) := ⟨_, rfl⟩
  obtain ⟨N, hN⟩ := hN
  rw [← hN] at SP
  have hN1 : 1 ≤ N := by omega
  clear hN hp hl
  go_enter Tryz.func55, Tryz.ntmps55
  go_wp2_with (first | (go_at_call 77; with_reducible refine (SP _ (hS' _ (by repeat first | (with_reducible exact Below.refl _ _) | (with_reducible refine below_on ?_ _) | (with_reducible refine below_alloc ?_ _) | (with_reducible refine below_set ?_ (by simp; try omega) _)))).mono ?_; rintro e wx ⟨rfl, rfl⟩) | fail)
  exact bodyPost_ret (v := sg 0 0 0 0 0) (by simp [results, Tryz.results55, go_sem]) rfl ⟨rfl, (by repeat first | (with_reducible exact Below.refl _ _) | (with_reducible refine below_on ?_ _) | (with_reducible refine below_alloc ?_ _) | (with_reducible refine below_set ?_ (by simp; try omega) _))⟩

set_option maxRecDepth 100000 in
set_option maxHeartbeats 4000000 in
theorem read_3 (s p0 p1 p2 : ByteArray) (w : World) (hS : Std w) (hl : s.size < 4294967281) (hp : Lib.splitB ⟨#[32]⟩ 0 (min 5 (s.size + 1) - 1) s = [p0, p1, p2]) :
    Calls Tryz.prog 55 #[.string s] w fun e w' => e = .returned (sg 0 0 0 0 0) ∧ Below w.heap.size w w' := by
  have hS' : ∀ W, Below w.heap.size w W → Std W := fun W h => std_below hS h
  have SP : ∀ W, Std W → Calls Tryz.prog 77 #[.string s, .string ⟨#[32]⟩, .int .i64 5] W fun e w' => e = .returned (.slice (some ⟨W.heap.size, 0, none⟩) 3 (min 5 (s.size + 1))) ∧ w' = W.alloc (.cells (Lib.cellsOf [p0, p1, p2] (min 5 (s.size + 1))) 9) := fun W h => by
    obtain ⟨m, hm⟩ := h.ml
    have := Tryz.strings_SplitN s ⟨#[32]⟩ 5 m W hl hm (by decide) (by decide) (by decide)
    rw [hp] at this
    exact this
  have hN : ∃ N, N = min 5 (s.size + 1) := ⟨_, rfl⟩
  obtain ⟨N, hN⟩ := hN
  rw [← hN] at SP
  have hN1 : 1 ≤ N := by omega
  clear hN hp hl
  go_enter Tryz.func55, Tryz.ntmps55
  go_wp2_with (first | (go_at_call 77; with_reducible refine (SP _ (hS' _ (by repeat first | (with_reducible exact Below.refl _ _) | (with_reducible refine below_on ?_ _) | (with_reducible refine below_alloc ?_ _) | (with_reducible refine below_set ?_ (by simp; try omega) _)))).mono ?_; rintro e wx ⟨rfl, rfl⟩) | fail)
  exact bodyPost_ret (v := sg 0 0 0 0 0) (by simp [results, Tryz.results55, go_sem]) rfl ⟨rfl, (by repeat first | (with_reducible exact Below.refl _ _) | (with_reducible refine below_on ?_ _) | (with_reducible refine below_alloc ?_ _) | (with_reducible refine below_set ?_ (by simp; try omega) _))⟩

set_option maxRecDepth 100000 in
set_option maxHeartbeats 4000000 in
theorem read_4 (s p0 p1 p2 p3 : ByteArray) (w : World) (hS : Std w) (hl : s.size < 4294967281) (hp : Lib.splitB ⟨#[32]⟩ 0 (min 5 (s.size + 1) - 1) s = [p0, p1, p2, p3]) :
    Calls Tryz.prog 55 #[.string s] w fun e w' => e = .returned (sg 0 0 0 0 0) ∧ Below w.heap.size w w' := by
  have hS' : ∀ W, Below w.heap.size w W → Std W := fun W h => std_below hS h
  have SP : ∀ W, Std W → Calls Tryz.prog 77 #[.string s, .string ⟨#[32]⟩, .int .i64 5] W fun e w' => e = .returned (.slice (some ⟨W.heap.size, 0, none⟩) 4 (min 5 (s.size + 1))) ∧ w' = W.alloc (.cells (Lib.cellsOf [p0, p1, p2, p3] (min 5 (s.size + 1))) 9) := fun W h => by
    obtain ⟨m, hm⟩ := h.ml
    have := Tryz.strings_SplitN s ⟨#[32]⟩ 5 m W hl hm (by decide) (by decide) (by decide)
    rw [hp] at this
    exact this
  have hN : ∃ N, N = min 5 (s.size + 1) := ⟨_, rfl⟩
  obtain ⟨N, hN⟩ := hN
  rw [← hN] at SP
  have hN1 : 1 ≤ N := by omega
  clear hN hp hl
  go_enter Tryz.func55, Tryz.ntmps55
  go_wp2_with (first | (go_at_call 77; with_reducible refine (SP _ (hS' _ (by repeat first | (with_reducible exact Below.refl _ _) | (with_reducible refine below_on ?_ _) | (with_reducible refine below_alloc ?_ _) | (with_reducible refine below_set ?_ (by simp; try omega) _)))).mono ?_; rintro e wx ⟨rfl, rfl⟩) | fail)
  exact bodyPost_ret (v := sg 0 0 0 0 0) (by simp [results, Tryz.results55, go_sem]) rfl ⟨rfl, (by repeat first | (with_reducible exact Below.refl _ _) | (with_reducible refine below_on ?_ _) | (with_reducible refine below_alloc ?_ _) | (with_reducible refine below_set ?_ (by simp; try omega) _))⟩

set_option maxRecDepth 100000 in
set_option maxHeartbeats 4000000 in
theorem read_5 (s : ByteArray) (P0 P1 P2 P3 P4 : List UInt8) (lk lc le v3 v4 ix : Int) (w : World) (hS : Std w) (hl : s.size < 4294967281) (hp : Lib.splitB ⟨#[32]⟩ 0 (min 5 (s.size + 1) - 1) s = [⟨P0.toArray⟩, ⟨P1.toArray⟩, ⟨P2.toArray⟩, ⟨P3.toArray⟩, ⟨P4.toArray⟩])
    (z1 : P1.length ≤ 100000) (z2 : P2.length ≤ 100000) (i1 : -1 ≤ ix) (i2 : ix ≤ 3)
    (PP : ∀ W, Std W → Calls Tryz.prog 78 #[.string ⟨(P1 ++ [32] ++ P2).toArray⟩] W fun e w' => e = .returned (.tuple #[ln lk lc, .int .i64 le]) ∧ Below W.heap.size W w')
    (A3 : ∀ W, Std W → Calls Tryz.prog 79 #[.string ⟨P3.toArray⟩] W fun e w' => ∃ er, e = .returned (.tuple #[.int .i64 v3, er]) ∧ Below W.heap.size W w')
    (A4 : ∀ W, Std W → Calls Tryz.prog 79 #[.string ⟨P4.toArray⟩] W fun e w' => ∃ er, e = .returned (.tuple #[.int .i64 v4, er]) ∧ Below W.heap.size W w')
    (IX : ∀ W, Std W → Calls Tryz.prog 80 #[.string ⟨#[109, 118, 97]⟩, .string ⟨P0.toArray⟩] W fun e w' => e = .returned (.int .i64 ix) ∧ Below W.heap.size W w') :
    Calls Tryz.prog 55 #[.string s] w fun e w' => e = .returned (sg (ix + 1) lk lc v3 v4) ∧ Below w.heap.size w w' := by
  have hS' : ∀ W, Below w.heap.size w W → Std W := fun W h => std_below hS h
  have SP : ∀ W, Std W → Calls Tryz.prog 77 #[.string s, .string ⟨#[32]⟩, .int .i64 5] W fun e w' => e = .returned (.slice (some ⟨W.heap.size, 0, none⟩) 5 (min 5 (s.size + 1))) ∧ w' = W.alloc (.cells (Lib.cellsOf [⟨P0.toArray⟩, ⟨P1.toArray⟩, ⟨P2.toArray⟩, ⟨P3.toArray⟩, ⟨P4.toArray⟩] (min 5 (s.size + 1))) 9) := fun W h => by
    obtain ⟨m, hm⟩ := h.ml
    have := Tryz.strings_SplitN s ⟨#[32]⟩ 5 m W hl hm (by decide) (by decide) (by decide)
    rw [hp] at this
    exact this
  have hN : ∃ N, N = min 5 (s.size + 1) := ⟨_, rfl⟩
  obtain ⟨N, hN⟩ := hN
  rw [← hN] at SP
  have hN1 : 1 ≤ N := by omega
  clear hN hp hl
  have hA : ∀ w, (Op.stringOp .add ⟨P1.toArray⟩ ⟨#[32]⟩).run Tryz.prog w = .ok (.string ⟨(P1 ++ [32]).toArray⟩) w := fun w => run_string_add_lists w P1 [32] (by omega) (by simp)
  have hB : ∀ w, (Op.stringOp .add ⟨(P1 ++ [32]).toArray⟩ ⟨P2.toArray⟩).run Tryz.prog w = .ok (.string ⟨(P1 ++ [32] ++ P2).toArray⟩) w := fun w => run_string_add_lists w _ _ (by simp; omega) (by omega)
  clear z1 z2
  generalize hQ2 : P1 ++ [32] ++ P2 = Q2 at *
  generalize hQ1 : P1 ++ [32] = Q1 at *
  clear hQ2 hQ1
  go_enter Tryz.func55, Tryz.ntmps55
  go_upto_region 4 with (first | (go_at_call 77; with_reducible refine (SP _ (hS' _ (by repeat first | (with_reducible exact Below.refl _ _) | (with_reducible refine below_on ?_ _) | (with_reducible refine below_alloc ?_ _) | (with_reducible refine below_set ?_ (by simp; try omega) _)))).mono ?_; rintro e wx ⟨rfl, rfl⟩) | fail)
  clear SP
  have R0 : ((w.alloc (.cells #[.int .u8 0, .int .u8 0, .int .i64 0, .int .i64 0, .int .i64 0] 29)).alloc (.cells (Lib.cellsOf [⟨P0.toArray⟩, ⟨P1.toArray⟩, ⟨P2.toArray⟩, ⟨P3.toArray⟩, ⟨P4.toArray⟩] N) 9)).cell? ⟨w.heap.size, 0, none⟩ = some (.int .u8 0) := by simp [go_sem]
  have F0 : ((w.alloc (.cells #[.int .u8 0, .int .u8 0, .int .i64 0, .int .i64 0, .int .i64 0] 29)).alloc (.cells (Lib.cellsOf [⟨P0.toArray⟩, ⟨P1.toArray⟩, ⟨P2.toArray⟩, ⟨P3.toArray⟩, ⟨P4.toArray⟩] N) 9)).frozen? ⟨w.heap.size, 0, none⟩ = false := by simp [go_sem]
  have R1 : ((w.alloc (.cells #[.int .u8 0, .int .u8 0, .int .i64 0, .int .i64 0, .int .i64 0] 29)).alloc (.cells (Lib.cellsOf [⟨P0.toArray⟩, ⟨P1.toArray⟩, ⟨P2.toArray⟩, ⟨P3.toArray⟩, ⟨P4.toArray⟩] N) 9)).cell? ⟨w.heap.size, 1, none⟩ = some (.int .u8 0) := by simp [go_sem]
  have F1 : ((w.alloc (.cells #[.int .u8 0, .int .u8 0, .int .i64 0, .int .i64 0, .int .i64 0] 29)).alloc (.cells (Lib.cellsOf [⟨P0.toArray⟩, ⟨P1.toArray⟩, ⟨P2.toArray⟩, ⟨P3.toArray⟩, ⟨P4.toArray⟩] N) 9)).frozen? ⟨w.heap.size, 1, none⟩ = false := by simp [go_sem]
  have R2 : ((w.alloc (.cells #[.int .u8 0, .int .u8 0, .int .i64 0, .int .i64 0, .int .i64 0] 29)).alloc (.cells (Lib.cellsOf [⟨P0.toArray⟩, ⟨P1.toArray⟩, ⟨P2.toArray⟩, ⟨P3.toArray⟩, ⟨P4.toArray⟩] N) 9)).cell? ⟨w.heap.size, 2, none⟩ = some (.int .i64 0) := by simp [go_sem]
  have F2 : ((w.alloc (.cells #[.int .u8 0, .int .u8 0, .int .i64 0, .int .i64 0, .int .i64 0] 29)).alloc (.cells (Lib.cellsOf [⟨P0.toArray⟩, ⟨P1.toArray⟩, ⟨P2.toArray⟩, ⟨P3.toArray⟩, ⟨P4.toArray⟩] N) 9)).frozen? ⟨w.heap.size, 2, none⟩ = false := by simp [go_sem]
  have R3 : ((w.alloc (.cells #[.int .u8 0, .int .u8 0, .int .i64 0, .int .i64 0, .int .i64 0] 29)).alloc (.cells (Lib.cellsOf [⟨P0.toArray⟩, ⟨P1.toArray⟩, ⟨P2.toArray⟩, ⟨P3.toArray⟩, ⟨P4.toArray⟩] N) 9)).cell? ⟨w.heap.size, 3, none⟩ = some (.int .i64 0) := by simp [go_sem]
  have F3 : ((w.alloc (.cells #[.int .u8 0, .int .u8 0, .int .i64 0, .int .i64 0, .int .i64 0] 29)).alloc (.cells (Lib.cellsOf [⟨P0.toArray⟩, ⟨P1.toArray⟩, ⟨P2.toArray⟩, ⟨P3.toArray⟩, ⟨P4.toArray⟩] N) 9)).frozen? ⟨w.heap.size, 3, none⟩ = false := by simp [go_sem]
  have R4 : ((w.alloc (.cells #[.int .u8 0, .int .u8 0, .int .i64 0, .int .i64 0, .int .i64 0] 29)).alloc (.cells (Lib.cellsOf [⟨P0.toArray⟩, ⟨P1.toArray⟩, ⟨P2.toArray⟩, ⟨P3.toArray⟩, ⟨P4.toArray⟩] N) 9)).cell? ⟨w.heap.size, 4, none⟩ = some (.int .i64 0) := by simp [go_sem]
  have F4 : ((w.alloc (.cells #[.int .u8 0, .int .u8 0, .int .i64 0, .int .i64 0, .int .i64 0] 29)).alloc (.cells (Lib.cellsOf [⟨P0.toArray⟩, ⟨P1.toArray⟩, ⟨P2.toArray⟩, ⟨P3.toArray⟩, ⟨P4.toArray⟩] N) 9)).frozen? ⟨w.heap.size, 4, none⟩ = false := by simp [go_sem]
  have S0 : ((w.alloc (.cells #[.int .u8 0, .int .u8 0, .int .i64 0, .int .i64 0, .int .i64 0] 29)).alloc (.cells (Lib.cellsOf [⟨P0.toArray⟩, ⟨P1.toArray⟩, ⟨P2.toArray⟩, ⟨P3.toArray⟩, ⟨P4.toArray⟩] N) 9)).cell? ⟨w.heap.size + 1, 0, none⟩ = some (.string ⟨P0.toArray⟩) := by
    have := cells_some (w.alloc (.cells #[.int .u8 0, .int .u8 0, .int .i64 0, .int .i64 0, .int .i64 0] 29)) [⟨P0.toArray⟩, ⟨P1.toArray⟩, ⟨P2.toArray⟩, ⟨P3.toArray⟩, ⟨P4.toArray⟩] N 9 0 ⟨P0.toArray⟩ rfl
    simpa [World.size_alloc] using this
  have S1 : ((w.alloc (.cells #[.int .u8 0, .int .u8 0, .int .i64 0, .int .i64 0, .int .i64 0] 29)).alloc (.cells (Lib.cellsOf [⟨P0.toArray⟩, ⟨P1.toArray⟩, ⟨P2.toArray⟩, ⟨P3.toArray⟩, ⟨P4.toArray⟩] N) 9)).cell? ⟨w.heap.size + 1, 1, none⟩ = some (.string ⟨P1.toArray⟩) := by
    have := cells_some (w.alloc (.cells #[.int .u8 0, .int .u8 0, .int .i64 0, .int .i64 0, .int .i64 0] 29)) [⟨P0.toArray⟩, ⟨P1.toArray⟩, ⟨P2.toArray⟩, ⟨P3.toArray⟩, ⟨P4.toArray⟩] N 9 1 ⟨P1.toArray⟩ rfl
    simpa [World.size_alloc] using this
  have S2 : ((w.alloc (.cells #[.int .u8 0, .int .u8 0, .int .i64 0, .int .i64 0, .int .i64 0] 29)).alloc (.cells (Lib.cellsOf [⟨P0.toArray⟩, ⟨P1.toArray⟩, ⟨P2.toArray⟩, ⟨P3.toArray⟩, ⟨P4.toArray⟩] N) 9)).cell? ⟨w.heap.size + 1, 2, none⟩ = some (.string ⟨P2.toArray⟩) := by
    have := cells_some (w.alloc (.cells #[.int .u8 0, .int .u8 0, .int .i64 0, .int .i64 0, .int .i64 0] 29)) [⟨P0.toArray⟩, ⟨P1.toArray⟩, ⟨P2.toArray⟩, ⟨P3.toArray⟩, ⟨P4.toArray⟩] N 9 2 ⟨P2.toArray⟩ rfl
    simpa [World.size_alloc] using this
  have S3 : ((w.alloc (.cells #[.int .u8 0, .int .u8 0, .int .i64 0, .int .i64 0, .int .i64 0] 29)).alloc (.cells (Lib.cellsOf [⟨P0.toArray⟩, ⟨P1.toArray⟩, ⟨P2.toArray⟩, ⟨P3.toArray⟩, ⟨P4.toArray⟩] N) 9)).cell? ⟨w.heap.size + 1, 3, none⟩ = some (.string ⟨P3.toArray⟩) := by
    have := cells_some (w.alloc (.cells #[.int .u8 0, .int .u8 0, .int .i64 0, .int .i64 0, .int .i64 0] 29)) [⟨P0.toArray⟩, ⟨P1.toArray⟩, ⟨P2.toArray⟩, ⟨P3.toArray⟩, ⟨P4.toArray⟩] N 9 3 ⟨P3.toArray⟩ rfl
    simpa [World.size_alloc] using this
  have S4 : ((w.alloc (.cells #[.int .u8 0, .int .u8 0, .int .i64 0, .int .i64 0, .int .i64 0] 29)).alloc (.cells (Lib.cellsOf [⟨P0.toArray⟩, ⟨P1.toArray⟩, ⟨P2.toArray⟩, ⟨P3.toArray⟩, ⟨P4.toArray⟩] N) 9)).cell? ⟨w.heap.size + 1, 4, none⟩ = some (.string ⟨P4.toArray⟩) := by
    have := cells_some (w.alloc (.cells #[.int .u8 0, .int .u8 0, .int .i64 0, .int .i64 0, .int .i64 0] 29)) [⟨P0.toArray⟩, ⟨P1.toArray⟩, ⟨P2.toArray⟩, ⟨P3.toArray⟩, ⟨P4.toArray⟩] N 9 4 ⟨P4.toArray⟩ rfl
    simpa [World.size_alloc] using this
  have hBC : Below w.heap.size w ((w.alloc (.cells #[.int .u8 0, .int .u8 0, .int .i64 0, .int .i64 0, .int .i64 0] 29)).alloc (.cells (Lib.cellsOf [⟨P0.toArray⟩, ⟨P1.toArray⟩, ⟨P2.toArray⟩, ⟨P3.toArray⟩, ⟨P4.toArray⟩] N) 9)) := (by repeat first | (with_reducible exact Below.refl _ _) | (with_reducible refine below_on ?_ _) | (with_reducible refine below_alloc ?_ _) | (with_reducible refine below_set ?_ (by simp; try omega) _))
  have hW : w.heap.size < ((w.alloc (.cells #[.int .u8 0, .int .u8 0, .int .i64 0, .int .i64 0, .int .i64 0] 29)).alloc (.cells (Lib.cellsOf [⟨P0.toArray⟩, ⟨P1.toArray⟩, ⟨P2.toArray⟩, ⟨P3.toArray⟩, ⟨P4.toArray⟩] N) 9)).heap.size := by simp [World.size_alloc]; omega
  generalize ((w.alloc (.cells #[.int .u8 0, .int .u8 0, .int .i64 0, .int .i64 0, .int .i64 0] 29)).alloc (.cells (Lib.cellsOf [⟨P0.toArray⟩, ⟨P1.toArray⟩, ⟨P2.toArray⟩, ⟨P3.toArray⟩, ⟨P4.toArray⟩] N) 9)) = Wc at *
  go_cut [4, 5] from 17 to 54 (fun s8 s9 wx => ∃ b : Nat, s8 = .pointer (some ⟨b, 0, none⟩) ∧ s9 = .int .i64 le ∧ Below Wc.heap.size Wc wx ∧ wx.cell? ⟨b, 0, none⟩ = some (.int .u8 lk) ∧ wx.cell? ⟨b, 1, none⟩ = some (.int .i64 lc))
  case first =>
    go_region_with (first | (go_at_call 78; (with_reducible refine (PP _ (hS' _ (by repeat first | (with_reducible exact hBC) | (with_reducible refine below_on ?_ _) | (with_reducible refine below_alloc ?_ _) | (with_reducible refine below_drew ?_) | (with_reducible refine below_set ?_ (by simp; try omega) _)))).mono ?_); rintro e wx ⟨rfl, hx⟩; obtain ⟨ux, rfl⟩ := after hx; clear hx))
    all_goals (go_wp2_with fail; go_meet)
    all_goals exact ⟨_, rfl, rfl, (by repeat first | (with_reducible exact Below.refl _ _) | (with_reducible refine below_on ?_ _) | (with_reducible refine below_alloc ?_ _) | (with_reducible refine below_drew ?_) | (with_reducible refine below_set ?_ (by first | exact Nat.le_refl _ | exact on_size _ | exact le_drew _ | (rename_i u9; have := le_drew u9; simp at this ⊢; omega) | (have := on_size ux; simp at this ⊢; omega)) _)), by simp [go_sem, *], by simp [go_sem, *]⟩
  case rest =>
    obtain ⟨b, rfl, rfl, hbx, c0, c1⟩ := hcut
    generalize wc = Wv at *
    have R0' : Wv.cell? ⟨w.heap.size, 0, none⟩ = some (.int .u8 0) := (hbx.cell (World.block_lt_of_cell? _ _ R0)).trans R0
    have F0' : Wv.frozen? ⟨w.heap.size, 0, none⟩ = false := (hbx.frozen (World.block_lt_of_cell? _ _ R0)).trans F0
    have R1' : Wv.cell? ⟨w.heap.size, 1, none⟩ = some (.int .u8 0) := (hbx.cell (World.block_lt_of_cell? _ _ R1)).trans R1
    have F1' : Wv.frozen? ⟨w.heap.size, 1, none⟩ = false := (hbx.frozen (World.block_lt_of_cell? _ _ R1)).trans F1
    have R2' : Wv.cell? ⟨w.heap.size, 2, none⟩ = some (.int .i64 0) := (hbx.cell (World.block_lt_of_cell? _ _ R2)).trans R2
    have F2' : Wv.frozen? ⟨w.heap.size, 2, none⟩ = false := (hbx.frozen (World.block_lt_of_cell? _ _ R2)).trans F2
    have R3' : Wv.cell? ⟨w.heap.size, 3, none⟩ = some (.int .i64 0) := (hbx.cell (World.block_lt_of_cell? _ _ R3)).trans R3
    have F3' : Wv.frozen? ⟨w.heap.size, 3, none⟩ = false := (hbx.frozen (World.block_lt_of_cell? _ _ R3)).trans F3
    have R4' : Wv.cell? ⟨w.heap.size, 4, none⟩ = some (.int .i64 0) := (hbx.cell (World.block_lt_of_cell? _ _ R4)).trans R4
    have F4' : Wv.frozen? ⟨w.heap.size, 4, none⟩ = false := (hbx.frozen (World.block_lt_of_cell? _ _ R4)).trans F4
    have S0' : Wv.cell? ⟨w.heap.size + 1, 0, none⟩ = some (.string ⟨P0.toArray⟩) := (hbx.cell (World.block_lt_of_cell? _ _ S0)).trans S0
    have S3' : Wv.cell? ⟨w.heap.size + 1, 3, none⟩ = some (.string ⟨P3.toArray⟩) := (hbx.cell (World.block_lt_of_cell? _ _ S3)).trans S3
    have S4' : Wv.cell? ⟨w.heap.size + 1, 4, none⟩ = some (.string ⟨P4.toArray⟩) := (hbx.cell (World.block_lt_of_cell? _ _ S4)).trans S4
    have hBv : Below w.heap.size w Wv := hBC.trans (hbx.mono hBC.size)
    clear R0 R1 R2 R3 R4 F0 F1 F2 F3 F4 S0 S1 S2 S3 S4 hBC hbx hW
    go_wp2_with (first | (go_at_call 79; (with_reducible refine (A3 _ (hS' _ (by repeat first | (with_reducible exact hBv) | (with_reducible refine below_on ?_ _) | (with_reducible refine below_alloc ?_ _) | (with_reducible refine below_set ?_ (by simp; try omega) _)))).mono ?_); rintro e wx ⟨er, rfl, hx⟩; obtain ⟨ux, rfl⟩ := after hx; clear hx) | (go_at_call 79; (with_reducible refine (A4 _ (hS' _ (by repeat first | (with_reducible exact hBv) | (with_reducible refine below_on ?_ _) | (with_reducible refine below_alloc ?_ _) | (with_reducible refine below_set ?_ (by simp; try omega) _)))).mono ?_); rintro e wx ⟨er, rfl, hx⟩; obtain ⟨ux, rfl⟩ := after hx; clear hx) | (go_at_call 80; (with_reducible refine (IX _ (hS' _ (by repeat first | (with_reducible exact hBv) | (with_reducible refine below_on ?_ _) | (with_reducible refine below_alloc ?_ _) | (with_reducible refine below_set ?_ (by simp; try omega) _)))).mono ?_); rintro e wx ⟨rfl, hx⟩; obtain ⟨ux, rfl⟩ := after hx; clear hx) | fail)
    exact bodyPost_ret (v := sg (ix + 1) lk lc v3 v4) (by simp [results, Tryz.results55, go_sem, R0', R1', R2', R3', R4']) rfl ⟨rfl, (by repeat first | (with_reducible exact hBv) | (with_reducible refine below_on ?_ _) | (with_reducible refine below_alloc ?_ _) | (with_reducible refine below_set ?_ (by simp; try omega) _))⟩

end Go.Proofs.YtkmmnlhmfiabfaaGreatDoor
