/-
  Says: what Parse of package segments gives.
-/
import Derived.Test.YtkmmnlhmfiabfaaGreatDoorSg1
import Derived.Test.YtkmmnlhmfiabfaaGreatDoorFnP
import Derived.BigRegion
import Derived.Deep.CutRange
import Derived.RowKit3
import Derived.Lib.IndexBytes
import Derived.Deep.RegionHeld3
set_option linter.unusedVariables false
set_option linter.unusedSimpArgs false
namespace Go.Proofs.YtkmmnlhmfiabfaaGreatDoor
open Go Go.RowKit

attribute [local go_sem] World.cell?_alloc_some frozen?_alloc_cells fz0 fz1 fz2 fz3 fz4 fz5

theorem cells_some (w : World) (ps : List ByteArray) (N : Nat) (T : TypeId) (i : Nat) (p : ByteArray) (h : ps[i]? = some p) : (w.alloc (.cells (Lib.cellsOf ps N) T)).cell? ⟨w.heap.size, i, none⟩ = some (.string p) := by
  have e : (w.alloc (.cells (Lib.cellsOf ps N) T)).heap[w.heap.size]? = some (.cells (Lib.cellsOf ps N) T) := heap_alloc_new _ _
  rw [held_cell e]
  obtain ⟨hl, hh⟩ := List.getElem?_eq_some_iff.1 h
  unfold Lib.cellsOf
  simp [List.getElem?_append, hl, List.getElem?_map, hh]
theorem le_drew {W : World} (u : Later W.drew) : W.heap.size ≤ (on u).heap.size := u.b.size
set_option maxRecDepth 100000 in
set_option maxHeartbeats 4000000 in
theorem read_1 (s p0 : ByteArray) (w : World) (hS : Std w) (hl : s.size < 4294967281) (hp : Lib.splitB ⟨#[32]⟩ 0 (min 5 (s.size + 1) - 1) s = [p0]) :
    Calls Tryz.prog 55 #[.string s] w fun e w' => e = .returned (sg 0 0 0 0 0) ∧ Below w.heap.size w w' := by
  have hS' : ∀ W, Below w.heap.size w W → Std W := fun W h => std_below hS h
  have SP : ∀ W, Std W → Calls Tryz.prog 77 #[.string s, .string ⟨#[32]⟩, .int .i64 5] W fun e w' => e = .returned (.slice (some ⟨W.heap.size, 0, none⟩) 1 (min 5 (s.size + 1))) ∧ w' = W.alloc (.cells (Lib.cellsOf [p0] (min 5 (s.size + 1))) 9) := fun W h => by
    obtain ⟨m, hm⟩ := h.ml
    have := Tryz.strings_SplitN s ⟨#[32]⟩ 5 m W hl hm (by decide) (by decide) (by decide)
    rw [hp] at this
    exact this
  have hN : ∃ N, N = min 5 (s.size + 1) := ⟨_, rfl⟩
  obtain ⟨N, hN⟩ := hN
  rw [← hN] at SP
  have hN1 : 1 ≤ N := by omega
  clear hN hp hl
  go_enter Tryz.func55, Tryz.ntmps55
  go_wp2_with (first | (go_at_call 77; with_reducible refine (SP _ (hS' _ (by repeat first | (with_reducible exact Below.refl _ _) | (with_reducible refine below_on ?_ _) | (with_reducible refine below_alloc ?_ _) | (with_reducible refine below_set ?_ (by simp; try omega) _)))).mono ?_; rintro e wx ⟨rfl, rfl⟩) | fail)
  exact bodyPost_ret (v := sg 0 0 0 0 0) (by simp [results, Tryz.results55, go_sem]) rfl ⟨rfl, (by repeat first | (with_reducible exact Below.refl _ _) | (with_reducible refine below_on ?_ _) | (with_reducible refine below_alloc ?_ _) | (with_reducible refine below_set ?_ (by simp; try omega) _))⟩

set_option maxRecDepth 100000 in
set_option maxHeartbeats 4000000 in
theorem read_4 (s p0 p1 p2 p3 : ByteArray) (w : World) (hS : Std w) (hl : s.size < 4294967281) (hp : Lib.splitB ⟨#[32]⟩ 0 (min 5 (s.size + 1) - 1) s = [p0, p1, p2, p3]) :
    Calls Tryz.prog 55 #[.string s] w fun e w' => e = .returned (sg 0 0 0 0 0) ∧ Below w.heap.size w w' := by
  have hS' : ∀ W, Below w.heap.size w W → Std W := fun W h => std_below hS h
  have SP : ∀ W, Std W → Calls Tryz.prog 77 #[.string s, .string ⟨#[32]⟩, .int .i64 5] W fun e w' => e = .returned (.slice (some ⟨W.heap.size, 0, none⟩) 4 (min 5 (s.size + 1))) ∧ w' = W.alloc (.cells (Lib.cellsOf [p0, p1, p2, p3] (min 5 (s.size + 1))) 9) := fun W h => by
    obtain ⟨m, hm⟩ := h.ml
    have := Tryz.strings_SplitN s ⟨#[32]⟩ 5 m W hl hm (by decide) (by decide) (by decide)
    rw [hp] at this
    exact this
  have hN : ∃ N, N = min 5 (s.size + 1) := ⟨_, rfl⟩
  obtain ⟨N, hN⟩ := hN
  rw [← hN] at SP
  have hN1 : 1 ≤ N := by omega
  clear hN hp hl
  go_enter Tryz.func55, Tryz.ntmps55
  go_wp2_with (first | (go_at_call 77; with_reducible refine (SP _ (hS' _ (by repeat first | (with_reducible exact Below.refl _ _) | (with_reducible refine below_on ?_ _) | (with_reducible refine below_alloc ?_ _) | (with_reducible refine below_set ?_ (by simp; try omega) _)))).mono ?_; rintro e wx ⟨rfl, rfl⟩) | fail)
  exact bodyPost_ret (v := sg 0 0 0 0 0) (by simp [results, Tryz.results55, go_sem]) rfl ⟨rfl, (by repeat first | (with_reducible exact Below.refl _ _) | (with_reducible refine below_on ?_ _) | (with_reducible refine below_alloc ?_ _) | (with_reducible refine below_set ?_ (by simp; try omega) _))⟩

set_option maxRecDepth 100000 in
set_option maxHeartbeats 4000000 in
theorem read_5 (s : ByteArray) (P0 P1 P2 P3 P4 : List UInt8) (lk lc le v3 v4 ix : Int) (w : World) (hS : Std w) (hl : s.size < 4294967281) (hp : Lib.splitB ⟨#[32]⟩ 0 (min 5 (s.size + 1) - 1) s = [⟨P0.toArray⟩, ⟨P1.toArray⟩, ⟨P2.toArray⟩, ⟨P3.toArray⟩, ⟨P4.toArray⟩])
    (z1 : P1.length ≤ 100000) (z2 : P2.length ≤ 100000) (i1 : -1 ≤ ix) (i2 : ix ≤ 3)
    (PP : ∀ W, Std W → Calls Tryz.prog 78 #[.string ⟨(P1 ++ [32] ++ P2).toArray⟩] W fun e w' => e = .returned (.tuple #[ln lk lc, .int .i64 le]) ∧ Below W.heap.size W w')
    (A3 : ∀ W, Std W → Calls Tryz.prog 79 #[.string ⟨P3.toArray⟩] W fun e w' => ∃ er, e = .returned (.tuple #[.int .i64 v3, er]) ∧ Below W.heap.size W w')
    (A4 : ∀ W, Std W → Calls Tryz.prog 79 #[.string ⟨P4.toArray⟩] W fun e w' => ∃ er, e = .returned (.tuple #[.int .i64 v4, er]) ∧ Below W.heap.size W w')
    (IX : ∀ W, Std W → Calls Tryz.prog 80 #[.string ⟨#[109, 118, 97]⟩, .string ⟨P0.toArray⟩] W fun e w' => e = .returned (.int .i64 ix) ∧ Below W.heap.size W w') :
    Calls Tryz.prog 55 #[.string s] w fun e w' => e = .returned (sg (ix + 1) lk lc v3 v4) ∧ Below w.heap.size w w' := by
  have hS' : ∀ W, Below w.heap.size w W → Std W := fun W h => std_below hS h
  have SP : ∀ W, Std W → Calls Tryz.prog 77 #[.string s, .string ⟨#[32]⟩, .int .i64 5] W fun e w' => e = .returned (.slice (some ⟨W.heap.size, 0, none⟩) 5 (min 5 (s.size + 1))) ∧ w' = W.alloc (.cells (Lib.cellsOf [⟨P0.toArray⟩, ⟨P1.toArray⟩, ⟨P2.toArray⟩, ⟨P3.toArray⟩, ⟨P4.toArray⟩] (min 5 (s.size + 1))) 9) := fun W h => by
    obtain ⟨m, hm⟩ := h.ml
    have := Tryz.strings_SplitN s ⟨#[32]⟩ 5 m W hl hm (by decide) (by decide) (by decide)
    rw [hp] at this
    exact this
  have hN : ∃ N, N = min 5 (s.size + 1) := ⟨_, rfl⟩
  obtain ⟨N, hN⟩ := hN
  rw [← hN] at SP
  have hN1 : 1 ≤ N := by omega
  clear hN hp hl
  have hA : ∀ w, (Op.stringOp .add ⟨P1.toArray⟩ ⟨#[32]⟩).run Tryz.prog w = .ok (.string ⟨(P1 ++ [32]).toArray⟩) w := fun w => run_string_add_lists w P1 [32] (by omega) (by simp)
  have hB : ∀ w, (Op.stringOp .add ⟨(P1 ++ [32]).toArray⟩ ⟨P2.toArray⟩).run Tryz.prog w = .ok (.string ⟨(P1 ++ [32] ++ P2).toArray⟩) w := fun w => run_string_add_lists w _ _ (by simp; omega) (by omega)
  clear z1 z2
  generalize hQ2 : P1 ++ [32] ++ P2 = Q2 at *
  generalize hQ1 : P1 ++ [32] = Q1 at *
  clear hQ2 hQ1
  go_enter Tryz.func55, Tryz.ntmps55
  go_upto_region 4 with (first | (go_at_call 77; with_reducible refine (SP _ (hS' _ (by repeat first | (with_reducible exact Below.refl _ _) | (with_reducible refine below_on ?_ _) | (with_reducible refine below_alloc ?_ _) | (with_reducible refine below_set ?_ (by simp; try omega) _)))).mono ?_; rintro e wx ⟨rfl, rfl⟩) | fail)
  clear SP
  have R0 : ((w.alloc (.cells #[.int .u8 0, .int .u8 0, .int .i64 0, .int .i64 0, .int .i64 0] 29)).alloc (.cells (Lib.cellsOf [⟨P0.toArray⟩, ⟨P1.toArray⟩, ⟨P2.toArray⟩, ⟨P3.toArray⟩, ⟨P4.toArray⟩] N) 9)).cell? ⟨w.heap.size, 0, none⟩ = some (.int .u8 0) := by simp [go_sem]
  have F0 : ((w.alloc (.cells #[.int .u8 0, .int .u8 0, .int .i64 0, .int .i64 0, .int .i64 0] 29)).alloc (.cells (Lib.cellsOf [⟨P0.toArray⟩, ⟨P1.toArray⟩, ⟨P2.toArray⟩, ⟨P3.toArray⟩, ⟨P4.toArray⟩] N) 9)).frozen? ⟨w.heap.size, 0, none⟩ = false := by simp [go_sem]
  have R1 : ((w.alloc (.cells #[.int .u8 0, .int .u8 0, .int .i64 0, .int .i64 0, .int .i64 0] 29)).alloc (.cells (Lib.cellsOf [⟨P0.toArray⟩, ⟨P1.toArray⟩, ⟨P2.toArray⟩, ⟨P3.toArray⟩, ⟨P4.toArray⟩] N) 9)).cell? ⟨w.heap.size, 1, none⟩ = some (.int .u8 0) := by simp [go_sem]
  have F1 : ((w.alloc (.cells #[.int .u8 0, .int .u8 0, .int .i64 0, .int .i64 0, .int .i64 0] 29)).alloc (.cells (Lib.cellsOf [⟨P0.toArray⟩, ⟨P1.toArray⟩, ⟨P2.toArray⟩, ⟨P3.toArray⟩, ⟨P4.toArray⟩] N) 9)).frozen? ⟨w.heap.size, 1, none⟩ = false := by simp [go_sem]
  have R2 : ((w.alloc (.cells #[.int .u8 0, .int .u8 0, .int .i64 0, .int .i64 0, .int .i64 0] 29)).alloc (.cells (Lib.cellsOf [⟨P0.toArray⟩, ⟨P1.toArray⟩, ⟨P2.toArray⟩, ⟨P3.toArray⟩, ⟨P4.toArray⟩] N) 9)).cell? ⟨w.heap.size, 2, none⟩ = some (.int .i64 0) := by simp [go_sem]
  have F2 : ((w.alloc (.cells #[.int .u8 0, .int .u8 0, .int .i64 0, .int .i64 0, .int .i64 0] 29)).alloc (.cells (Lib.cellsOf [⟨P0.toArray⟩, ⟨P1.toArray⟩, ⟨P2.toArray⟩, ⟨P3.toArray⟩, ⟨P4.toArray⟩] N) 9)).frozen? ⟨w.heap.size, 2, none⟩ = false := by simp [go_sem]
  have R3 : ((w.alloc (.cells #[.int .u8 0, .int .u8 0, .int .i64 0, .int .i64 0, .int .i64 0] 29)).alloc (.cells (Lib.cellsOf [⟨P0.toArray⟩, ⟨P1.toArray⟩, ⟨P2.toArray⟩, ⟨P3.toArray⟩, ⟨P4.toArray⟩] N) 9)).cell? ⟨w.heap.size, 3, none⟩ = some (.int .i64 0) := by simp [go_sem]
  have F3 : ((w.alloc (.cells #[.int .u8 0, .int .u8 0, .int .i64 0, .int .i64 0, .int .i64 0] 29)).alloc (.cells (Lib.cellsOf [⟨P0.toArray⟩, ⟨P1.toArray⟩, ⟨P2.toArray⟩, ⟨P3.toArray⟩, ⟨P4.toArray⟩] N) 9)).frozen? ⟨w.heap.size, 3, none⟩ = false := by simp [go_sem]
  have R4 : ((w.alloc (.cells #[.int .u8 0, .int .u8 0, .int .i64 0, .int .i64 0, .int .i64 0] 29)).alloc (.cells (Lib.cellsOf [⟨P0.toArray⟩, ⟨P1.toArray⟩, ⟨P2.toArray⟩, ⟨P3.toArray⟩, ⟨P4.toArray⟩] N) 9)).cell? ⟨w.heap.size, 4, none⟩ = some (.int .i64 0) := by simp [go_sem]
  have F4 : ((w.alloc (.cells #[.int .u8 0, .int .u8 0, .int .i64 0, .int .i64 0, .int .i64 0] 29)).alloc (.cells (Lib.cellsOf [⟨P0.toArray⟩, ⟨P1.toArray⟩, ⟨P2.toArray⟩, ⟨P3.toArray⟩, ⟨P4.toArray⟩] N) 9)).frozen? ⟨w.heap.size, 4, none⟩ = false := by simp [go_sem]
  have S0 : ((w.alloc (.cells #[.int .u8 0, .int .u8 0, .int .i64 0, .int .i64 0, .int .i64 0] 29)).alloc (.cells (Lib.cellsOf [⟨P0.toArray⟩, ⟨P1.toArray⟩, ⟨P2.toArray⟩, ⟨P3.toArray⟩, ⟨P4.toArray⟩] N) 9)).cell? ⟨w.heap.size + 1, 0, none⟩ = some (.string ⟨P0.toArray⟩) := by
    have := cells_some (w.alloc (.cells #[.int .u8 0, .int .u8 0, .int .i64 0, .int .i64 0, .int .i64 0] 29)) [⟨P0.toArray⟩, ⟨P1.toArray⟩, ⟨P2.toArray⟩, ⟨P3.toArray⟩, ⟨P4.toArray⟩] N 9 0 ⟨P0.toArray⟩ rfl
    simpa [World.size_alloc] using this
  have S1 : ((w.alloc (.cells #[.int .u8 0, .int .u8 0, .int .i64 0, .int .i64 0, .int .i64 0] 29)).alloc (.cells (Lib.cellsOf [⟨P0.toArray⟩, ⟨P1.toArray⟩, ⟨P2.toArray⟩, ⟨P3.toArray⟩, ⟨P4.toArray⟩] N) 9)).cell? ⟨w.heap.size + 1, 1, none⟩ = some (.string ⟨P1.toArray⟩) := by
    have := cells_some (w.alloc (.cells #[.int .u8 0, .int .u8 0, .int .i64 0, .int .i64 0, .int .i64 0] 29)) [⟨P0.toArray⟩, ⟨P1.toArray⟩, ⟨P2.toArray⟩, ⟨P3.toArray⟩, ⟨P4.toArray⟩] N 9 1 ⟨P1.toArray⟩ rfl
    simpa [World.size_alloc] using this
  have S2 : ((w.alloc (.cells #[.int .u8 0, .int .u8 0, .int .i64 0, .int .i64 0, .int .i64 0] 29)).alloc (.cells (Lib.cellsOf [⟨P0.toArray⟩, ⟨P1.toArray⟩, ⟨P2.toArray⟩, ⟨P3.toArray⟩, ⟨P4.toArray⟩] N) 9)).cell? ⟨w.heap.size + 1, 2, none⟩ = some (.string ⟨P2.toArray⟩) := by
    have := cells_some (w.alloc (.cells #[.int .u8 0, .int .u8 0, .int .i64 0, .int .i64 0, .int .i64 0] 29)) [⟨P0.toArray⟩, ⟨P1.toArray⟩, ⟨P2.toArray⟩, ⟨P3.toArray⟩, ⟨P4.toArray⟩] N 9 2 ⟨P2.toArray⟩ rfl
    simpa [World.size_alloc] using this
  have S3 : ((w.alloc (.cells #[.int .u8 0, .int .u8 0, .int .i64 0, .int .i64 0, .int .i64 0] 29)).alloc (.cells (Lib.cellsOf [⟨P0.toArray⟩, ⟨P1.toArray⟩, ⟨P2.toArray⟩, ⟨P3.toArray⟩, ⟨P4.toArray⟩] N) 9)).cell? ⟨w.heap.size + 1, 3, none⟩ = some (.string ⟨P3.toArray⟩) := by
    have := cells_some (w.alloc (.cells #[.int .u8 0, .int .u8 0, .int .i64 0, .int .i64 0, .int .i64 0] 29)) [⟨P0.toArray⟩, ⟨P1.toArray⟩, ⟨P2.toArray⟩, ⟨P3.toArray⟩, ⟨P4.toArray⟩] N 9 3 ⟨P3.toArray⟩ rfl
    simpa [World.size_alloc] using this
  have S4 : ((w.alloc (.cells #[.int .u8 0, .int .u8 0, .int .i64 0, .int .i64 0, .int .i64 0] 29)).alloc (.cells (Lib.cellsOf [⟨P0.toArray⟩, ⟨P1.toArray⟩, ⟨P2.toArray⟩, ⟨P3.toArray⟩, ⟨P4.toArray⟩] N) 9)).cell? ⟨w.heap.size + 1, 4, none⟩ = some (.string ⟨P4.toArray⟩) := by
    have := cells_some (w.alloc (.cells #[.int .u8 0, .int .u8 0, .int .i64 0, .int .i64 0, .int .i64 0] 29)) [⟨P0.toArray⟩, ⟨P1.toArray⟩, ⟨P2.toArray⟩, ⟨P3.toArray⟩, ⟨P4.toArray⟩] N 9 4 ⟨P4.toArray⟩ rfl
    simpa [World.size_alloc] using this
  have hBC : Below w.heap.size w ((w.alloc (.cells #[.int .u8 0, .int .u8 0, .int .i64 0, .int .i64 0, .int .i64 0] 29)).alloc (.cells (Lib.cellsOf [⟨P0.toArray⟩, ⟨P1.toArray⟩, ⟨P2.toArray⟩, ⟨P3.toArray⟩, ⟨P4.toArray⟩] N) 9)) := (by repeat first | (with_reducible exact Below.refl _ _) | (with_reducible refine below_on ?_ _) | (with_reducible refine below_alloc ?_ _) | (with_reducible refine below_set ?_ (by simp; try omega) _))
  have hW : w.heap.size < ((w.alloc (.cells #[.int .u8 0, .int .u8 0, .int .i64 0, .int .i64 0, .int .i64 0] 29)).alloc (.cells (Lib.cellsOf [⟨P0.toArray⟩, ⟨P1.toArray⟩, ⟨P2.toArray⟩, ⟨P3.toArray⟩, ⟨P4.toArray⟩] N) 9)).heap.size := by simp [World.size_alloc]; omega
  generalize ((w.alloc (.cells #[.int .u8 0, .int .u8 0, .int .i64 0, .int .i64 0, .int .i64 0] 29)).alloc (.cells (Lib.cellsOf [⟨P0.toArray⟩, ⟨P1.toArray⟩, ⟨P2.toArray⟩, ⟨P3.toArray⟩, ⟨P4.toArray⟩] N) 9)) = Wc at *
  go_cut [4, 5] from 17 to 54 (fun s8 s9 wx => ∃ b : Nat, s8 = .pointer (some ⟨b, 0, none⟩) ∧ s9 = .int .i64 le ∧ Below Wc.heap.size Wc wx ∧ wx.cell? ⟨b, 0, none⟩ = some (.int .u8 lk) ∧ wx.cell? ⟨b, 1, none⟩ = some (.int .i64 lc))
  case first =>
    go_region_with (first | (go_at_call 78; (with_reducible refine (PP _ (hS' _ (by repeat first | (with_reducible exact hBC) | (with_reducible refine below_on ?_ _) | (with_reducible refine below_alloc ?_ _) | (with_reducible refine below_drew ?_) | (with_reducible refine below_set ?_ (by simp; try omega) _)))).mono ?_); rintro e wx ⟨rfl, hx⟩; obtain ⟨ux, rfl⟩ := after hx; clear hx))
    all_goals (go_wp2_with fail; go_meet)
    all_goals exact ⟨_, rfl, rfl, (by repeat first | (with_reducible exact Below.refl _ _) | (with_reducible refine below_on ?_ _) | (with_reducible refine below_alloc ?_ _) | (with_reducible refine below_drew ?_) | (with_reducible refine below_set ?_ (by first | exact Nat.le_refl _ | exact on_size _ | exact le_drew _ | (rename_i u9; have := le_drew u9; simp at this ⊢; omega) | (have := on_size ux; simp at this ⊢; omega)) _)), by simp [go_sem, *], by simp [go_sem, *]⟩
  case rest =>
    obtain ⟨b, rfl, rfl, hbx, c0, c1⟩ := hcut
    generalize wc = Wv at *
    have R0' : Wv.cell? ⟨w.heap.size, 0, none⟩ = some (.int .u8 0) := (hbx.cell (World.block_lt_of_cell? _ _ R0)).trans R0
    have F0' : Wv.frozen? ⟨w.heap.size, 0, none⟩ = false := (hbx.frozen (World.block_lt_of_cell? _ _ R0)).trans F0
    have R1' : Wv.cell? ⟨w.heap.size, 1, none⟩ = some (.int .u8 0) := (hbx.cell (World.block_lt_of_cell? _ _ R1)).trans R1
    have F1' : Wv.frozen? ⟨w.heap.size, 1, none⟩ = false := (hbx.frozen (World.block_lt_of_cell? _ _ R1)).trans F1
    have R2' : Wv.cell? ⟨w.heap.size, 2, none⟩ = some (.int .i64 0) := (hbx.cell (World.block_lt_of_cell? _ _ R2)).trans R2
    have F2' : Wv.frozen? ⟨w.heap.size, 2, none⟩ = false := (hbx.frozen (World.block_lt_of_cell? _ _ R2)).trans F2
    have R3' : Wv.cell? ⟨w.heap.size, 3, none⟩ = some (.int .i64 0) := (hbx.cell (World.block_lt_of_cell? _ _ R3)).trans R3
    have F3' : Wv.frozen? ⟨w.heap.size, 3, none⟩ = false := (hbx.frozen (World.block_lt_of_cell? _ _ R3)).trans F3
    have R4' : Wv.cell? ⟨w.heap.size, 4, none⟩ = some (.int .i64 0) := (hbx.cell (World.block_lt_of_cell? _ _ R4)).trans R4
    have F4' : Wv.frozen? ⟨w.heap.size, 4, none⟩ = false := (hbx.frozen (World.block_lt_of_cell? _ _ R4)).trans F4
    have S0' : Wv.cell? ⟨w.heap.size + 1, 0, none⟩ = some (.string ⟨P0.toArray⟩) := (hbx.cell (World.block_lt_of_cell? _ _ S0)).trans S0
    have S3' : Wv.cell? ⟨w.heap.size + 1, 3, none⟩ = some (.string ⟨P3.toArray⟩) := (hbx.cell (World.block_lt_of_cell? _ _ S3)).trans S3
    have S4' : Wv.cell? ⟨w.heap.size + 1, 4, none⟩ = some (.string ⟨P4.toArray⟩) := (hbx.cell (World.block_lt_of_cell? _ _ S4)).trans S4
    have hBv : Below w.heap.size w Wv := hBC.trans (hbx.mono hBC.size)
    clear R0 R1 R2 R3 R4 F0 F1 F2 F3 F4 S0 S1 S2 S3 S4 hBC hbx hW
    go_wp2_with (first | (go_at_call 79; (with_reducible refine (A3 _ (hS' _ (by repeat first | (with_reducible exact hBv) | (with_reducible refine below_on ?_ _) | (with_reducible refine below_alloc ?_ _) | (with_reducible refine below_set ?_ (by simp; try omega) _)))).mono ?_); rintro e wx ⟨er, rfl, hx⟩; obtain ⟨ux, rfl⟩ := after hx; clear hx) | (go_at_call 79; (with_reducible refine (A4 _ (hS' _ (by repeat first | (with_reducible exact hBv) | (with_reducible refine below_on ?_ _) | (with_reducible refine below_alloc ?_ _) | (with_reducible refine below_set ?_ (by simp; try omega) _)))).mono ?_); rintro e wx ⟨er, rfl, hx⟩; obtain ⟨ux, rfl⟩ := after hx; clear hx) | (go_at_call 80; (with_reducible refine (IX _ (hS' _ (by repeat first | (with_reducible exact hBv) | (with_reducible refine below_on ?_ _) | (with_reducible refine below_alloc ?_ _) | (with_reducible refine below_set ?_ (by simp; try omega) _)))).mono ?_); rintro e wx ⟨rfl, hx⟩; obtain ⟨ux, rfl⟩ := after hx; clear hx) | fail)
    exact bodyPost_ret (v := sg (ix + 1) lk lc v3 v4) (by simp [results, Tryz.results55, go_sem, R0', R1', R2', R3', R4']) rfl ⟨rfl, (by repeat first | (with_reducible exact hBv) | (with_reducible refine below_on ?_ _) | (with_reducible refine below_alloc ?_ _) | (with_reducible refine below_set ?_ (by simp; try omega) _))⟩

end Go.Proofs.YtkmmnlhmfiabfaaGreatDoor
set_option linter.unusedVariables false
set_option linter.unusedSimpArgs false
namespace Go.Proofs.YtkmmnlhmfiabfaaGreatDoor
open Go Go.RowKit

attribute [local go_sem] World.cell?_alloc_some frozen?_alloc_cells fz0 fz1 fz2 fz3 fz4 fz5

set_option maxRecDepth 100000 in
set_option maxHeartbeats 4000000 in
theorem sparse_ok (s : ByteArray) (k l c f t : Int) (w : World) (hS : Std w) (RD : ∀ w, Std w → Calls Tryz.prog 55 #[.string s] w fun e w' => e = .returned (sg k l c f t) ∧ Below w.heap.size w w') (a1 : 1 ≤ k) (a2 : k ≤ 3) (b1 : 1 ≤ l) (b2 : l ≤ 4) (b3 : -4096 ≤ c) (b4 : c ≤ 4096) (e1 : f < t) (e2 : -4096 ≤ f) (e3 : t ≤ 4096) (ht : (textS k l c f t == s.toList) = true) : Calls Tryz.prog 28 #[.string s] w fun e w' => e = .returned (.tuple #[sg k l c f t, .int .i64 0]) ∧ Below w.heap.size w w' := by
  have hS' : ∀ W, Below w.heap.size w W → Std W := fun W h => std_below hS h
  have hne : (textS k l c f t == []) = false := rfl
  have hn2 : (textS k l c f t == (ByteArray.mk #[]).toList) = false := by rw [show (ByteArray.mk #[]).toList = [] from toList_mk []]; rfl
  go_enter Tryz.func28, Tryz.ntmps28
  go_wp2_with (first | (go_at_call 55; (with_reducible refine (RD _ (hS' _ (by repeat first | (with_reducible exact Below.refl _ _) | (with_reducible refine below_on ?_ _) | (with_reducible refine below_alloc ?_ _) | (with_reducible refine below_set ?_ (by simp; try omega) _)))).mono ?_); rintro e wx ⟨rfl, hx⟩; obtain ⟨ux, rfl⟩ := after hx; clear hx) | fail)
  have hR : Below (w.alloc (.cells #[.int .u8 0, .int .u8 0, .int .i64 0, .int .i64 0, .int .i64 0] 29)).heap.size (w.alloc (.cells #[.int .u8 0, .int .u8 0, .int .i64 0, .int .i64 0, .int .i64 0] 29)) ((on ux).alloc (.cells #[.int .u8 k, .int .u8 l, .int .i64 c, .int .i64 f, .int .i64 t] 29)) := by repeat first | (with_reducible exact Below.refl _ _) | (with_reducible refine below_on ?_ _) | (with_reducible refine below_alloc ?_ _)
  have c0 : ((on ux).alloc (.cells #[.int .u8 k, .int .u8 l, .int .i64 c, .int .i64 f, .int .i64 t] 29)).cell? ⟨w.heap.size, 0, none⟩ = some (.int .u8 0) := by rw [hR.cell (p := ⟨w.heap.size, 0, none⟩) (by simp [World.size_alloc] <;> omega)]; simp [go_sem]
  have f0 : ((on ux).alloc (.cells #[.int .u8 k, .int .u8 l, .int .i64 c, .int .i64 f, .int .i64 t] 29)).frozen? ⟨w.heap.size, 0, none⟩ = false := by rw [hR.frozen (p := ⟨w.heap.size, 0, none⟩) (by simp [World.size_alloc] <;> omega)]; simp [go_sem]
  have c1 : ((on ux).alloc (.cells #[.int .u8 k, .int .u8 l, .int .i64 c, .int .i64 f, .int .i64 t] 29)).cell? ⟨w.heap.size, 1, none⟩ = some (.int .u8 0) := by rw [hR.cell (p := ⟨w.heap.size, 1, none⟩) (by simp [World.size_alloc] <;> omega)]; simp [go_sem]
  have f1 : ((on ux).alloc (.cells #[.int .u8 k, .int .u8 l, .int .i64 c, .int .i64 f, .int .i64 t] 29)).frozen? ⟨w.heap.size, 1, none⟩ = false := by rw [hR.frozen (p := ⟨w.heap.size, 1, none⟩) (by simp [World.size_alloc] <;> omega)]; simp [go_sem]
  have c2 : ((on ux).alloc (.cells #[.int .u8 k, .int .u8 l, .int .i64 c, .int .i64 f, .int .i64 t] 29)).cell? ⟨w.heap.size, 2, none⟩ = some (.int .i64 0) := by rw [hR.cell (p := ⟨w.heap.size, 2, none⟩) (by simp [World.size_alloc] <;> omega)]; simp [go_sem]
  have f2 : ((on ux).alloc (.cells #[.int .u8 k, .int .u8 l, .int .i64 c, .int .i64 f, .int .i64 t] 29)).frozen? ⟨w.heap.size, 2, none⟩ = false := by rw [hR.frozen (p := ⟨w.heap.size, 2, none⟩) (by simp [World.size_alloc] <;> omega)]; simp [go_sem]
  have c3 : ((on ux).alloc (.cells #[.int .u8 k, .int .u8 l, .int .i64 c, .int .i64 f, .int .i64 t] 29)).cell? ⟨w.heap.size, 3, none⟩ = some (.int .i64 0) := by rw [hR.cell (p := ⟨w.heap.size, 3, none⟩) (by simp [World.size_alloc] <;> omega)]; simp [go_sem]
  have f3 : ((on ux).alloc (.cells #[.int .u8 k, .int .u8 l, .int .i64 c, .int .i64 f, .int .i64 t] 29)).frozen? ⟨w.heap.size, 3, none⟩ = false := by rw [hR.frozen (p := ⟨w.heap.size, 3, none⟩) (by simp [World.size_alloc] <;> omega)]; simp [go_sem]
  have c4 : ((on ux).alloc (.cells #[.int .u8 k, .int .u8 l, .int .i64 c, .int .i64 f, .int .i64 t] 29)).cell? ⟨w.heap.size, 4, none⟩ = some (.int .i64 0) := by rw [hR.cell (p := ⟨w.heap.size, 4, none⟩) (by simp [World.size_alloc] <;> omega)]; simp [go_sem]
  have f4 : ((on ux).alloc (.cells #[.int .u8 k, .int .u8 l, .int .i64 c, .int .i64 f, .int .i64 t] 29)).frozen? ⟨w.heap.size, 4, none⟩ = false := by rw [hR.frozen (p := ⟨w.heap.size, 4, none⟩) (by simp [World.size_alloc] <;> omega)]; simp [go_sem]
  have c5 : ((on ux).alloc (.cells #[.int .u8 k, .int .u8 l, .int .i64 c, .int .i64 f, .int .i64 t] 29)).cell? ⟨(on ux).heap.size, 0, none⟩ = some (.int .u8 k) := by simp [go_sem]
  have f5 : ((on ux).alloc (.cells #[.int .u8 k, .int .u8 l, .int .i64 c, .int .i64 f, .int .i64 t] 29)).frozen? ⟨(on ux).heap.size, 0, none⟩ = false := by simp [go_sem]
  have c6 : ((on ux).alloc (.cells #[.int .u8 k, .int .u8 l, .int .i64 c, .int .i64 f, .int .i64 t] 29)).cell? ⟨(on ux).heap.size, 1, none⟩ = some (.int .u8 l) := by simp [go_sem]
  have f6 : ((on ux).alloc (.cells #[.int .u8 k, .int .u8 l, .int .i64 c, .int .i64 f, .int .i64 t] 29)).frozen? ⟨(on ux).heap.size, 1, none⟩ = false := by simp [go_sem]
  have c7 : ((on ux).alloc (.cells #[.int .u8 k, .int .u8 l, .int .i64 c, .int .i64 f, .int .i64 t] 29)).cell? ⟨(on ux).heap.size, 2, none⟩ = some (.int .i64 c) := by simp [go_sem]
  have f7 : ((on ux).alloc (.cells #[.int .u8 k, .int .u8 l, .int .i64 c, .int .i64 f, .int .i64 t] 29)).frozen? ⟨(on ux).heap.size, 2, none⟩ = false := by simp [go_sem]
  have c8 : ((on ux).alloc (.cells #[.int .u8 k, .int .u8 l, .int .i64 c, .int .i64 f, .int .i64 t] 29)).cell? ⟨(on ux).heap.size, 3, none⟩ = some (.int .i64 f) := by simp [go_sem]
  have f8 : ((on ux).alloc (.cells #[.int .u8 k, .int .u8 l, .int .i64 c, .int .i64 f, .int .i64 t] 29)).frozen? ⟨(on ux).heap.size, 3, none⟩ = false := by simp [go_sem]
  have c9 : ((on ux).alloc (.cells #[.int .u8 k, .int .u8 l, .int .i64 c, .int .i64 f, .int .i64 t] 29)).cell? ⟨(on ux).heap.size, 4, none⟩ = some (.int .i64 t) := by simp [go_sem]
  have f9 : ((on ux).alloc (.cells #[.int .u8 k, .int .u8 l, .int .i64 c, .int .i64 f, .int .i64 t] 29)).frozen? ⟨(on ux).heap.size, 4, none⟩ = false := by simp [go_sem]
  have hZ : Below (w.alloc (.cells #[.int .u8 0, .int .u8 0, .int .i64 0, .int .i64 0, .int .i64 0] 29)).heap.size (w.alloc (.cells #[.int .u8 0, .int .u8 0, .int .i64 0, .int .i64 0, .int .i64 0] 29)) (on ux) := by repeat first | (with_reducible exact Below.refl _ _) | (with_reducible refine below_on ?_ _) | (with_reducible refine below_alloc ?_ _)
  have z0 : w.heap.size < (on ux).heap.size := Nat.lt_of_lt_of_le (show w.heap.size < (w.alloc (.cells #[.int .u8 0, .int .u8 0, .int .i64 0, .int .i64 0, .int .i64 0] 29)).heap.size by simp [World.size_alloc] <;> omega) hZ.size
  clear hZ
  have hB : Below w.heap.size w ((on ux).alloc (.cells #[.int .u8 k, .int .u8 l, .int .i64 c, .int .i64 f, .int .i64 t] 29)) := by repeat first | (with_reducible exact Below.refl _ _) | (with_reducible refine below_on ?_ _) | (with_reducible refine below_alloc ?_ _)
  clear hR
  generalize ((on ux).alloc (.cells #[.int .u8 k, .int .u8 l, .int .i64 c, .int .i64 f, .int .i64 t] 29)) = Wn at *
  generalize (on ux).heap.size = Bn at *
  clear ux
  go_wp2_with (first | (go_at_call 29; (with_reducible refine (stext_ok k l c f t _ (hS' _ (by repeat first | (with_reducible exact hB) | (with_reducible refine below_on ?_ _) | (with_reducible refine below_alloc ?_ _) | (with_reducible refine below_set ?_ (by simp; try omega) _))).tab a1 a2 b1 b2 b3 b4 e1 e2 e3).mono ?_); rintro e wx ⟨rfl, hx⟩; obtain ⟨ux, rfl⟩ := after hx; clear hx) | fail)
  exact bodyPost_ret (v := .tuple #[sg k l c f t, .int .i64 0]) (by simp [results, Tryz.results28, go_sem, c0, c1, c2, c3, c4]) rfl ⟨rfl, (by repeat first | (with_reducible exact hB) | (with_reducible refine below_on ?_ _) | (with_reducible refine below_alloc ?_ _) | (with_reducible refine below_set ?_ (by simp; try omega) _))⟩

set_option maxRecDepth 100000 in
set_option maxHeartbeats 4000000 in
theorem sparse_other (s : ByteArray) (k l c f t : Int) (w : World) (hS : Std w) (RD : ∀ w, Std w → Calls Tryz.prog 55 #[.string s] w fun e w' => e = .returned (sg k l c f t) ∧ Below w.heap.size w w') (a1 : 1 ≤ k) (a2 : k ≤ 3) (b1 : 1 ≤ l) (b2 : l ≤ 4) (b3 : -4096 ≤ c) (b4 : c ≤ 4096) (e1 : f < t) (e2 : -4096 ≤ f) (e3 : t ≤ 4096) (ht : (textS k l c f t == s.toList) = false) : Calls Tryz.prog 28 #[.string s] w fun e w' => e = .returned (.tuple #[sg 0 0 0 0 0, .int .i64 4]) ∧ Below w.heap.size w w' := by
  have hS' : ∀ W, Below w.heap.size w W → Std W := fun W h => std_below hS h
  have hne : (textS k l c f t == []) = false := rfl
  have hn2 : (textS k l c f t == (ByteArray.mk #[]).toList) = false := by rw [show (ByteArray.mk #[]).toList = [] from toList_mk []]; rfl
  go_enter Tryz.func28, Tryz.ntmps28
  go_wp2_with (first | (go_at_call 55; (with_reducible refine (RD _ (hS' _ (by repeat first | (with_reducible exact Below.refl _ _) | (with_reducible refine below_on ?_ _) | (with_reducible refine below_alloc ?_ _) | (with_reducible refine below_set ?_ (by simp; try omega) _)))).mono ?_); rintro e wx ⟨rfl, hx⟩; obtain ⟨ux, rfl⟩ := after hx; clear hx) | fail)
  have hR : Below (w.alloc (.cells #[.int .u8 0, .int .u8 0, .int .i64 0, .int .i64 0, .int .i64 0] 29)).heap.size (w.alloc (.cells #[.int .u8 0, .int .u8 0, .int .i64 0, .int .i64 0, .int .i64 0] 29)) ((on ux).alloc (.cells #[.int .u8 k, .int .u8 l, .int .i64 c, .int .i64 f, .int .i64 t] 29)) := by repeat first | (with_reducible exact Below.refl _ _) | (with_reducible refine below_on ?_ _) | (with_reducible refine below_alloc ?_ _)
  have c0 : ((on ux).alloc (.cells #[.int .u8 k, .int .u8 l, .int .i64 c, .int .i64 f, .int .i64 t] 29)).cell? ⟨w.heap.size, 0, none⟩ = some (.int .u8 0) := by rw [hR.cell (p := ⟨w.heap.size, 0, none⟩) (by simp [World.size_alloc] <;> omega)]; simp [go_sem]
  have f0 : ((on ux).alloc (.cells #[.int .u8 k, .int .u8 l, .int .i64 c, .int .i64 f, .int .i64 t] 29)).frozen? ⟨w.heap.size, 0, none⟩ = false := by rw [hR.frozen (p := ⟨w.heap.size, 0, none⟩) (by simp [World.size_alloc] <;> omega)]; simp [go_sem]
  have c1 : ((on ux).alloc (.cells #[.int .u8 k, .int .u8 l, .int .i64 c, .int .i64 f, .int .i64 t] 29)).cell? ⟨w.heap.size, 1, none⟩ = some (.int .u8 0) := by rw [hR.cell (p := ⟨w.heap.size, 1, none⟩) (by simp [World.size_alloc] <;> omega)]; simp [go_sem]
  have f1 : ((on ux).alloc (.cells #[.int .u8 k, .int .u8 l, .int .i64 c, .int .i64 f, .int .i64 t] 29)).frozen? ⟨w.heap.size, 1, none⟩ = false := by rw [hR.frozen (p := ⟨w.heap.size, 1, none⟩) (by simp [World.size_alloc] <;> omega)]; simp [go_sem]
  have c2 : ((on ux).alloc (.cells #[.int .u8 k, .int .u8 l, .int .i64 c, .int .i64 f, .int .i64 t] 29)).cell? ⟨w.heap.size, 2, none⟩ = some (.int .i64 0) := by rw [hR.cell (p := ⟨w.heap.size, 2, none⟩) (by simp [World.size_alloc] <;> omega)]; simp [go_sem]
  have f2 : ((on ux).alloc (.cells #[.int .u8 k, .int .u8 l, .int .i64 c, .int .i64 f, .int .i64 t] 29)).frozen? ⟨w.heap.size, 2, none⟩ = false := by rw [hR.frozen (p := ⟨w.heap.size, 2, none⟩) (by simp [World.size_alloc] <;> omega)]; simp [go_sem]
  have c3 : ((on ux).alloc (.cells #[.int .u8 k, .int .u8 l, .int .i64 c, .int .i64 f, .int .i64 t] 29)).cell? ⟨w.heap.size, 3, none⟩ = some (.int .i64 0) := by rw [hR.cell (p := ⟨w.heap.size, 3, none⟩) (by simp [World.size_alloc] <;> omega)]; simp [go_sem]
  have f3 : ((on ux).alloc (.cells #[.int .u8 k, .int .u8 l, .int .i64 c, .int .i64 f, .int .i64 t] 29)).frozen? ⟨w.heap.size, 3, none⟩ = false := by rw [hR.frozen (p := ⟨w.heap.size, 3, none⟩) (by simp [World.size_alloc] <;> omega)]; simp [go_sem]
  have c4 : ((on ux).alloc (.cells #[.int .u8 k, .int .u8 l, .int .i64 c, .int .i64 f, .int .i64 t] 29)).cell? ⟨w.heap.size, 4, none⟩ = some (.int .i64 0) := by rw [hR.cell (p := ⟨w.heap.size, 4, none⟩) (by simp [World.size_alloc] <;> omega)]; simp [go_sem]
  have f4 : ((on ux).alloc (.cells #[.int .u8 k, .int .u8 l, .int .i64 c, .int .i64 f, .int .i64 t] 29)).frozen? ⟨w.heap.size, 4, none⟩ = false := by rw [hR.frozen (p := ⟨w.heap.size, 4, none⟩) (by simp [World.size_alloc] <;> omega)]; simp [go_sem]
  have c5 : ((on ux).alloc (.cells #[.int .u8 k, .int .u8 l, .int .i64 c, .int .i64 f, .int .i64 t] 29)).cell? ⟨(on ux).heap.size, 0, none⟩ = some (.int .u8 k) := by simp [go_sem]
  have f5 : ((on ux).alloc (.cells #[.int .u8 k, .int .u8 l, .int .i64 c, .int .i64 f, .int .i64 t] 29)).frozen? ⟨(on ux).heap.size, 0, none⟩ = false := by simp [go_sem]
  have c6 : ((on ux).alloc (.cells #[.int .u8 k, .int .u8 l, .int .i64 c, .int .i64 f, .int .i64 t] 29)).cell? ⟨(on ux).heap.size, 1, none⟩ = some (.int .u8 l) := by simp [go_sem]
  have f6 : ((on ux).alloc (.cells #[.int .u8 k, .int .u8 l, .int .i64 c, .int .i64 f, .int .i64 t] 29)).frozen? ⟨(on ux).heap.size, 1, none⟩ = false := by simp [go_sem]
  have c7 : ((on ux).alloc (.cells #[.int .u8 k, .int .u8 l, .int .i64 c, .int .i64 f, .int .i64 t] 29)).cell? ⟨(on ux).heap.size, 2, none⟩ = some (.int .i64 c) := by simp [go_sem]
  have f7 : ((on ux).alloc (.cells #[.int .u8 k, .int .u8 l, .int .i64 c, .int .i64 f, .int .i64 t] 29)).frozen? ⟨(on ux).heap.size, 2, none⟩ = false := by simp [go_sem]
  have c8 : ((on ux).alloc (.cells #[.int .u8 k, .int .u8 l, .int .i64 c, .int .i64 f, .int .i64 t] 29)).cell? ⟨(on ux).heap.size, 3, none⟩ = some (.int .i64 f) := by simp [go_sem]
  have f8 : ((on ux).alloc (.cells #[.int .u8 k, .int .u8 l, .int .i64 c, .int .i64 f, .int .i64 t] 29)).frozen? ⟨(on ux).heap.size, 3, none⟩ = false := by simp [go_sem]
  have c9 : ((on ux).alloc (.cells #[.int .u8 k, .int .u8 l, .int .i64 c, .int .i64 f, .int .i64 t] 29)).cell? ⟨(on ux).heap.size, 4, none⟩ = some (.int .i64 t) := by simp [go_sem]
  have f9 : ((on ux).alloc (.cells #[.int .u8 k, .int .u8 l, .int .i64 c, .int .i64 f, .int .i64 t] 29)).frozen? ⟨(on ux).heap.size, 4, none⟩ = false := by simp [go_sem]
  have hZ : Below (w.alloc (.cells #[.int .u8 0, .int .u8 0, .int .i64 0, .int .i64 0, .int .i64 0] 29)).heap.size (w.alloc (.cells #[.int .u8 0, .int .u8 0, .int .i64 0, .int .i64 0, .int .i64 0] 29)) (on ux) := by repeat first | (with_reducible exact Below.refl _ _) | (with_reducible refine below_on ?_ _) | (with_reducible refine below_alloc ?_ _)
  have z0 : w.heap.size < (on ux).heap.size := Nat.lt_of_lt_of_le (show w.heap.size < (w.alloc (.cells #[.int .u8 0, .int .u8 0, .int .i64 0, .int .i64 0, .int .i64 0] 29)).heap.size by simp [World.size_alloc] <;> omega) hZ.size
  clear hZ
  have hB : Below w.heap.size w ((on ux).alloc (.cells #[.int .u8 k, .int .u8 l, .int .i64 c, .int .i64 f, .int .i64 t] 29)) := by repeat first | (with_reducible exact Below.refl _ _) | (with_reducible refine below_on ?_ _) | (with_reducible refine below_alloc ?_ _)
  clear hR
  generalize ((on ux).alloc (.cells #[.int .u8 k, .int .u8 l, .int .i64 c, .int .i64 f, .int .i64 t] 29)) = Wn at *
  generalize (on ux).heap.size = Bn at *
  clear ux
  go_wp2_with (first | (go_at_call 29; (with_reducible refine (stext_ok k l c f t _ (hS' _ (by repeat first | (with_reducible exact hB) | (with_reducible refine below_on ?_ _) | (with_reducible refine below_alloc ?_ _) | (with_reducible refine below_set ?_ (by simp; try omega) _))).tab a1 a2 b1 b2 b3 b4 e1 e2 e3).mono ?_); rintro e wx ⟨rfl, hx⟩; obtain ⟨ux, rfl⟩ := after hx; clear hx) | fail)
  exact bodyPost_ret (v := .tuple #[sg 0 0 0 0 0, .int .i64 4]) (by simp [results, Tryz.results28, go_sem, c0, c1, c2, c3, c4]) rfl ⟨rfl, (by repeat first | (with_reducible exact hB) | (with_reducible refine below_on ?_ _) | (with_reducible refine below_alloc ?_ _) | (with_reducible refine below_set ?_ (by simp; try omega) _))⟩

set_option maxRecDepth 100000 in
set_option maxHeartbeats 4000000 in
theorem sparse_bad (s : ByteArray) (k l c f t : Int) (w : World) (hS : Std w) (RD : ∀ w, Std w → Calls Tryz.prog 55 #[.string s] w fun e w' => e = .returned (sg k l c f t) ∧ Below w.heap.size w w') (h : k < 1 ∨ 3 < k ∨ l < 1 ∨ 4 < l ∨ c < -4096 ∨ 4096 < c ∨ t ≤ f ∨ f < -4096 ∨ 4096 < t) : Calls Tryz.prog 28 #[.string s] w fun e w' => e = .returned (.tuple #[sg 0 0 0 0 0, .int .i64 4]) ∧ Below w.heap.size w w' := by
  have hS' : ∀ W, Below w.heap.size w W → Std W := fun W h => std_below hS h
  have H : Hid (k < 1 ∨ 3 < k ∨ l < 1 ∨ 4 < l ∨ c < -4096 ∨ 4096 < c ∨ t ≤ f ∨ f < -4096 ∨ 4096 < t) := h
  clear h
  go_enter Tryz.func28, Tryz.ntmps28
  go_wp2_with (first | (go_at_call 55; (with_reducible refine (RD _ (hS' _ (by repeat first | (with_reducible exact Below.refl _ _) | (with_reducible refine below_on ?_ _) | (with_reducible refine below_alloc ?_ _) | (with_reducible refine below_set ?_ (by simp; try omega) _)))).mono ?_); rintro e wx ⟨rfl, hx⟩; obtain ⟨ux, rfl⟩ := after hx; clear hx) | fail)
  have hR : Below (w.alloc (.cells #[.int .u8 0, .int .u8 0, .int .i64 0, .int .i64 0, .int .i64 0] 29)).heap.size (w.alloc (.cells #[.int .u8 0, .int .u8 0, .int .i64 0, .int .i64 0, .int .i64 0] 29)) ((on ux).alloc (.cells #[.int .u8 k, .int .u8 l, .int .i64 c, .int .i64 f, .int .i64 t] 29)) := by repeat first | (with_reducible exact Below.refl _ _) | (with_reducible refine below_on ?_ _) | (with_reducible refine below_alloc ?_ _)
  have c0 : ((on ux).alloc (.cells #[.int .u8 k, .int .u8 l, .int .i64 c, .int .i64 f, .int .i64 t] 29)).cell? ⟨w.heap.size, 0, none⟩ = some (.int .u8 0) := by rw [hR.cell (p := ⟨w.heap.size, 0, none⟩) (by simp [World.size_alloc] <;> omega)]; simp [go_sem]
  have f0 : ((on ux).alloc (.cells #[.int .u8 k, .int .u8 l, .int .i64 c, .int .i64 f, .int .i64 t] 29)).frozen? ⟨w.heap.size, 0, none⟩ = false := by rw [hR.frozen (p := ⟨w.heap.size, 0, none⟩) (by simp [World.size_alloc] <;> omega)]; simp [go_sem]
  have c1 : ((on ux).alloc (.cells #[.int .u8 k, .int .u8 l, .int .i64 c, .int .i64 f, .int .i64 t] 29)).cell? ⟨w.heap.size, 1, none⟩ = some (.int .u8 0) := by rw [hR.cell (p := ⟨w.heap.size, 1, none⟩) (by simp [World.size_alloc] <;> omega)]; simp [go_sem]
  have f1 : ((on ux).alloc (.cells #[.int .u8 k, .int .u8 l, .int .i64 c, .int .i64 f, .int .i64 t] 29)).frozen? ⟨w.heap.size, 1, none⟩ = false := by rw [hR.frozen (p := ⟨w.heap.size, 1, none⟩) (by simp [World.size_alloc] <;> omega)]; simp [go_sem]
  have c2 : ((on ux).alloc (.cells #[.int .u8 k, .int .u8 l, .int .i64 c, .int .i64 f, .int .i64 t] 29)).cell? ⟨w.heap.size, 2, none⟩ = some (.int .i64 0) := by rw [hR.cell (p := ⟨w.heap.size, 2, none⟩) (by simp [World.size_alloc] <;> omega)]; simp [go_sem]
  have f2 : ((on ux).alloc (.cells #[.int .u8 k, .int .u8 l, .int .i64 c, .int .i64 f, .int .i64 t] 29)).frozen? ⟨w.heap.size, 2, none⟩ = false := by rw [hR.frozen (p := ⟨w.heap.size, 2, none⟩) (by simp [World.size_alloc] <;> omega)]; simp [go_sem]
  have c3 : ((on ux).alloc (.cells #[.int .u8 k, .int .u8 l, .int .i64 c, .int .i64 f, .int .i64 t] 29)).cell? ⟨w.heap.size, 3, none⟩ = some (.int .i64 0) := by rw [hR.cell (p := ⟨w.heap.size, 3, none⟩) (by simp [World.size_alloc] <;> omega)]; simp [go_sem]
  have f3 : ((on ux).alloc (.cells #[.int .u8 k, .int .u8 l, .int .i64 c, .int .i64 f, .int .i64 t] 29)).frozen? ⟨w.heap.size, 3, none⟩ = false := by rw [hR.frozen (p := ⟨w.heap.size, 3, none⟩) (by simp [World.size_alloc] <;> omega)]; simp [go_sem]
  have c4 : ((on ux).alloc (.cells #[.int .u8 k, .int .u8 l, .int .i64 c, .int .i64 f, .int .i64 t] 29)).cell? ⟨w.heap.size, 4, none⟩ = some (.int .i64 0) := by rw [hR.cell (p := ⟨w.heap.size, 4, none⟩) (by simp [World.size_alloc] <;> omega)]; simp [go_sem]
  have f4 : ((on ux).alloc (.cells #[.int .u8 k, .int .u8 l, .int .i64 c, .int .i64 f, .int .i64 t] 29)).frozen? ⟨w.heap.size, 4, none⟩ = false := by rw [hR.frozen (p := ⟨w.heap.size, 4, none⟩) (by simp [World.size_alloc] <;> omega)]; simp [go_sem]
  have c5 : ((on ux).alloc (.cells #[.int .u8 k, .int .u8 l, .int .i64 c, .int .i64 f, .int .i64 t] 29)).cell? ⟨(on ux).heap.size, 0, none⟩ = some (.int .u8 k) := by simp [go_sem]
  have f5 : ((on ux).alloc (.cells #[.int .u8 k, .int .u8 l, .int .i64 c, .int .i64 f, .int .i64 t] 29)).frozen? ⟨(on ux).heap.size, 0, none⟩ = false := by simp [go_sem]
  have c6 : ((on ux).alloc (.cells #[.int .u8 k, .int .u8 l, .int .i64 c, .int .i64 f, .int .i64 t] 29)).cell? ⟨(on ux).heap.size, 1, none⟩ = some (.int .u8 l) := by simp [go_sem]
  have f6 : ((on ux).alloc (.cells #[.int .u8 k, .int .u8 l, .int .i64 c, .int .i64 f, .int .i64 t] 29)).frozen? ⟨(on ux).heap.size, 1, none⟩ = false := by simp [go_sem]
  have c7 : ((on ux).alloc (.cells #[.int .u8 k, .int .u8 l, .int .i64 c, .int .i64 f, .int .i64 t] 29)).cell? ⟨(on ux).heap.size, 2, none⟩ = some (.int .i64 c) := by simp [go_sem]
  have f7 : ((on ux).alloc (.cells #[.int .u8 k, .int .u8 l, .int .i64 c, .int .i64 f, .int .i64 t] 29)).frozen? ⟨(on ux).heap.size, 2, none⟩ = false := by simp [go_sem]
  have c8 : ((on ux).alloc (.cells #[.int .u8 k, .int .u8 l, .int .i64 c, .int .i64 f, .int .i64 t] 29)).cell? ⟨(on ux).heap.size, 3, none⟩ = some (.int .i64 f) := by simp [go_sem]
  have f8 : ((on ux).alloc (.cells #[.int .u8 k, .int .u8 l, .int .i64 c, .int .i64 f, .int .i64 t] 29)).frozen? ⟨(on ux).heap.size, 3, none⟩ = false := by simp [go_sem]
  have c9 : ((on ux).alloc (.cells #[.int .u8 k, .int .u8 l, .int .i64 c, .int .i64 f, .int .i64 t] 29)).cell? ⟨(on ux).heap.size, 4, none⟩ = some (.int .i64 t) := by simp [go_sem]
  have f9 : ((on ux).alloc (.cells #[.int .u8 k, .int .u8 l, .int .i64 c, .int .i64 f, .int .i64 t] 29)).frozen? ⟨(on ux).heap.size, 4, none⟩ = false := by simp [go_sem]
  have hZ : Below (w.alloc (.cells #[.int .u8 0, .int .u8 0, .int .i64 0, .int .i64 0, .int .i64 0] 29)).heap.size (w.alloc (.cells #[.int .u8 0, .int .u8 0, .int .i64 0, .int .i64 0, .int .i64 0] 29)) (on ux) := by repeat first | (with_reducible exact Below.refl _ _) | (with_reducible refine below_on ?_ _) | (with_reducible refine below_alloc ?_ _)
  have z0 : w.heap.size < (on ux).heap.size := Nat.lt_of_lt_of_le (show w.heap.size < (w.alloc (.cells #[.int .u8 0, .int .u8 0, .int .i64 0, .int .i64 0, .int .i64 0] 29)).heap.size by simp [World.size_alloc] <;> omega) hZ.size
  clear hZ
  have hB : Below w.heap.size w ((on ux).alloc (.cells #[.int .u8 k, .int .u8 l, .int .i64 c, .int .i64 f, .int .i64 t] 29)) := by repeat first | (with_reducible exact Below.refl _ _) | (with_reducible refine below_on ?_ _) | (with_reducible refine below_alloc ?_ _)
  clear hR
  generalize ((on ux).alloc (.cells #[.int .u8 k, .int .u8 l, .int .i64 c, .int .i64 f, .int .i64 t] 29)) = Wn at *
  generalize (on ux).heap.size = Bn at *
  clear ux
  go_wp2_with (first | (go_at_call 29; (with_reducible refine (stext_bad k l c f t _ H.out).mono ?_); rintro e wx ⟨rfl, hx⟩; obtain ⟨ux, rfl⟩ := after hx; clear hx) | fail)
  exact bodyPost_ret (v := .tuple #[sg 0 0 0 0 0, .int .i64 4]) (by simp [results, Tryz.results28, go_sem, c0, c1, c2, c3, c4]) rfl ⟨rfl, (by repeat first | (with_reducible exact hB) | (with_reducible refine below_on ?_ _) | (with_reducible refine below_alloc ?_ _) | (with_reducible refine below_set ?_ (by simp; try omega) _))⟩

theorem index_det (p : List UInt8) (W : World) (hS : Std W) : Calls Tryz.prog 80 #[.string ⟨#[109, 118, 97]⟩, .string ⟨p.toArray⟩] W fun e w' => e = .returned (.int .i64 (Lib.index [109, 118, 97] p)) ∧ Below W.heap.size W w' := by
  obtain ⟨m, hm⟩ := hS.ml
  refine (Tryz.strings_Index ⟨#[109, 118, 97]⟩ ⟨p.toArray⟩ m W (by decide) hm).mono fun e w' ⟨h1, h2⟩ => ⟨?_, by rw [h2]; exact Below.refl _ _⟩
  rw [h1]
theorem letS_no32 (k : Int) : ∀ b ∈ [letS k], b ≠ 32 := by
  intro b hb
  rw [List.mem_singleton.1 hb]
  unfold letS
  split
  · decide
  · split <;> decide
theorem letter_no32 (l : Int) : ∀ b ∈ [letter l], b ≠ 32 := by
  intro b hb
  rw [List.mem_singleton.1 hb]
  unfold letter
  split
  · decide
  · split
    · decide
    · split <;> decide
theorem index_let (k : Int) (a1 : 1 ≤ k) (a2 : k ≤ 3) : Lib.index [109, 118, 97] [letS k] = k - 1 := by
  obtain rfl | rfl | rfl : k = 1 ∨ k = 2 ∨ k = 3 := by omega
  · decide +kernel
  · decide +kernel
  · decide +kernel
theorem sparse_text (k l c f t : Int) (w : World) (hS : Std w) (a1 : 1 ≤ k) (a2 : k ≤ 3) (b1 : 1 ≤ l) (b2 : l ≤ 4) (b3 : -4096 ≤ c) (b4 : c ≤ 4096) (e1 : f < t) (e2 : -4096 ≤ f) (e3 : t ≤ 4096) : Calls Tryz.prog 28 #[.string ⟨(textS k l c f t).toArray⟩] w fun e w' => e = .returned (.tuple #[sg k l c f t, .int .i64 0]) ∧ Below w.heap.size w w' := by
  have l1 := itoa_len c (by omega) (by omega)
  have l2 := itoa_len f (by omega) (by omega)
  have l3 := itoa_len t (by omega) (by omega)
  have hf : textS k l c f t = [letS k] ++ 32 :: ([letter l] ++ 32 :: (Lib.itoa c ++ 32 :: (Lib.itoa f ++ 32 :: Lib.itoa t))) := by
    unfold textS textL; simp
  have hz : (ByteArray.mk (textS k l c f t).toArray).size = 5 + (Lib.itoa c).length + (Lib.itoa f).length + (Lib.itoa t).length + 1 := by
    show (textS k l c f t).toArray.size = _
    rw [hf]; simp; omega
  refine sparse_ok _ k l c f t w hS (fun w hS => ?_) a1 a2 b1 b2 b3 b4 e1 e2 e3 (by rw [toList_mk]; simp)
  have PP : ∀ W, Std W → Calls Tryz.prog 78 #[.string ⟨([letter l] ++ [32] ++ Lib.itoa c).toArray⟩] W fun e w' => e = .returned (.tuple #[ln l c, .int .i64 0]) ∧ Below W.heap.size W w' := fun W hW => parse_text l c W hW.tab b1 b2 b3 b4
  have A : ∀ n : Int, -4096 ≤ n → n ≤ 4096 → ∀ W, Std W → Calls Tryz.prog 79 #[.string ⟨(Lib.itoa n).toArray⟩] W fun e w' => ∃ er, e = .returned (.tuple #[.int .i64 n, er]) ∧ Below W.heap.size W w' := fun n q1 q2 W hW => by
    have hl := itoa_len n (by omega) (by omega)
    have := atoi_gen ⟨(Lib.itoa n).toArray⟩ W hW (by show (Lib.itoa n).toArray.size ≤ _; simp; omega)
    unfold AtE at this
    rwa [show atv (ByteArray.mk (Lib.itoa n).toArray).data.toList = n from atv_itoa n (by omega) (by omega)] at this
  have := read_5 ⟨(textS k l c f t).toArray⟩ [letS k] [letter l] (Lib.itoa c) (Lib.itoa f) (Lib.itoa t) l c 0 f t (k - 1) w hS (by omega) (by
    rw [show min 5 ((ByteArray.mk (textS k l c f t).toArray).size + 1) - 1 = 4 by omega, hf]
    exact split_text5 _ _ _ _ _ (letS_no32 k) (letter_no32 l) (itoa_no32 c) (itoa_no32 f)) (by simp) (by omega) (by omega) (by omega) PP (A f (by omega) (by omega)) (A t (by omega) (by omega)) (fun W hW => by
      have := index_det [letS k] W hW
      rwa [index_let k a1 a2] at this)
  rwa [show k - 1 + 1 = k by omega] at this

end Go.Proofs.YtkmmnlhmfiabfaaGreatDoor
