/-
  Says: what read of package moves gives.
-/
import Derived.Test.YtppjogagimflpaaGreatDoorMv8
import Derived.Test.YtppjogagimflpaaGreatDoorMv4
import Derived.Test.YtppjogagimflpaaGreatDoorMvz
import Derived.Deep.RegionHeld3
import Derived.RowKit3
import Derived.Laws.Rows
import Derived.Lib.CutLaws
set_option linter.unusedVariables false
set_option linter.unusedSimpArgs false
namespace Go.Proofs.YtppjogagimflpaaGreatDoor
open Go Go.RowKit

attribute [local go_sem] World.cell?_alloc_some frozen?_alloc_cells fz0 fz1 fz2 fz3 fz4 fz5

theorem cells_some (w : World) (ps : List ByteArray) (N : Nat) (T : TypeId) (i : Nat) (p : ByteArray) (h : ps[i]? = some p) : (w.alloc (.cells (Lib.cellsOf ps N) T)).cell? ⟨w.heap.size, i, none⟩ = some (.string p) := by
  have e : (w.alloc (.cells (Lib.cellsOf ps N) T)).heap[w.heap.size]? = some (.cells (Lib.cellsOf ps N) T) := heap_alloc_new _ _
  rw [held_cell e]
  obtain ⟨hl, hh⟩ := List.getElem?_eq_some_iff.1 h
  unfold Lib.cellsOf
  simp [List.getElem?_append, hl, List.getElem?_map, hh]

set_option maxRecDepth 100000 in
set_option maxHeartbeats 2000000 in
theorem read_1 (s p0 : ByteArray) (w : World) (hS : Std w) (hl : s.size < 4294967281) (hp : Lib.splitB ⟨#[32]⟩ 0 (min 3 (s.size + 1) - 1) s = [p0]) (q0 : p0.size ≤ 281474976710656) :
    Calls Tryz.prog 55 #[.string s] w fun e w' => e = .returned (mv (atv p0.data.toList % 256) (0) (0)) ∧ Below w.heap.size w w' := by
  have hS' : ∀ W, Below w.heap.size w W → Std W := fun W h => std_below hS h
  have SP : ∀ W, Std W → Calls Tryz.prog 61 #[.string s, .string ⟨#[32]⟩, .int .i64 3] W fun e w' => e = .returned (.slice (some ⟨W.heap.size, 0, none⟩) 1 (min 3 (s.size + 1))) ∧ w' = W.alloc (.cells (Lib.cellsOf [p0] (min 3 (s.size + 1))) 9) := fun W h => by
    obtain ⟨m, hm⟩ := h.ml
    have := Tryz.strings_SplitN s ⟨#[32]⟩ 3 m W hl hm (by decide) (by decide) (by decide)
    rw [hp] at this
    exact this
  have hN : ∃ N, N = min 3 (s.size + 1) := ⟨_, rfl⟩
  obtain ⟨N, hN⟩ := hN
  rw [← hN] at SP
  have hN1 : 1 ≤ N := by omega
  clear hN hp hl
  go_enter Tryz.func55, Tryz.ntmps55
  go_wp2_with (first | (go_at_call 61; with_reducible refine (SP _ (hS' _ (by repeat first | (with_reducible exact Below.refl _ _) | (with_reducible refine below_on ?_ _) | (with_reducible refine below_alloc ?_ _) | (with_reducible refine below_set ?_ (by simp; try omega) _)))).mono ?_; rintro e wx ⟨rfl, rfl⟩) | fail)
  clear SP
  have R0 : (w.alloc (.cells #[.int .u8 0, .int .i64 0, .int .i64 0] 36)).cell? ⟨w.heap.size, 0, none⟩ = some (.int .u8 0) := by simp [go_sem]
  have F0 : (w.alloc (.cells #[.int .u8 0, .int .i64 0, .int .i64 0] 36)).frozen? ⟨w.heap.size, 0, none⟩ = false := by simp [go_sem]
  have R1 : (w.alloc (.cells #[.int .u8 0, .int .i64 0, .int .i64 0] 36)).cell? ⟨w.heap.size, 1, none⟩ = some (.int .i64 0) := by simp [go_sem]
  have F1 : (w.alloc (.cells #[.int .u8 0, .int .i64 0, .int .i64 0] 36)).frozen? ⟨w.heap.size, 1, none⟩ = false := by simp [go_sem]
  have R2 : (w.alloc (.cells #[.int .u8 0, .int .i64 0, .int .i64 0] 36)).cell? ⟨w.heap.size, 2, none⟩ = some (.int .i64 0) := by simp [go_sem]
  have F2 : (w.alloc (.cells #[.int .u8 0, .int .i64 0, .int .i64 0] 36)).frozen? ⟨w.heap.size, 2, none⟩ = false := by simp [go_sem]
  have S0 : (((w.alloc (.cells #[.int .u8 0, .int .i64 0, .int .i64 0] 36)).alloc (.cells #[.int .i64 0, .int .i64 0, .int .i64 0] 106)).alloc (.cells (Lib.cellsOf [p0] N) 9)).cell? ⟨w.heap.size + 1 + 1, 0, none⟩ = some (.string p0) := by
    have := cells_some ((w.alloc (.cells #[.int .u8 0, .int .i64 0, .int .i64 0] 36)).alloc (.cells #[.int .i64 0, .int .i64 0, .int .i64 0] 106)) [p0] N 9 0 p0 rfl
    simpa [World.size_alloc] using this
  have A0 : (((w.alloc (.cells #[.int .u8 0, .int .i64 0, .int .i64 0] 36)).alloc (.cells #[.int .i64 0, .int .i64 0, .int .i64 0] 106)).alloc (.cells (Lib.cellsOf [p0] N) 9)).heap[w.heap.size + 1]? = some (.cells #[.int .i64 0, .int .i64 0, .int .i64 0] 106) := by
    rw [heap_alloc_old _ _ (by simp [World.size_alloc])]
    have e : (w.alloc (.cells #[.int .u8 0, .int .i64 0, .int .i64 0] 36)).heap.size = w.heap.size + 1 := World.size_alloc _ _
    rw [← e]; exact heap_alloc_new _ _
  have hB2 : Below (w.alloc (.cells #[.int .u8 0, .int .i64 0, .int .i64 0] 36)).heap.size (w.alloc (.cells #[.int .u8 0, .int .i64 0, .int .i64 0] 36)) (((w.alloc (.cells #[.int .u8 0, .int .i64 0, .int .i64 0] 36)).alloc (.cells #[.int .i64 0, .int .i64 0, .int .i64 0] 106)).alloc (.cells (Lib.cellsOf [p0] N) 9)) := below_alloc (below_alloc (Below.refl _ _) _) _
  have hz : (w.alloc (.cells #[.int .u8 0, .int .i64 0, .int .i64 0] 36)).heap.size = w.heap.size + 1 := World.size_alloc _ _
  have hB1 : Below w.heap.size w (w.alloc (.cells #[.int .u8 0, .int .i64 0, .int .i64 0] 36)) := (by repeat first | (with_reducible exact Below.refl _ _) | (with_reducible refine below_on ?_ _) | (with_reducible refine below_alloc ?_ _) | (with_reducible refine below_set ?_ (by simp; try omega) _))
  generalize (((w.alloc (.cells #[.int .u8 0, .int .i64 0, .int .i64 0] 36)).alloc (.cells #[.int .i64 0, .int .i64 0, .int .i64 0] 106)).alloc (.cells (Lib.cellsOf [p0] N) 9)) = Wc at *
  generalize (w.alloc (.cells #[.int .u8 0, .int .i64 0, .int .i64 0] 36)) = W2 at *
  go_loopw [9] (fun iv wr => ∃ i v0 v1 v2 : Int, iv = .int .i64 i ∧ ((i = 0 ∧ v0 = 0 ∧ v1 = 0 ∧ v2 = 0) ∨ (i = 1 ∧ v0 = atv p0.data.toList ∧ v1 = 0 ∧ v2 = 0)) ∧ ∃ u : Later W2, wr = on u ∧ (on u).heap[w.heap.size + 1]? = some (.cells #[.int .i64 v0, .int .i64 v1, .int .i64 v2] 106) ∧ (on u).cell? ⟨w.heap.size + 1 + 1, 0, none⟩ = some (.string p0)) (fun iv _ => (1 - intOf iv).toNat)
  case atStart => exact ⟨0, 0, 0, 0, rfl, .inl ⟨rfl, rfl, rfl, rfl⟩, ⟨Wc, hB2⟩, rfl, A0, S0⟩
  case round =>
    obtain ⟨i, v0, v1, v2, rfl, hv, u0, rfl, hh, s0⟩ := hrel
    have a0 : (on u0).cell? ⟨w.heap.size + 1, 0, none⟩ = some (.int .i64 v0) := held_cell hh 0
    have a1 : (on u0).cell? ⟨w.heap.size + 1, 1, none⟩ = some (.int .i64 v1) := held_cell hh 1
    have a2 : (on u0).cell? ⟨w.heap.size + 1, 2, none⟩ = some (.int .i64 v2) := held_cell hh 2
    have g0 : (on u0).frozen? ⟨w.heap.size + 1, 0, none⟩ = false := held_free hh 0
    have g1 : (on u0).frozen? ⟨w.heap.size + 1, 1, none⟩ = false := held_free hh 1
    have g2 : (on u0).frozen? ⟨w.heap.size + 1, 2, none⟩ = false := held_free hh 2
    have hq : Below w.heap.size w (on u0) := below_on hB1 u0
    obtain ⟨rfl, rfl, rfl, rfl⟩ | ⟨rfl, rfl, rfl, rfl⟩ := hv
    · go_wp2_with (first | (go_at_call 62; (with_reducible refine (atoi_gen p0 _ (hS' _ hq) q0).mono ?_); rintro e wx ⟨er, rfl, hx⟩; obtain ⟨ux, rfl⟩ := after hx; clear hx) | fail)
      refine ⟨⟨0 + 1, atv p0.data.toList, 0, 0, rfl, .inr (⟨rfl, rfl, rfl, rfl⟩), ⟨_, (u0.b.trans (ux.b.mono u0.b.size)).setCell (p := ⟨w.heap.size + 1, 0, none⟩) (by show W2.heap.size ≤ w.heap.size + 1; omega) _⟩, rfl, held_set (held_on ux hh) 0 _, (World.cell?_setCell_far _ _ _ _ (by show w.heap.size + 1 ≠ w.heap.size + 1 + 1; omega)).trans ((ux.b.cell (World.block_lt_of_cell? _ _ s0)).trans s0)⟩, by simp [intOf]⟩
    · go_wp2_with fail
      have bw := hq
      exact bodyPost_ret (v := mv (atv p0.data.toList % 256) (0) (0)) (by simp [results, Tryz.results55, go_sem, R0, R1, R2]) rfl ⟨rfl, (by repeat first | (with_reducible exact bw) | (with_reducible refine below_on ?_ _) | (with_reducible refine below_alloc ?_ _) | (with_reducible refine below_set ?_ (by simp; try omega) _))⟩

set_option maxRecDepth 100000 in
set_option maxHeartbeats 2000000 in
theorem read_2 (s p0 p1 : ByteArray) (w : World) (hS : Std w) (hl : s.size < 4294967281) (hp : Lib.splitB ⟨#[32]⟩ 0 (min 3 (s.size + 1) - 1) s = [p0, p1]) (q0 : p0.size ≤ 281474976710656) (q1 : p1.size ≤ 281474976710656) :
    Calls Tryz.prog 55 #[.string s] w fun e w' => e = .returned (mv (atv p0.data.toList % 256) (atv p1.data.toList) (0)) ∧ Below w.heap.size w w' := by
  have hS' : ∀ W, Below w.heap.size w W → Std W := fun W h => std_below hS h
  have SP : ∀ W, Std W → Calls Tryz.prog 61 #[.string s, .string ⟨#[32]⟩, .int .i64 3] W fun e w' => e = .returned (.slice (some ⟨W.heap.size, 0, none⟩) 2 (min 3 (s.size + 1))) ∧ w' = W.alloc (.cells (Lib.cellsOf [p0, p1] (min 3 (s.size + 1))) 9) := fun W h => by
    obtain ⟨m, hm⟩ := h.ml
    have := Tryz.strings_SplitN s ⟨#[32]⟩ 3 m W hl hm (by decide) (by decide) (by decide)
    rw [hp] at this
    exact this
  have hN : ∃ N, N = min 3 (s.size + 1) := ⟨_, rfl⟩
  obtain ⟨N, hN⟩ := hN
  rw [← hN] at SP
  have hN1 : 1 ≤ N := by omega
  clear hN hp hl
  go_enter Tryz.func55, Tryz.ntmps55
  go_wp2_with (first | (go_at_call 61; with_reducible refine (SP _ (hS' _ (by repeat first | (with_reducible exact Below.refl _ _) | (with_reducible refine below_on ?_ _) | (with_reducible refine below_alloc ?_ _) | (with_reducible refine below_set ?_ (by simp; try omega) _)))).mono ?_; rintro e wx ⟨rfl, rfl⟩) | fail)
  clear SP
  have R0 : (w.alloc (.cells #[.int .u8 0, .int .i64 0, .int .i64 0] 36)).cell? ⟨w.heap.size, 0, none⟩ = some (.int .u8 0) := by simp [go_sem]
  have F0 : (w.alloc (.cells #[.int .u8 0, .int .i64 0, .int .i64 0] 36)).frozen? ⟨w.heap.size, 0, none⟩ = false := by simp [go_sem]
  have R1 : (w.alloc (.cells #[.int .u8 0, .int .i64 0, .int .i64 0] 36)).cell? ⟨w.heap.size, 1, none⟩ = some (.int .i64 0) := by simp [go_sem]
  have F1 : (w.alloc (.cells #[.int .u8 0, .int .i64 0, .int .i64 0] 36)).frozen? ⟨w.heap.size, 1, none⟩ = false := by simp [go_sem]
  have R2 : (w.alloc (.cells #[.int .u8 0, .int .i64 0, .int .i64 0] 36)).cell? ⟨w.heap.size, 2, none⟩ = some (.int .i64 0) := by simp [go_sem]
  have F2 : (w.alloc (.cells #[.int .u8 0, .int .i64 0, .int .i64 0] 36)).frozen? ⟨w.heap.size, 2, none⟩ = false := by simp [go_sem]
  have S0 : (((w.alloc (.cells #[.int .u8 0, .int .i64 0, .int .i64 0] 36)).alloc (.cells #[.int .i64 0, .int .i64 0, .int .i64 0] 106)).alloc (.cells (Lib.cellsOf [p0, p1] N) 9)).cell? ⟨w.heap.size + 1 + 1, 0, none⟩ = some (.string p0) := by
    have := cells_some ((w.alloc (.cells #[.int .u8 0, .int .i64 0, .int .i64 0] 36)).alloc (.cells #[.int .i64 0, .int .i64 0, .int .i64 0] 106)) [p0, p1] N 9 0 p0 rfl
    simpa [World.size_alloc] using this
  have S1 : (((w.alloc (.cells #[.int .u8 0, .int .i64 0, .int .i64 0] 36)).alloc (.cells #[.int .i64 0, .int .i64 0, .int .i64 0] 106)).alloc (.cells (Lib.cellsOf [p0, p1] N) 9)).cell? ⟨w.heap.size + 1 + 1, 1, none⟩ = some (.string p1) := by
    have := cells_some ((w.alloc (.cells #[.int .u8 0, .int .i64 0, .int .i64 0] 36)).alloc (.cells #[.int .i64 0, .int .i64 0, .int .i64 0] 106)) [p0, p1] N 9 1 p1 rfl
    simpa [World.size_alloc] using this
  have A0 : (((w.alloc (.cells #[.int .u8 0, .int .i64 0, .int .i64 0] 36)).alloc (.cells #[.int .i64 0, .int .i64 0, .int .i64 0] 106)).alloc (.cells (Lib.cellsOf [p0, p1] N) 9)).heap[w.heap.size + 1]? = some (.cells #[.int .i64 0, .int .i64 0, .int .i64 0] 106) := by
    rw [heap_alloc_old _ _ (by simp [World.size_alloc])]
    have e : (w.alloc (.cells #[.int .u8 0, .int .i64 0, .int .i64 0] 36)).heap.size = w.heap.size + 1 := World.size_alloc _ _
    rw [← e]; exact heap_alloc_new _ _
  have hB2 : Below (w.alloc (.cells #[.int .u8 0, .int .i64 0, .int .i64 0] 36)).heap.size (w.alloc (.cells #[.int .u8 0, .int .i64 0, .int .i64 0] 36)) (((w.alloc (.cells #[.int .u8 0, .int .i64 0, .int .i64 0] 36)).alloc (.cells #[.int .i64 0, .int .i64 0, .int .i64 0] 106)).alloc (.cells (Lib.cellsOf [p0, p1] N) 9)) := below_alloc (below_alloc (Below.refl _ _) _) _
  have hz : (w.alloc (.cells #[.int .u8 0, .int .i64 0, .int .i64 0] 36)).heap.size = w.heap.size + 1 := World.size_alloc _ _
  have hB1 : Below w.heap.size w (w.alloc (.cells #[.int .u8 0, .int .i64 0, .int .i64 0] 36)) := (by repeat first | (with_reducible exact Below.refl _ _) | (with_reducible refine below_on ?_ _) | (with_reducible refine below_alloc ?_ _) | (with_reducible refine below_set ?_ (by simp; try omega) _))
  generalize (((w.alloc (.cells #[.int .u8 0, .int .i64 0, .int .i64 0] 36)).alloc (.cells #[.int .i64 0, .int .i64 0, .int .i64 0] 106)).alloc (.cells (Lib.cellsOf [p0, p1] N) 9)) = Wc at *
  generalize (w.alloc (.cells #[.int .u8 0, .int .i64 0, .int .i64 0] 36)) = W2 at *
  go_loopw [9] (fun iv wr => ∃ i v0 v1 v2 : Int, iv = .int .i64 i ∧ ((i = 0 ∧ v0 = 0 ∧ v1 = 0 ∧ v2 = 0) ∨ (i = 1 ∧ v0 = atv p0.data.toList ∧ v1 = 0 ∧ v2 = 0) ∨ (i = 2 ∧ v0 = atv p0.data.toList ∧ v1 = atv p1.data.toList ∧ v2 = 0)) ∧ ∃ u : Later W2, wr = on u ∧ (on u).heap[w.heap.size + 1]? = some (.cells #[.int .i64 v0, .int .i64 v1, .int .i64 v2] 106) ∧ (on u).cell? ⟨w.heap.size + 1 + 1, 0, none⟩ = some (.string p0) ∧ (on u).cell? ⟨w.heap.size + 1 + 1, 1, none⟩ = some (.string p1)) (fun iv _ => (2 - intOf iv).toNat)
  case atStart => exact ⟨0, 0, 0, 0, rfl, .inl ⟨rfl, rfl, rfl, rfl⟩, ⟨Wc, hB2⟩, rfl, A0, S0, S1⟩
  case round =>
    obtain ⟨i, v0, v1, v2, rfl, hv, u0, rfl, hh, s0, s1⟩ := hrel
    have a0 : (on u0).cell? ⟨w.heap.size + 1, 0, none⟩ = some (.int .i64 v0) := held_cell hh 0
    have a1 : (on u0).cell? ⟨w.heap.size + 1, 1, none⟩ = some (.int .i64 v1) := held_cell hh 1
    have a2 : (on u0).cell? ⟨w.heap.size + 1, 2, none⟩ = some (.int .i64 v2) := held_cell hh 2
    have g0 : (on u0).frozen? ⟨w.heap.size + 1, 0, none⟩ = false := held_free hh 0
    have g1 : (on u0).frozen? ⟨w.heap.size + 1, 1, none⟩ = false := held_free hh 1
    have g2 : (on u0).frozen? ⟨w.heap.size + 1, 2, none⟩ = false := held_free hh 2
    have hq : Below w.heap.size w (on u0) := below_on hB1 u0
    obtain ⟨rfl, rfl, rfl, rfl⟩ | ⟨rfl, rfl, rfl, rfl⟩ | ⟨rfl, rfl, rfl, rfl⟩ := hv
    · go_wp2_with (first | (go_at_call 62; (with_reducible refine (atoi_gen p0 _ (hS' _ hq) q0).mono ?_); rintro e wx ⟨er, rfl, hx⟩; obtain ⟨ux, rfl⟩ := after hx; clear hx) | fail)
      refine ⟨⟨0 + 1, atv p0.data.toList, 0, 0, rfl, .inr (.inl ⟨rfl, rfl, rfl, rfl⟩), ⟨_, (u0.b.trans (ux.b.mono u0.b.size)).setCell (p := ⟨w.heap.size + 1, 0, none⟩) (by show W2.heap.size ≤ w.heap.size + 1; omega) _⟩, rfl, held_set (held_on ux hh) 0 _, (World.cell?_setCell_far _ _ _ _ (by show w.heap.size + 1 ≠ w.heap.size + 1 + 1; omega)).trans ((ux.b.cell (World.block_lt_of_cell? _ _ s0)).trans s0), (World.cell?_setCell_far _ _ _ _ (by show w.heap.size + 1 ≠ w.heap.size + 1 + 1; omega)).trans ((ux.b.cell (World.block_lt_of_cell? _ _ s1)).trans s1)⟩, by simp [intOf]⟩
    · go_wp2_with (first | (go_at_call 62; (with_reducible refine (atoi_gen p1 _ (hS' _ hq) q1).mono ?_); rintro e wx ⟨er, rfl, hx⟩; obtain ⟨ux, rfl⟩ := after hx; clear hx) | fail)
      refine ⟨⟨1 + 1, atv p0.data.toList, atv p1.data.toList, 0, rfl, .inr (.inr (⟨rfl, rfl, rfl, rfl⟩)), ⟨_, (u0.b.trans (ux.b.mono u0.b.size)).setCell (p := ⟨w.heap.size + 1, 1, none⟩) (by show W2.heap.size ≤ w.heap.size + 1; omega) _⟩, rfl, held_set (held_on ux hh) 1 _, (World.cell?_setCell_far _ _ _ _ (by show w.heap.size + 1 ≠ w.heap.size + 1 + 1; omega)).trans ((ux.b.cell (World.block_lt_of_cell? _ _ s0)).trans s0), (World.cell?_setCell_far _ _ _ _ (by show w.heap.size + 1 ≠ w.heap.size + 1 + 1; omega)).trans ((ux.b.cell (World.block_lt_of_cell? _ _ s1)).trans s1)⟩, by simp [intOf]⟩
    · go_wp2_with fail
      have bw := hq
      exact bodyPost_ret (v := mv (atv p0.data.toList % 256) (atv p1.data.toList) (0)) (by simp [results, Tryz.results55, go_sem, R0, R1, R2]) rfl ⟨rfl, (by repeat first | (with_reducible exact bw) | (with_reducible refine below_on ?_ _) | (with_reducible refine below_alloc ?_ _) | (with_reducible refine below_set ?_ (by simp; try omega) _))⟩

set_option maxRecDepth 100000 in
set_option maxHeartbeats 2000000 in
theorem read_3 (s p0 p1 p2 : ByteArray) (w : World) (hS : Std w) (hl : s.size < 4294967281) (hp : Lib.splitB ⟨#[32]⟩ 0 (min 3 (s.size + 1) - 1) s = [p0, p1, p2]) (q0 : p0.size ≤ 281474976710656) (q1 : p1.size ≤ 281474976710656) (q2 : p2.size ≤ 281474976710656) :
    Calls Tryz.prog 55 #[.string s] w fun e w' => e = .returned (mv (atv p0.data.toList % 256) (atv p1.data.toList) (atv p2.data.toList)) ∧ Below w.heap.size w w' := by
  have hS' : ∀ W, Below w.heap.size w W → Std W := fun W h => std_below hS h
  have SP : ∀ W, Std W → Calls Tryz.prog 61 #[.string s, .string ⟨#[32]⟩, .int .i64 3] W fun e w' => e = .returned (.slice (some ⟨W.heap.size, 0, none⟩) 3 (min 3 (s.size + 1))) ∧ w' = W.alloc (.cells (Lib.cellsOf [p0, p1, p2] (min 3 (s.size + 1))) 9) := fun W h => by
    obtain ⟨m, hm⟩ := h.ml
    have := Tryz.strings_SplitN s ⟨#[32]⟩ 3 m W hl hm (by decide) (by decide) (by decide)
    rw [hp] at this
    exact this
  have hN : ∃ N, N = min 3 (s.size + 1) := ⟨_, rfl⟩
  obtain ⟨N, hN⟩ := hN
  rw [← hN] at SP
  have hN1 : 1 ≤ N := by omega
  clear hN hp hl
  go_enter Tryz.func55, Tryz.ntmps55
  go_wp2_with (first | (go_at_call 61; with_reducible refine (SP _ (hS' _ (by repeat first | (with_reducible exact Below.refl _ _) | (with_reducible refine below_on ?_ _) | (with_reducible refine below_alloc ?_ _) | (with_reducible refine below_set ?_ (by simp; try omega) _)))).mono ?_; rintro e wx ⟨rfl, rfl⟩) | fail)
  clear SP
  have R0 : (w.alloc (.cells #[.int .u8 0, .int .i64 0, .int .i64 0] 36)).cell? ⟨w.heap.size, 0, none⟩ = some (.int .u8 0) := by simp [go_sem]
  have F0 : (w.alloc (.cells #[.int .u8 0, .int .i64 0, .int .i64 0] 36)).frozen? ⟨w.heap.size, 0, none⟩ = false := by simp [go_sem]
  have R1 : (w.alloc (.cells #[.int .u8 0, .int .i64 0, .int .i64 0] 36)).cell? ⟨w.heap.size, 1, none⟩ = some (.int .i64 0) := by simp [go_sem]
  have F1 : (w.alloc (.cells #[.int .u8 0, .int .i64 0, .int .i64 0] 36)).frozen? ⟨w.heap.size, 1, none⟩ = false := by simp [go_sem]
  have R2 : (w.alloc (.cells #[.int .u8 0, .int .i64 0, .int .i64 0] 36)).cell? ⟨w.heap.size, 2, none⟩ = some (.int .i64 0) := by simp [go_sem]
  have F2 : (w.alloc (.cells #[.int .u8 0, .int .i64 0, .int .i64 0] 36)).frozen? ⟨w.heap.size, 2, none⟩ = false := by simp [go_sem]
  have S0 : (((w.alloc (.cells #[.int .u8 0, .int .i64 0, .int .i64 0] 36)).alloc (.cells #[.int .i64 0, .int .i64 0, .int .i64 0] 106)).alloc (.cells (Lib.cellsOf [p0, p1, p2] N) 9)).cell? ⟨w.heap.size + 1 + 1, 0, none⟩ = some (.string p0) := by
    have := cells_some ((w.alloc (.cells #[.int .u8 0, .int .i64 0, .int .i64 0] 36)).alloc (.cells #[.int .i64 0, .int .i64 0, .int .i64 0] 106)) [p0, p1, p2] N 9 0 p0 rfl
    simpa [World.size_alloc] using this
  have S1 : (((w.alloc (.cells #[.int .u8 0, .int .i64 0, .int .i64 0] 36)).alloc (.cells #[.int .i64 0, .int .i64 0, .int .i64 0] 106)).alloc (.cells (Lib.cellsOf [p0, p1, p2] N) 9)).cell? ⟨w.heap.size + 1 + 1, 1, none⟩ = some (.string p1) := by
    have := cells_some ((w.alloc (.cells #[.int .u8 0, .int .i64 0, .int .i64 0] 36)).alloc (.cells #[.int .i64 0, .int .i64 0, .int .i64 0] 106)) [p0, p1, p2] N 9 1 p1 rfl
    simpa [World.size_alloc] using this
  have S2 : (((w.alloc (.cells #[.int .u8 0, .int .i64 0, .int .i64 0] 36)).alloc (.cells #[.int .i64 0, .int .i64 0, .int .i64 0] 106)).alloc (.cells (Lib.cellsOf [p0, p1, p2] N) 9)).cell? ⟨w.heap.size + 1 + 1, 2, none⟩ = some (.string p2) := by
    have := cells_some ((w.alloc (.cells #[.int .u8 0, .int .i64 0, .int .i64 0] 36)).alloc (.cells #[.int .i64 0, .int .i64 0, .int .i64 0] 106)) [p0, p1, p2] N 9 2 p2 rfl
    simpa [World.size_alloc] using this
  have A0 : (((w.alloc (.cells #[.int .u8 0, .int .i64 0, .int .i64 0] 36)).alloc (.cells #[.int .i64 0, .int .i64 0, .int .i64 0] 106)).alloc (.cells (Lib.cellsOf [p0, p1, p2] N) 9)).heap[w.heap.size + 1]? = some (.cells #[.int .i64 0, .int .i64 0, .int .i64 0] 106) := by
    rw [heap_alloc_old _ _ (by simp [World.size_alloc])]
    have e : (w.alloc (.cells #[.int .u8 0, .int .i64 0, .int .i64 0] 36)).heap.size = w.heap.size + 1 := World.size_alloc _ _
    rw [← e]; exact heap_alloc_new _ _
  have hB2 : Below (w.alloc (.cells #[.int .u8 0, .int .i64 0, .int .i64 0] 36)).heap.size (w.alloc (.cells #[.int .u8 0, .int .i64 0, .int .i64 0] 36)) (((w.alloc (.cells #[.int .u8 0, .int .i64 0, .int .i64 0] 36)).alloc (.cells #[.int .i64 0, .int .i64 0, .int .i64 0] 106)).alloc (.cells (Lib.cellsOf [p0, p1, p2] N) 9)) := below_alloc (below_alloc (Below.refl _ _) _) _
  have hz : (w.alloc (.cells #[.int .u8 0, .int .i64 0, .int .i64 0] 36)).heap.size = w.heap.size + 1 := World.size_alloc _ _
  have hB1 : Below w.heap.size w (w.alloc (.cells #[.int .u8 0, .int .i64 0, .int .i64 0] 36)) := (by repeat first | (with_reducible exact Below.refl _ _) | (with_reducible refine below_on ?_ _) | (with_reducible refine below_alloc ?_ _) | (with_reducible refine below_set ?_ (by simp; try omega) _))
  generalize (((w.alloc (.cells #[.int .u8 0, .int .i64 0, .int .i64 0] 36)).alloc (.cells #[.int .i64 0, .int .i64 0, .int .i64 0] 106)).alloc (.cells (Lib.cellsOf [p0, p1, p2] N) 9)) = Wc at *
  generalize (w.alloc (.cells #[.int .u8 0, .int .i64 0, .int .i64 0] 36)) = W2 at *
  go_loopw [9] (fun iv wr => ∃ i v0 v1 v2 : Int, iv = .int .i64 i ∧ ((i = 0 ∧ v0 = 0 ∧ v1 = 0 ∧ v2 = 0) ∨ (i = 1 ∧ v0 = atv p0.data.toList ∧ v1 = 0 ∧ v2 = 0) ∨ (i = 2 ∧ v0 = atv p0.data.toList ∧ v1 = atv p1.data.toList ∧ v2 = 0) ∨ (i = 3 ∧ v0 = atv p0.data.toList ∧ v1 = atv p1.data.toList ∧ v2 = atv p2.data.toList)) ∧ ∃ u : Later W2, wr = on u ∧ (on u).heap[w.heap.size + 1]? = some (.cells #[.int .i64 v0, .int .i64 v1, .int .i64 v2] 106) ∧ (on u).cell? ⟨w.heap.size + 1 + 1, 0, none⟩ = some (.string p0) ∧ (on u).cell? ⟨w.heap.size + 1 + 1, 1, none⟩ = some (.string p1) ∧ (on u).cell? ⟨w.heap.size + 1 + 1, 2, none⟩ = some (.string p2)) (fun iv _ => (3 - intOf iv).toNat)
  case atStart => exact ⟨0, 0, 0, 0, rfl, .inl ⟨rfl, rfl, rfl, rfl⟩, ⟨Wc, hB2⟩, rfl, A0, S0, S1, S2⟩
  case round =>
    obtain ⟨i, v0, v1, v2, rfl, hv, u0, rfl, hh, s0, s1, s2⟩ := hrel
    have a0 : (on u0).cell? ⟨w.heap.size + 1, 0, none⟩ = some (.int .i64 v0) := held_cell hh 0
    have a1 : (on u0).cell? ⟨w.heap.size + 1, 1, none⟩ = some (.int .i64 v1) := held_cell hh 1
    have a2 : (on u0).cell? ⟨w.heap.size + 1, 2, none⟩ = some (.int .i64 v2) := held_cell hh 2
    have g0 : (on u0).frozen? ⟨w.heap.size + 1, 0, none⟩ = false := held_free hh 0
    have g1 : (on u0).frozen? ⟨w.heap.size + 1, 1, none⟩ = false := held_free hh 1
    have g2 : (on u0).frozen? ⟨w.heap.size + 1, 2, none⟩ = false := held_free hh 2
    have hq : Below w.heap.size w (on u0) := below_on hB1 u0
    obtain ⟨rfl, rfl, rfl, rfl⟩ | ⟨rfl, rfl, rfl, rfl⟩ | ⟨rfl, rfl, rfl, rfl⟩ | ⟨rfl, rfl, rfl, rfl⟩ := hv
    · go_wp2_with (first | (go_at_call 62; (with_reducible refine (atoi_gen p0 _ (hS' _ hq) q0).mono ?_); rintro e wx ⟨er, rfl, hx⟩; obtain ⟨ux, rfl⟩ := after hx; clear hx) | fail)
      refine ⟨⟨0 + 1, atv p0.data.toList, 0, 0, rfl, .inr (.inl ⟨rfl, rfl, rfl, rfl⟩), ⟨_, (u0.b.trans (ux.b.mono u0.b.size)).setCell (p := ⟨w.heap.size + 1, 0, none⟩) (by show W2.heap.size ≤ w.heap.size + 1; omega) _⟩, rfl, held_set (held_on ux hh) 0 _, (World.cell?_setCell_far _ _ _ _ (by show w.heap.size + 1 ≠ w.heap.size + 1 + 1; omega)).trans ((ux.b.cell (World.block_lt_of_cell? _ _ s0)).trans s0), (World.cell?_setCell_far _ _ _ _ (by show w.heap.size + 1 ≠ w.heap.size + 1 + 1; omega)).trans ((ux.b.cell (World.block_lt_of_cell? _ _ s1)).trans s1), (World.cell?_setCell_far _ _ _ _ (by show w.heap.size + 1 ≠ w.heap.size + 1 + 1; omega)).trans ((ux.b.cell (World.block_lt_of_cell? _ _ s2)).trans s2)⟩, by simp [intOf]⟩
    · go_wp2_with (first | (go_at_call 62; (with_reducible refine (atoi_gen p1 _ (hS' _ hq) q1).mono ?_); rintro e wx ⟨er, rfl, hx⟩; obtain ⟨ux, rfl⟩ := after hx; clear hx) | fail)
      refine ⟨⟨1 + 1, atv p0.data.toList, atv p1.data.toList, 0, rfl, .inr (.inr (.inl ⟨rfl, rfl, rfl, rfl⟩)), ⟨_, (u0.b.trans (ux.b.mono u0.b.size)).setCell (p := ⟨w.heap.size + 1, 1, none⟩) (by show W2.heap.size ≤ w.heap.size + 1; omega) _⟩, rfl, held_set (held_on ux hh) 1 _, (World.cell?_setCell_far _ _ _ _ (by show w.heap.size + 1 ≠ w.heap.size + 1 + 1; omega)).trans ((ux.b.cell (World.block_lt_of_cell? _ _ s0)).trans s0), (World.cell?_setCell_far _ _ _ _ (by show w.heap.size + 1 ≠ w.heap.size + 1 + 1; omega)).trans ((ux.b.cell (World.block_lt_of_cell? _ _ s1)).trans s1), (World.cell?_setCell_far _ _ _ _ (by show w.heap.size + 1 ≠ w.heap.size + 1 + 1; omega)).trans ((ux.b.cell (World.block_lt_of_cell? _ _ s2)).trans s2)⟩, by simp [intOf]⟩
    · go_wp2_with (first | (go_at_call 62; (with_reducible refine (atoi_gen p2 _ (hS' _ hq) q2).mono ?_); rintro e wx ⟨er, rfl, hx⟩; obtain ⟨ux, rfl⟩ := after hx; clear hx) | fail)
      refine ⟨⟨2 + 1, atv p0.data.toList, atv p1.data.toList, atv p2.data.toList, rfl, .inr (.inr (.inr (⟨rfl, rfl, rfl, rfl⟩))), ⟨_, (u0.b.trans (ux.b.mono u0.b.size)).setCell (p := ⟨w.heap.size + 1, 2, none⟩) (by show W2.heap.size ≤ w.heap.size + 1; omega) _⟩, rfl, held_set (held_on ux hh) 2 _, (World.cell?_setCell_far _ _ _ _ (by show w.heap.size + 1 ≠ w.heap.size + 1 + 1; omega)).trans ((ux.b.cell (World.block_lt_of_cell? _ _ s0)).trans s0), (World.cell?_setCell_far _ _ _ _ (by show w.heap.size + 1 ≠ w.heap.size + 1 + 1; omega)).trans ((ux.b.cell (World.block_lt_of_cell? _ _ s1)).trans s1), (World.cell?_setCell_far _ _ _ _ (by show w.heap.size + 1 ≠ w.heap.size + 1 + 1; omega)).trans ((ux.b.cell (World.block_lt_of_cell? _ _ s2)).trans s2)⟩, by simp [intOf]⟩
    · go_wp2_with fail
      have bw := hq
      exact bodyPost_ret (v := mv (atv p0.data.toList % 256) (atv p1.data.toList) (atv p2.data.toList)) (by simp [results, Tryz.results55, go_sem, R0, R1, R2]) rfl ⟨rfl, (by repeat first | (with_reducible exact bw) | (with_reducible refine below_on ?_ _) | (with_reducible refine below_alloc ?_ _) | (with_reducible refine below_set ?_ (by simp; try omega) _))⟩

theorem piece_size (sep : ByteArray) : ∀ (k : Nat) (s : ByteArray), ∀ p ∈ Lib.splitB sep 0 k s, p.size ≤ s.size
  | 0, s, p, h => by rw [Lib.splitB_zero] at h; rw [List.mem_singleton.1 h]; exact Nat.le_refl _
  | k + 1, s, p, h => by
    obtain hi | ⟨i, hi, _⟩ := Lib.indexB_cases s sep
    · rw [Lib.splitB_miss _ _ _ _ hi] at h; rw [List.mem_singleton.1 h]; exact Nat.le_refl _
    · rw [Lib.splitB_hit _ _ _ _ _ hi] at h
      rcases List.mem_cons.1 h with h | h
      · rw [h, ByteArray.size_extract]; omega
      · have := piece_size sep k _ p h
        rw [ByteArray.size_extract] at this
        omega
theorem splitB_ne (sep : ByteArray) (save : Nat) : ∀ (k : Nat) (s : ByteArray), Lib.splitB sep save k s ≠ []
  | 0, s => by rw [Lib.splitB_zero]; simp
  | k + 1, s => by
    obtain hi | ⟨i, hi, _⟩ := Lib.indexB_cases s sep
    · rw [Lib.splitB_miss _ _ _ _ hi]; simp
    · rw [Lib.splitB_hit _ _ _ _ _ hi]; simp
theorem read_ex (s : ByteArray) (hl : s.size < 4294967281) : ∃ a b c : Int, 0 ≤ a ∧ a ≤ 255 ∧ ∀ w, Std w → Calls Tryz.prog 55 #[.string s] w fun e w' => e = .returned (mv a b c) ∧ Below w.heap.size w w' := by
  have h1 := Lib.splitB_length_le ⟨#[32]⟩ 0 (min 3 (s.size + 1) - 1) s
  have h2 := piece_size ⟨#[32]⟩ (min 3 (s.size + 1) - 1) s
  have h3 : Lib.splitB ⟨#[32]⟩ 0 (min 3 (s.size + 1) - 1) s ≠ [] := splitB_ne _ _ _ _
  match hp : Lib.splitB ⟨#[32]⟩ 0 (min 3 (s.size + 1) - 1) s with
  | [] => exact absurd hp h3
  | [p0] =>
    rw [hp] at h2
    exact ⟨_, _, _, by omega, by omega, fun w hS => read_1 s p0 w hS hl hp (Nat.le_trans (h2 p0 (by simp)) (by omega))⟩
  | [p0, p1] =>
    rw [hp] at h2
    exact ⟨_, _, _, by omega, by omega, fun w hS => read_2 s p0 p1 w hS hl hp (Nat.le_trans (h2 p0 (by simp)) (by omega)) (Nat.le_trans (h2 p1 (by simp)) (by omega))⟩
  | [p0, p1, p2] =>
    rw [hp] at h2
    exact ⟨_, _, _, by omega, by omega, fun w hS => read_3 s p0 p1 p2 w hS hl hp (Nat.le_trans (h2 p0 (by simp)) (by omega)) (Nat.le_trans (h2 p1 (by simp)) (by omega)) (Nat.le_trans (h2 p2 (by simp)) (by omega))⟩
  | _ :: _ :: _ :: _ :: _ => rw [hp] at h1; simp at h1; omega

end Go.Proofs.YtppjogagimflpaaGreatDoor
