/-
  Says: what Between of the reference gives.
-/
import Derived.Test.YtgkiliijefkcaaaDoorCr5
set_option linter.unusedVariables false
set_option linter.unusedSimpArgs false
namespace Go.Proofs.YtgkiliijefkcaaaDoor
open Go Go.RowKit

attribute [local go_sem] World.cell?_alloc_some frozen?_alloc_cells fz0 fz1 fz2 fz3 fz4 fz5
theorem ptr_at0 (a b c d e f : Value) : ∀ w, (Instr.index 32 (.agg #[a, b, c, d, e, f]) (.int .i64 0)).run Tryd.prog w = .ok (.agg #[a, b]) w := fun _ => by kernel_rfl
theorem ptr_at1 (a b c d e f : Value) : ∀ w, (Instr.index 32 (.agg #[a, b, c, d, e, f]) (.int .i64 1)).run Tryd.prog w = .ok (.agg #[c, d]) w := fun _ => by kernel_rfl
theorem ptr_at2 (a b c d e f : Value) : ∀ w, (Instr.index 32 (.agg #[a, b, c, d, e, f]) (.int .i64 2)).run Tryd.prog w = .ok (.agg #[e, f]) w := fun _ => by kernel_rfl
attribute [local go_sem] ptr_at0 ptr_at1 ptr_at2

theorem far3_ {W : World} {b b' i : Nat} {v : Value} (hne : b' ≠ b) (h : W.cell? ⟨b', i, none⟩ = some v) (v0 v1 v2 : Value) : (((W.setCell ⟨b, 0, none⟩ v0).setCell ⟨b, 1, none⟩ v1).setCell ⟨b, 2, none⟩ v2).cell? ⟨b', i, none⟩ = some v := by
  rw [World.cell?_setCell_far _ _ _ _ (Ne.symm hne), World.cell?_setCell_far _ _ _ _ (Ne.symm hne), World.cell?_setCell_far _ _ _ _ (Ne.symm hne)]; exact h
theorem far3z {W : World} {b b' i : Nat} (h : W.frozen? ⟨b', i, none⟩ = false) (v0 v1 v2 : Value) : (((W.setCell ⟨b, 0, none⟩ v0).setCell ⟨b, 1, none⟩ v1).setCell ⟨b, 2, none⟩ v2).frozen? ⟨b', i, none⟩ = false := by
  simpa using h
theorem mid_im (t X Y x y : Int) (a1 : 0 ≤ t) (a2 : t ≤ 7) : mvx t (1 + 2 * x) (1 + 2 * y) + 2 * X = 1 + 2 * imX t X x y ∧ mvy t (1 + 2 * x) (1 + 2 * y) + 2 * Y = 1 + 2 * imY t Y x y := by
  obtain rfl | rfl | rfl | rfl | rfl | rfl | rfl | rfl : t = 0 ∨ t = 1 ∨ t = 2 ∨ t = 3 ∨ t = 4 ∨ t = 5 ∨ t = 6 ∨ t = 7 := by omega
  · exact ⟨(imc_00 X Y x y).1, (imc_00 X Y x y).2.1⟩
  · exact ⟨(imc_10 X Y x y).1, (imc_10 X Y x y).2.1⟩
  · exact ⟨(imc_20 X Y x y).1, (imc_20 X Y x y).2.1⟩
  · exact ⟨(imc_30 X Y x y).1, (imc_30 X Y x y).2.1⟩
  · exact ⟨(imc_40 X Y x y).1, (imc_40 X Y x y).2.1⟩
  · exact ⟨(imc_50 X Y x y).1, (imc_50 X Y x y).2.1⟩
  · exact ⟨(imc_60 X Y x y).1, (imc_60 X Y x y).2.1⟩
  · exact ⟨(imc_70 X Y x y).1, (imc_70 X Y x y).2.1⟩

set_option maxRecDepth 100000 in
set_option maxHeartbeats 2000000 in
theorem rbet_of (x y q a b c px1 py1 px2 py2 rx1 ry1 rx2 ry2 : Int) (w : World) (CA : ∀ W, Calls Tryd.prog 16 #[cl x y q] W fun e w' => e = .returned (.agg #[.int .i64 (1 + 2 * x), .int .i64 (1 + 2 * y), .int .i64 (px1), .int .i64 (py1), .int .i64 (px2), .int .i64 (py2)]) ∧ Below W.heap.size W w') (CB : ∀ W, Calls Tryd.prog 16 #[cl a b c] W fun e w' => e = .returned (.agg #[.int .i64 (1 + 2 * a), .int .i64 (1 + 2 * b), .int .i64 (rx1), .int .i64 (ry1), .int .i64 (rx2), .int .i64 (ry2)]) ∧ Below W.heap.size W w') (c1 : -4096 ≤ x) (c2 : x ≤ 4096) (c3 : -4096 ≤ y) (c4 : y ≤ 4096) (c5 : 0 ≤ q) (c6 : q ≤ 3)(d1 : -4096 ≤ a) (d2 : a ≤ 4096) (d3 : -4096 ≤ b) (d4 : b ≤ 4096) (d5 : 0 ≤ c) (d6 : c ≤ 3) : Calls Tryd.prog 29 #[cl x y q, cl a b c] w fun e w' => e = .returned (.tuple #[mv (btT x y q a b c) (a - imX (btT x y q a b c) 0 x y) (b - imY (btT x y q a b c) 0 x y), .int .i64 1]) ∧ Below w.heap.size w w' := by
  have tr := btT_range x y q a b c c5 c6 d5 d6
  have tq := btT_q x y q a b c c5 c6 d5 d6
  have tp := btT_par x y q a b c c5 c6 d5 d6
  have tw : ∀ t : Int, 0 ≤ t → t ≤ 7 → imQ t q = c → ((a - imX t 0 x y) + (b - imY t 0 x y)) % 2 = 0 → t = btT x y q a b c := fun t h1 h2 => btT_only t x y q a b c c5 c6 d5 d6 h1 h2
  generalize btT x y q a b c = T at *
  obtain ⟨tr1, tr2⟩ := tr
  have TQ : Hid (imQ T q = c) := tq
  have TP : Hid (((a - imX T 0 x y) + (b - imY T 0 x y)) % 2 = 0) := tp
  have TO : Hid (∀ t : Int, 0 ≤ t → t ≤ 7 → imQ t q = c → ((a - imX t 0 x y) + (b - imY t 0 x y)) % 2 = 0 → t = T) := tw
  clear tq tp tw
  go_enter Tryd.func29, Tryd.ntmps29
  go_wp2_with fail
  have hB0 : Below w.heap.size w ((((w.alloc (.cells #[.int .i64 (x), .int .i64 (y), .int .u8 (q)] 23)).alloc (.cells #[.int .i64 (a), .int .i64 (b), .int .u8 (c)] 23)).alloc (.cells #[.int .u8 0, .int .i64 0, .int .i64 0] 54)).alloc (.cells #[.int .u8 0, .int .i64 0, .int .i64 0] 54)) := (by repeat first | (with_reducible exact Below.refl _ _) | (with_reducible refine below_on ?_ _) | (with_reducible refine below_alloc ?_ _) | (with_reducible refine below_set ?_ (by simp; try omega) _))
  have b00 : ((((w.alloc (.cells #[.int .i64 (x), .int .i64 (y), .int .u8 (q)] 23)).alloc (.cells #[.int .i64 (a), .int .i64 (b), .int .u8 (c)] 23)).alloc (.cells #[.int .u8 0, .int .i64 0, .int .i64 0] 54)).alloc (.cells #[.int .u8 0, .int .i64 0, .int .i64 0] 54)).cell? ⟨w.heap.size, 0, none⟩ = some (.int .i64 (x)) := by simp [go_sem]
  have b01 : ((((w.alloc (.cells #[.int .i64 (x), .int .i64 (y), .int .u8 (q)] 23)).alloc (.cells #[.int .i64 (a), .int .i64 (b), .int .u8 (c)] 23)).alloc (.cells #[.int .u8 0, .int .i64 0, .int .i64 0] 54)).alloc (.cells #[.int .u8 0, .int .i64 0, .int .i64 0] 54)).cell? ⟨w.heap.size, 1, none⟩ = some (.int .i64 (y)) := by simp [go_sem]
  have b02 : ((((w.alloc (.cells #[.int .i64 (x), .int .i64 (y), .int .u8 (q)] 23)).alloc (.cells #[.int .i64 (a), .int .i64 (b), .int .u8 (c)] 23)).alloc (.cells #[.int .u8 0, .int .i64 0, .int .i64 0] 54)).alloc (.cells #[.int .u8 0, .int .i64 0, .int .i64 0] 54)).cell? ⟨w.heap.size, 2, none⟩ = some (.int .u8 (q)) := by simp [go_sem]
  have b10 : ((((w.alloc (.cells #[.int .i64 (x), .int .i64 (y), .int .u8 (q)] 23)).alloc (.cells #[.int .i64 (a), .int .i64 (b), .int .u8 (c)] 23)).alloc (.cells #[.int .u8 0, .int .i64 0, .int .i64 0] 54)).alloc (.cells #[.int .u8 0, .int .i64 0, .int .i64 0] 54)).cell? ⟨w.heap.size + 1, 0, none⟩ = some (.int .i64 (a)) := by simp [go_sem]
  have b11 : ((((w.alloc (.cells #[.int .i64 (x), .int .i64 (y), .int .u8 (q)] 23)).alloc (.cells #[.int .i64 (a), .int .i64 (b), .int .u8 (c)] 23)).alloc (.cells #[.int .u8 0, .int .i64 0, .int .i64 0] 54)).alloc (.cells #[.int .u8 0, .int .i64 0, .int .i64 0] 54)).cell? ⟨w.heap.size + 1, 1, none⟩ = some (.int .i64 (b)) := by simp [go_sem]
  have b12 : ((((w.alloc (.cells #[.int .i64 (x), .int .i64 (y), .int .u8 (q)] 23)).alloc (.cells #[.int .i64 (a), .int .i64 (b), .int .u8 (c)] 23)).alloc (.cells #[.int .u8 0, .int .i64 0, .int .i64 0] 54)).alloc (.cells #[.int .u8 0, .int .i64 0, .int .i64 0] 54)).cell? ⟨w.heap.size + 1, 2, none⟩ = some (.int .u8 (c)) := by simp [go_sem]
  have b20 : ((((w.alloc (.cells #[.int .i64 (x), .int .i64 (y), .int .u8 (q)] 23)).alloc (.cells #[.int .i64 (a), .int .i64 (b), .int .u8 (c)] 23)).alloc (.cells #[.int .u8 0, .int .i64 0, .int .i64 0] 54)).alloc (.cells #[.int .u8 0, .int .i64 0, .int .i64 0] 54)).cell? ⟨w.heap.size + 1 + 1, 0, none⟩ = some (.int .u8 0) := by simp [go_sem]
  have fb20 : ((((w.alloc (.cells #[.int .i64 (x), .int .i64 (y), .int .u8 (q)] 23)).alloc (.cells #[.int .i64 (a), .int .i64 (b), .int .u8 (c)] 23)).alloc (.cells #[.int .u8 0, .int .i64 0, .int .i64 0] 54)).alloc (.cells #[.int .u8 0, .int .i64 0, .int .i64 0] 54)).frozen? ⟨w.heap.size + 1 + 1, 0, none⟩ = false := by simp [go_sem]
  have b21 : ((((w.alloc (.cells #[.int .i64 (x), .int .i64 (y), .int .u8 (q)] 23)).alloc (.cells #[.int .i64 (a), .int .i64 (b), .int .u8 (c)] 23)).alloc (.cells #[.int .u8 0, .int .i64 0, .int .i64 0] 54)).alloc (.cells #[.int .u8 0, .int .i64 0, .int .i64 0] 54)).cell? ⟨w.heap.size + 1 + 1, 1, none⟩ = some (.int .i64 0) := by simp [go_sem]
  have fb21 : ((((w.alloc (.cells #[.int .i64 (x), .int .i64 (y), .int .u8 (q)] 23)).alloc (.cells #[.int .i64 (a), .int .i64 (b), .int .u8 (c)] 23)).alloc (.cells #[.int .u8 0, .int .i64 0, .int .i64 0] 54)).alloc (.cells #[.int .u8 0, .int .i64 0, .int .i64 0] 54)).frozen? ⟨w.heap.size + 1 + 1, 1, none⟩ = false := by simp [go_sem]
  have b22 : ((((w.alloc (.cells #[.int .i64 (x), .int .i64 (y), .int .u8 (q)] 23)).alloc (.cells #[.int .i64 (a), .int .i64 (b), .int .u8 (c)] 23)).alloc (.cells #[.int .u8 0, .int .i64 0, .int .i64 0] 54)).alloc (.cells #[.int .u8 0, .int .i64 0, .int .i64 0] 54)).cell? ⟨w.heap.size + 1 + 1, 2, none⟩ = some (.int .i64 0) := by simp [go_sem]
  have fb22 : ((((w.alloc (.cells #[.int .i64 (x), .int .i64 (y), .int .u8 (q)] 23)).alloc (.cells #[.int .i64 (a), .int .i64 (b), .int .u8 (c)] 23)).alloc (.cells #[.int .u8 0, .int .i64 0, .int .i64 0] 54)).alloc (.cells #[.int .u8 0, .int .i64 0, .int .i64 0] 54)).frozen? ⟨w.heap.size + 1 + 1, 2, none⟩ = false := by simp [go_sem]
  have b30 : ((((w.alloc (.cells #[.int .i64 (x), .int .i64 (y), .int .u8 (q)] 23)).alloc (.cells #[.int .i64 (a), .int .i64 (b), .int .u8 (c)] 23)).alloc (.cells #[.int .u8 0, .int .i64 0, .int .i64 0] 54)).alloc (.cells #[.int .u8 0, .int .i64 0, .int .i64 0] 54)).cell? ⟨w.heap.size + 1 + 1 + 1, 0, none⟩ = some (.int .u8 0) := by simp [go_sem]
  have b31 : ((((w.alloc (.cells #[.int .i64 (x), .int .i64 (y), .int .u8 (q)] 23)).alloc (.cells #[.int .i64 (a), .int .i64 (b), .int .u8 (c)] 23)).alloc (.cells #[.int .u8 0, .int .i64 0, .int .i64 0] 54)).alloc (.cells #[.int .u8 0, .int .i64 0, .int .i64 0] 54)).cell? ⟨w.heap.size + 1 + 1 + 1, 1, none⟩ = some (.int .i64 0) := by simp [go_sem]
  have b32 : ((((w.alloc (.cells #[.int .i64 (x), .int .i64 (y), .int .u8 (q)] 23)).alloc (.cells #[.int .i64 (a), .int .i64 (b), .int .u8 (c)] 23)).alloc (.cells #[.int .u8 0, .int .i64 0, .int .i64 0] 54)).alloc (.cells #[.int .u8 0, .int .i64 0, .int .i64 0] 54)).cell? ⟨w.heap.size + 1 + 1 + 1, 2, none⟩ = some (.int .i64 0) := by simp [go_sem]
  have HQ0 : Hid (((((w.alloc (.cells #[.int .i64 (x), .int .i64 (y), .int .u8 (q)] 23)).alloc (.cells #[.int .i64 (a), .int .i64 (b), .int .u8 (c)] 23)).alloc (.cells #[.int .u8 0, .int .i64 0, .int .i64 0] 54)).alloc (.cells #[.int .u8 0, .int .i64 0, .int .i64 0] 54)).heap[w.heap.size + 1 + 1 + 1]? = some (.cells #[.int .u8 0, .int .i64 0, .int .i64 0] 54)) := by
    rw [show w.heap.size + 1 + 1 + 1 = ((((w.alloc (.cells #[.int .i64 (x), .int .i64 (y), .int .u8 (q)] 23)).alloc (.cells #[.int .i64 (a), .int .i64 (b), .int .u8 (c)] 23)).alloc (.cells #[.int .u8 0, .int .i64 0, .int .i64 0] 54))).heap.size by simp]; exact heap_alloc_new _ _
  generalize ((((w.alloc (.cells #[.int .i64 (x), .int .i64 (y), .int .u8 (q)] 23)).alloc (.cells #[.int .i64 (a), .int .i64 (b), .int .u8 (c)] 23)).alloc (.cells #[.int .u8 0, .int .i64 0, .int .i64 0] 54)).alloc (.cells #[.int .u8 0, .int .i64 0, .int .i64 0] 54)) = W0 at *
  go_wp2_with (first | (go_at_call 16; with_reducible refine (CB _).mono ?_; rintro e wx ⟨rfl, hx⟩; obtain ⟨ux, rfl⟩ := after hx; clear hx) | fail)
  have hQ0 : W0.heap[w.heap.size + 1 + 1 + 1]? = some (.cells #[.int .u8 0, .int .i64 0, .int .i64 0] 54) := HQ0.out
  have hQ : ((on ux).alloc (.cells #[.int .i64 (1 + 2 * a), .int .i64 (1 + 2 * b)] 31)).heap[w.heap.size + 1 + 1 + 1]? = some (.cells #[.int .u8 0, .int .i64 0, .int .i64 0] 54) := (heap_alloc_old _ _ (held_lt (held_on ux hQ0))).trans (held_on ux hQ0)
  have hwx : w.heap.size + 1 + 1 + 1 < (on ux).heap.size := held_lt (held_on ux (by assumption : W0.heap[w.heap.size + 1 + 1 + 1]? = _))
  clear hQ0 HQ0
  clear b30 b31 b32
  have hR : Below (W0).heap.size (W0) ((on ux).alloc (.cells #[.int .i64 (1 + 2 * a), .int .i64 (1 + 2 * b)] 31)) := by repeat first | (with_reducible exact Below.refl _ _) | (with_reducible refine below_on ?_ _) | (with_reducible refine below_alloc ?_ _)
  have cR : ∀ {b_ i_ : Nat} {v_ : Value}, (W0).cell? ⟨b_, i_, none⟩ = some v_ → ((on ux).alloc (.cells #[.int .i64 (1 + 2 * a), .int .i64 (1 + 2 * b)] 31)).cell? ⟨b_, i_, none⟩ = some v_ := fun h => (hR.cell (World.block_lt_of_cell? _ _ h)).trans h
  have fR : ∀ {b_ i_ : Nat} {v_ : Value}, (W0).cell? ⟨b_, i_, none⟩ = some v_ → (W0).frozen? ⟨b_, i_, none⟩ = false → ((on ux).alloc (.cells #[.int .i64 (1 + 2 * a), .int .i64 (1 + 2 * b)] 31)).frozen? ⟨b_, i_, none⟩ = false := fun h g => (hR.frozen (World.block_lt_of_cell? _ _ h)).trans g
  have b00' := cR b00
  have b01' := cR b01
  have b02' := cR b02
  have b10' := cR b10
  have b11' := cR b11
  have b12' := cR b12
  have b20' := cR b20
  have fb20' := fR b20 fb20
  have b21' := cR b21
  have fb21' := fR b21 fb21
  have b22' := cR b22
  have fb22' := fR b22 fb22
  have B100 : ((on ux).alloc (.cells #[.int .i64 (1 + 2 * a), .int .i64 (1 + 2 * b)] 31)).cell? ⟨(on ux).heap.size, 0, none⟩ = some (.int .i64 (1 + 2 * a)) := by simp [go_sem]
  have B101 : ((on ux).alloc (.cells #[.int .i64 (1 + 2 * a), .int .i64 (1 + 2 * b)] 31)).cell? ⟨(on ux).heap.size, 1, none⟩ = some (.int .i64 (1 + 2 * b)) := by simp [go_sem]
  have hB1 : Below w.heap.size w ((on ux).alloc (.cells #[.int .i64 (1 + 2 * a), .int .i64 (1 + 2 * b)] 31)) := by repeat first | (with_reducible exact hB0) | (with_reducible refine below_on ?_ _) | (with_reducible refine below_alloc ?_ _)
  clear hR cR fR b00 b01 b02 b10 b11 b12 b20 b21 b22 fb20 fb21 fb22 hB0
  generalize ((on ux).alloc (.cells #[.int .i64 (1 + 2 * a), .int .i64 (1 + 2 * b)] 31)) = W1 at *
  generalize (on ux).heap.size = B1 at *
  clear ux
  have HZ0 : Hid (∀ i < 3, W1.frozen? ⟨w.heap.size + 1 + 1, i, none⟩ = false) := fun i hi => by
    obtain rfl | rfl | rfl : i = 0 ∨ i = 1 ∨ i = 2 := by omega
    · exact fb20'
    · exact fb21'
    · exact fb22'
  clear fb20' fb21' fb22'
  go_loopw [6, 9] (fun mv_ iv wr => ∃ i M o0 o1 o2 : Int, iv = .int .u8 i ∧ mv_ = .int .i64 M ∧ 0 ≤ i ∧ i ≤ 8 ∧ Hid ((i ≤ T ∧ M = 0) ∨ (T < i ∧ M = 1 ∧ T = o0 ∧ a - imX T 0 x y = o1 ∧ b - imY T 0 x y = o2)) ∧ ∃ u : Later w, wr = on u ∧ (on u).heap[w.heap.size + 1 + 1 + 1]? = some (.cells #[.int .u8 o0, .int .i64 o1, .int .i64 o2] 54) ∧ Hid (∀ i < 3, (on u).frozen? ⟨w.heap.size + 1 + 1, i, none⟩ = false) ∧ (on u).cell? ⟨w.heap.size, 0, none⟩ = some (.int .i64 (x)) ∧ (on u).cell? ⟨w.heap.size, 1, none⟩ = some (.int .i64 (y)) ∧ (on u).cell? ⟨w.heap.size, 2, none⟩ = some (.int .u8 (q)) ∧ (on u).cell? ⟨w.heap.size + 1, 0, none⟩ = some (.int .i64 (a)) ∧ (on u).cell? ⟨w.heap.size + 1, 1, none⟩ = some (.int .i64 (b)) ∧ (on u).cell? ⟨w.heap.size + 1, 2, none⟩ = some (.int .u8 (c)) ∧ (on u).cell? ⟨w.heap.size + 1 + 1, 0, none⟩ = some (.int .u8 0) ∧ (on u).cell? ⟨w.heap.size + 1 + 1, 1, none⟩ = some (.int .i64 0) ∧ (on u).cell? ⟨w.heap.size + 1 + 1, 2, none⟩ = some (.int .i64 0) ∧ (on u).cell? ⟨B1, 0, none⟩ = some (.int .i64 (1 + 2 * a)) ∧ (on u).cell? ⟨B1, 1, none⟩ = some (.int .i64 (1 + 2 * b))) (fun _ iv _ => (8 - intOf iv).toNat)
  case atStart => exact ⟨0, 0, 0, 0, 0, rfl, rfl, by omega, by omega, .inl ⟨tr1, rfl⟩, ⟨_, hB1⟩, rfl, hQ, HZ0, b00', b01', b02', b10', b11', b12', b20', b21', b22', B100, B101⟩
  case round =>
    obtain ⟨i, M, o0, o1, o2, rfl, rfl, hi1, hi8, HD, u0, rfl, hh, HZ, k0, k1, k2, k3, k4, k5, k6, k7, k8, k9, k10⟩ := hrel
    have hq : Below w.heap.size w (on u0) := u0.b
    clear hQ HZ0 hB1 b00' b01' b02' b10' b11' b12' b20' b21' b22' B100 B101
    by_cases h8 : i < 8
    · have HT := TO.out i hi1
      have jr := im0_range i x y 4096 hi1 (by omega) c1 c2 c3 c4
      have jm := mid_im i 0 0 x y hi1 (by omega)
      have PT : ∀ W, Calls Tryd.prog 54 #[mv i 0 0, pt (1 + 2 * x) (1 + 2 * y)] W fun e w' => e = .returned (pt (1 + 2 * imX i 0 x y) (1 + 2 * imY i 0 x y)) ∧ Below W.heap.size W w' := fun W => by
        have := rpoint_any i 0 0 (1 + 2 * x) (1 + 2 * y) W hi1 (by omega) (by omega) (by omega) (by omega) (by omega) (by omega) (by omega) (by omega) (by omega)
        rwa [jm.1, jm.2] at this
      have s1 : (1 + 2 * a - (1 + 2 * imX i 0 x y)).tdiv 2 = a - imX i 0 x y := td2 (by omega)
      have s2 : (1 + 2 * b - (1 + 2 * imY i 0 x y)).tdiv 2 = b - imY i 0 x y := td2 (by omega)
      obtain ⟨j1, j2, j3, j4⟩ := jr
      clear jm
      by_cases hiT : i = T
      · subst hiT
        have hd := HD.out
        obtain ⟨hd1, rfl⟩ | ⟨hd1, _⟩ := hd
        · have MV : ∀ W, Calls Tryd.prog 27 #[mv i (a - imX i 0 x y) (b - imY i 0 x y), cl x y q] W fun e w' => e = .returned (cl a b c) ∧ Below W.heap.size W w' := fun W => by
            have := rmove_any i (a - imX i 0 x y) (b - imY i 0 x y) x y q W hi1 (by omega) (by omega) (by omega) (by omega) (by omega) TP.out (by omega) (by omega) (by omega) (by omega) c5 c6
            rw [imX_add i (a - imX i 0 x y) x y, imY_add i (b - imY i 0 x y) x y, TQ.out] at this
            rwa [show imX i 0 x y + (a - imX i 0 x y) = a by omega, show imY i 0 x y + (b - imY i 0 x y) = b by omega] at this
          have VA_ : ∀ W, Calls Tryd.prog 26 #[mv i (a - imX i 0 x y) (b - imY i 0 x y)] W fun e w' => e = .returned (.int .i64 1) ∧ Below W.heap.size W w' := fun W => mvalid_yes i (a - imX i 0 x y) (b - imY i 0 x y) W hi1 (by omega) (by omega) (by omega) (by omega) (by omega) TP.out
          clear HT TQ TP TO
          go_wp2_with (first | (go_at_call 16; with_reducible refine (CA _).mono ?_; rintro e wx ⟨rfl, hx⟩; obtain ⟨ux, rfl⟩ := after hx; clear hx) | fail)
          go_wp2_with (first | (go_at_call 54; with_reducible refine (PT _).mono ?_; rintro e wx ⟨rfl, hx⟩; obtain ⟨uy, rfl⟩ := after hx; clear hx) | fail)
          refine region_later (by kernel_rfl) (by kernel_rfl) ?_
          repeat (go_big_quiet_step ((first | (go_at_call 26; with_reducible exact Calls.later (VA_ _)) | (go_at_call 27; with_reducible exact Calls.later (MV _)) | fail)))
          refine wpQuiet_nil ?_
          rintro _ ⟨u9, rfl⟩
          have hb8 : Below (on u0).heap.size (on u0) (((on uy).alloc (.cells #[.int .i64 (1 + 2 * imX i 0 x y), .int .i64 (1 + 2 * imY i 0 x y)] 31)).alloc (.cells #[.int .u8 i, .int .i64 (a - imX i 0 x y), .int .i64 (b - imY i 0 x y)] 54)) := by repeat first | (with_reducible exact Below.refl _ _) | (with_reducible refine below_on ?_ _) | (with_reducible refine below_alloc ?_ _)
          have hbx : Below (on u0).heap.size (on u0) (on u9) := below_on hb8 u9
          have hh9 : (on u9).heap[w.heap.size + 1 + 1 + 1]? = _ := (hbx.block _ (held_lt hh)).trans hh
          have q0 : (on u9).cell? ⟨w.heap.size + 1 + 1 + 1, 0, none⟩ = some (.int .u8 o0) := held_cell hh9 0
          have q1 : (on u9).cell? ⟨w.heap.size + 1 + 1 + 1, 1, none⟩ = some (.int .i64 o1) := held_cell hh9 1
          have q2 : (on u9).cell? ⟨w.heap.size + 1 + 1 + 1, 2, none⟩ = some (.int .i64 o2) := held_cell hh9 2
          have p0 : (on u9).frozen? ⟨w.heap.size + 1 + 1 + 1, 0, none⟩ = false := held_free hh9 0
          have p1 : (on u9).frozen? ⟨w.heap.size + 1 + 1 + 1, 1, none⟩ = false := held_free hh9 1
          have p2 : (on u9).frozen? ⟨w.heap.size + 1 + 1 + 1, 2, none⟩ = false := held_free hh9 2
          clear HD
          go_wp2_with fail
          have hwb : w.heap.size ≤ w.heap.size + 1 + 1 + 1 := by omega
          have fr : ∀ (b_ i_ : Nat) v, b_ ≠ w.heap.size + 1 + 1 + 1 → (on u0).cell? ⟨b_, i_, none⟩ = some v → ((((on u9).setCell ⟨w.heap.size + 1 + 1 + 1, 0, none⟩ (.int .u8 i)).setCell ⟨w.heap.size + 1 + 1 + 1, 1, none⟩ (.int .i64 (a - imX i 0 x y))).setCell ⟨w.heap.size + 1 + 1 + 1, 2, none⟩ (.int .i64 (b - imY i 0 x y))).cell? ⟨b_, i_, none⟩ = some v := fun b_ i_ v hb hv => far3_ hb ((hbx.cell (World.block_lt_of_cell? _ _ hv)).trans hv) _ _ _
          exact ⟨⟨i + 1, 0 + 1, i, a - imX i 0 x y, b - imY i 0 x y, rfl, rfl, by omega, by omega, .inr ⟨by omega, rfl, rfl, rfl, rfl⟩, ⟨_, below_set (below_set (below_set (hq.trans (hbx.mono hq.size)) hwb _) hwb _) hwb _⟩, rfl, held_set (held_set (held_set hh9 0 _) 1 _) 2 _, fun j hj => far3z ((hbx.frozen (p := ⟨w.heap.size + 1 + 1, j, none⟩) (held2 k6)).trans (HZ.out j hj)) _ _ _, fr _ _ _ (by omega) k0, fr _ _ _ (by omega) k1, fr _ _ _ (by omega) k2, fr _ _ _ (by omega) k3, fr _ _ _ (by omega) k4, fr _ _ _ (by omega) k5, fr _ _ _ (by omega) k6, fr _ _ _ (by omega) k7, fr _ _ _ (by omega) k8, fr _ _ _ (by omega) k9, fr _ _ _ (by omega) k10⟩, by simp [intOf]; omega⟩
        · omega
      · have HD' : Hid (((i + 1) ≤ T ∧ M = 0) ∨ (T < (i + 1) ∧ M = 1 ∧ T = o0 ∧ a - imX T 0 x y = o1 ∧ b - imY T 0 x y = o2)) := by
          rcases HD.out with h | ⟨h, h'⟩
          · exact .inl ⟨by omega, h.2⟩
          · exact .inr ⟨by omega, h'⟩
        by_cases hp : ((a - imX i 0 x y) + (b - imY i 0 x y)) % 2 = 0
        · have hqn : ¬ imQ i q = c := fun e => hiT (HT (by omega) e hp)
          have MV : ∀ W, Calls Tryd.prog 27 #[mv i (a - imX i 0 x y) (b - imY i 0 x y), cl x y q] W fun e w' => e = .returned (cl a b (imQ i q)) ∧ Below W.heap.size W w' := fun W => by
            have := rmove_any i (a - imX i 0 x y) (b - imY i 0 x y) x y q W hi1 (by omega) (by omega) (by omega) (by omega) (by omega) hp (by omega) (by omega) (by omega) (by omega) c5 c6
            rw [imX_add i (a - imX i 0 x y) x y, imY_add i (b - imY i 0 x y) x y] at this
            rwa [show imX i 0 x y + (a - imX i 0 x y) = a by omega, show imY i 0 x y + (b - imY i 0 x y) = b by omega] at this
          have VA_ : ∀ W, Calls Tryd.prog 26 #[mv i (a - imX i 0 x y) (b - imY i 0 x y)] W fun e w' => e = .returned (.int .i64 1) ∧ Below W.heap.size W w' := fun W => mvalid_yes i (a - imX i 0 x y) (b - imY i 0 x y) W hi1 (by omega) (by omega) (by omega) (by omega) (by omega) hp
          clear HT TQ TP TO hp hiT HD
          go_wp2_with (first | (go_at_call 16; with_reducible refine (CA _).mono ?_; rintro e wx ⟨rfl, hx⟩; obtain ⟨ux, rfl⟩ := after hx; clear hx) | fail)
          go_wp2_with (first | (go_at_call 54; with_reducible refine (PT _).mono ?_; rintro e wx ⟨rfl, hx⟩; obtain ⟨uy, rfl⟩ := after hx; clear hx) | fail)
          refine region_later (by kernel_rfl) (by kernel_rfl) ?_
          repeat (go_big_quiet_step ((first | (go_at_call 26; with_reducible exact Calls.later (VA_ _)) | (go_at_call 27; with_reducible exact Calls.later (MV _)) | fail)))
          refine wpQuiet_nil ?_
          rintro _ ⟨u9, rfl⟩
          go_wp2_with fail
          have hbx : Below (on u0).heap.size (on u0) (on u9) := below_on (by repeat first | (with_reducible exact Below.refl _ _) | (with_reducible refine below_on ?_ _) | (with_reducible refine below_alloc ?_ _)) u9
          exact ⟨⟨i + 1, M, o0, o1, o2, rfl, rfl, by omega, by omega, HD', ⟨_, hq.trans (hbx.mono hq.size)⟩, rfl, (hbx.block _ (held_lt hh)).trans hh, fun j hj => (hbx.frozen (p := ⟨w.heap.size + 1 + 1, j, none⟩) (held2 k6)).trans (HZ.out j hj), (hbx.cell (World.block_lt_of_cell? _ _ k0)).trans k0, (hbx.cell (World.block_lt_of_cell? _ _ k1)).trans k1, (hbx.cell (World.block_lt_of_cell? _ _ k2)).trans k2, (hbx.cell (World.block_lt_of_cell? _ _ k3)).trans k3, (hbx.cell (World.block_lt_of_cell? _ _ k4)).trans k4, (hbx.cell (World.block_lt_of_cell? _ _ k5)).trans k5, (hbx.cell (World.block_lt_of_cell? _ _ k6)).trans k6, (hbx.cell (World.block_lt_of_cell? _ _ k7)).trans k7, (hbx.cell (World.block_lt_of_cell? _ _ k8)).trans k8, (hbx.cell (World.block_lt_of_cell? _ _ k9)).trans k9, (hbx.cell (World.block_lt_of_cell? _ _ k10)).trans k10⟩, by simp [intOf]; omega⟩
        · have VA_ : ∀ W, Calls Tryd.prog 26 #[mv i (a - imX i 0 x y) (b - imY i 0 x y)] W fun e w' => e = .returned (.int .i64 0) ∧ Below W.heap.size W w' := fun W => mvalid_no i (a - imX i 0 x y) (b - imY i 0 x y) W (.inr (.inr (.inr (.inr (.inr hp)))))
          clear HT TQ TP TO hp hiT HD
          go_wp2_with (first | (go_at_call 16; with_reducible refine (CA _).mono ?_; rintro e wx ⟨rfl, hx⟩; obtain ⟨ux, rfl⟩ := after hx; clear hx) | fail)
          go_wp2_with (first | (go_at_call 54; with_reducible refine (PT _).mono ?_; rintro e wx ⟨rfl, hx⟩; obtain ⟨uy, rfl⟩ := after hx; clear hx) | fail)
          refine region_later (by kernel_rfl) (by kernel_rfl) ?_
          repeat (go_big_quiet_step ((first | (go_at_call 26; with_reducible exact Calls.later (VA_ _)) | fail)))
          refine wpQuiet_nil ?_
          rintro _ ⟨u9, rfl⟩
          go_wp2_with fail
          have hbx : Below (on u0).heap.size (on u0) (on u9) := below_on (by repeat first | (with_reducible exact Below.refl _ _) | (with_reducible refine below_on ?_ _) | (with_reducible refine below_alloc ?_ _)) u9
          exact ⟨⟨i + 1, M, o0, o1, o2, rfl, rfl, by omega, by omega, HD', ⟨_, hq.trans (hbx.mono hq.size)⟩, rfl, (hbx.block _ (held_lt hh)).trans hh, fun j hj => (hbx.frozen (p := ⟨w.heap.size + 1 + 1, j, none⟩) (held2 k6)).trans (HZ.out j hj), (hbx.cell (World.block_lt_of_cell? _ _ k0)).trans k0, (hbx.cell (World.block_lt_of_cell? _ _ k1)).trans k1, (hbx.cell (World.block_lt_of_cell? _ _ k2)).trans k2, (hbx.cell (World.block_lt_of_cell? _ _ k3)).trans k3, (hbx.cell (World.block_lt_of_cell? _ _ k4)).trans k4, (hbx.cell (World.block_lt_of_cell? _ _ k5)).trans k5, (hbx.cell (World.block_lt_of_cell? _ _ k6)).trans k6, (hbx.cell (World.block_lt_of_cell? _ _ k7)).trans k7, (hbx.cell (World.block_lt_of_cell? _ _ k8)).trans k8, (hbx.cell (World.block_lt_of_cell? _ _ k9)).trans k9, (hbx.cell (World.block_lt_of_cell? _ _ k10)).trans k10⟩, by simp [intOf]; omega⟩
    · obtain rfl : i = 8 := by omega
      have hd := HD.out
      obtain ⟨hd1, _⟩ | ⟨hd1, rfl, rfl, rfl, rfl⟩ := hd
      · omega
      · have e0 : (on u0).cell? ⟨w.heap.size + 1 + 1 + 1, 0, none⟩ = some (.int .u8 T) := held_cell hh 0
        have e1 : (on u0).cell? ⟨w.heap.size + 1 + 1 + 1, 1, none⟩ = some (.int .i64 (a - imX T 0 x y)) := held_cell hh 1
        have e2 : (on u0).cell? ⟨w.heap.size + 1 + 1 + 1, 2, none⟩ = some (.int .i64 (b - imY T 0 x y)) := held_cell hh 2
        have z0 := HZ.out 0 (by omega)
        have z1 := HZ.out 1 (by omega)
        have z2 := HZ.out 2 (by omega)
        clear HD TQ TP TO
        go_wp2_with fail
        exact bodyPost_ret (v := .tuple #[mv T (a - imX T 0 x y) (b - imY T 0 x y), .int .i64 1]) (by simp [results, Tryd.results29, go_sem, k6, k7, k8]) rfl ⟨rfl, (by repeat first | (with_reducible exact hq) | (with_reducible refine below_on ?_ _) | (with_reducible refine below_alloc ?_ _) | (with_reducible refine below_set ?_ (by simp; try omega) _))⟩

end Go.Proofs.YtgkiliijefkcaaaDoor
