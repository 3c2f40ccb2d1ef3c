/-
  Says: where moved takes a cell, by where its corners go.
-/
import Derived.Test.YtgkiliijefkcaaaDoorCf2
set_option linter.unusedVariables false
set_option linter.unusedSimpArgs false
namespace Go.Proofs.YtgkiliijefkcaaaDoor
open Go Go.RowKit

attribute [local go_sem] World.cell?_alloc_some frozen?_alloc_cells fz0 fz1 fz2 fz3 fz4 fz5

theorem held_c {W : World} (u : Later W) {a : Addr} {v : Value} (h : W.cell? a = some v) : (on u).cell? a = some v := (u.b.cell (World.block_lt_of_cell? _ _ h)).trans h
theorem frozen_on {W : World} (u : Later W) {b i : Nat} (h : b < W.heap.size) : (on u).frozen? ⟨b, i, none⟩ = W.frozen? ⟨b, i, none⟩ := u.b.frozen (p := ⟨b, i, none⟩) h
theorem held2 {W : World} {b i : Nat} {v : Value} (h : W.cell? ⟨b, i, none⟩ = some v) : b < W.heap.size := World.block_lt_of_cell? _ _ h
theorem far_cl {W : World} {b b' i j j' : Nat} {v : Value} (hne : b' ≠ b) (v0 v1 : Value) (h : W.cell? ⟨b', i, none⟩ = some v) : ((W.setCell ⟨b, j, none⟩ v0).setCell ⟨b, j', none⟩ v1).cell? ⟨b', i, none⟩ = some v := by
  rw [World.cell?_setCell_far _ _ _ _ (Ne.symm hne), World.cell?_setCell_far _ _ _ _ (Ne.symm hne)]; exact h
theorem far_fz {W : World} {b b' i j j' : Nat} (hne : b' ≠ b) (_ : True ∨ b' ≠ b) (v0 v1 : Value) (h : W.frozen? ⟨b', i, none⟩ = false) : ((W.setCell ⟨b, j, none⟩ v0).setCell ⟨b, j', none⟩ v1).frozen? ⟨b', i, none⟩ = false := by
  simpa using h

set_option maxRecDepth 100000 in
set_option maxHeartbeats 2000000 in
theorem moved_of (t X Y x y q px0 py0 px1 py1 px2 py2 rx0 ry0 rx1 ry1 rx2 ry2 a b c : Int) (w : World) (hL : Lay w) (CO : ∀ W, Lay W → Calls Tryd.prog 43 #[cl x y q] W fun e w' => e = .returned (.agg #[.int .i64 px0, .int .i64 py0, .int .i64 px1, .int .i64 py1, .int .i64 px2, .int .i64 py2]) ∧ Below W.heap.size W w') (P0 : ∀ W, Lay W → Calls Tryd.prog 65 #[mv t X Y, pt px0 py0] W fun e w' => e = .returned (.tuple #[pt rx0 ry0, .int .i64 0]) ∧ Below W.heap.size W w') (P1 : ∀ W, Lay W → Calls Tryd.prog 65 #[mv t X Y, pt px1 py1] W fun e w' => e = .returned (.tuple #[pt rx1 ry1, .int .i64 0]) ∧ Below W.heap.size W w') (P2 : ∀ W, Lay W → Calls Tryd.prog 65 #[mv t X Y, pt px2 py2] W fun e w' => e = .returned (.tuple #[pt rx2 ry2, .int .i64 0]) ∧ Below W.heap.size W w') (WI : ∀ W, Lay W → Calls Tryd.prog 66 #[.agg #[.int .i64 rx0, .int .i64 ry0, .int .i64 rx1, .int .i64 ry1, .int .i64 rx2, .int .i64 ry2]] W fun e w' => e = .returned (cl a b c) ∧ Below W.heap.size W w') : Calls Tryd.prog 53 #[mv t X Y, cl x y q] w fun e w' => e = .returned (cl a b c) ∧ Below w.heap.size w w' := by
  have hL' : ∀ W, Below w.heap.size w W → Lay W := fun W h => lay_below hL h
  go_enter Tryd.func53, Tryd.ntmps53
  go_wp2_with fail
  have hB0 : Below w.heap.size w (((w.alloc (.cells #[.int .u8 t, .int .i64 X, .int .i64 Y] 54)).alloc (.cells #[.int .i64 (x), .int .i64 (y), .int .u8 (q)] 23)).alloc (.cells #[.int .i64 0, .int .i64 0, .int .u8 0] 23)) := (by repeat first | (with_reducible exact Below.refl _ _) | (with_reducible refine below_on ?_ _) | (with_reducible refine below_alloc ?_ _) | (with_reducible refine below_set ?_ (by simp; try omega) _))
  have b00 : (((w.alloc (.cells #[.int .u8 t, .int .i64 X, .int .i64 Y] 54)).alloc (.cells #[.int .i64 (x), .int .i64 (y), .int .u8 (q)] 23)).alloc (.cells #[.int .i64 0, .int .i64 0, .int .u8 0] 23)).cell? ⟨w.heap.size, 0, none⟩ = some (.int .u8 t) := by simp [go_sem]
  have b01 : (((w.alloc (.cells #[.int .u8 t, .int .i64 X, .int .i64 Y] 54)).alloc (.cells #[.int .i64 (x), .int .i64 (y), .int .u8 (q)] 23)).alloc (.cells #[.int .i64 0, .int .i64 0, .int .u8 0] 23)).cell? ⟨w.heap.size, 1, none⟩ = some (.int .i64 X) := by simp [go_sem]
  have b02 : (((w.alloc (.cells #[.int .u8 t, .int .i64 X, .int .i64 Y] 54)).alloc (.cells #[.int .i64 (x), .int .i64 (y), .int .u8 (q)] 23)).alloc (.cells #[.int .i64 0, .int .i64 0, .int .u8 0] 23)).cell? ⟨w.heap.size, 2, none⟩ = some (.int .i64 Y) := by simp [go_sem]
  have b10 : (((w.alloc (.cells #[.int .u8 t, .int .i64 X, .int .i64 Y] 54)).alloc (.cells #[.int .i64 (x), .int .i64 (y), .int .u8 (q)] 23)).alloc (.cells #[.int .i64 0, .int .i64 0, .int .u8 0] 23)).cell? ⟨w.heap.size + 1, 0, none⟩ = some (.int .i64 (x)) := by simp [go_sem]
  have b11 : (((w.alloc (.cells #[.int .u8 t, .int .i64 X, .int .i64 Y] 54)).alloc (.cells #[.int .i64 (x), .int .i64 (y), .int .u8 (q)] 23)).alloc (.cells #[.int .i64 0, .int .i64 0, .int .u8 0] 23)).cell? ⟨w.heap.size + 1, 1, none⟩ = some (.int .i64 (y)) := by simp [go_sem]
  have b12 : (((w.alloc (.cells #[.int .u8 t, .int .i64 X, .int .i64 Y] 54)).alloc (.cells #[.int .i64 (x), .int .i64 (y), .int .u8 (q)] 23)).alloc (.cells #[.int .i64 0, .int .i64 0, .int .u8 0] 23)).cell? ⟨w.heap.size + 1, 2, none⟩ = some (.int .u8 (q)) := by simp [go_sem]
  have b20 : (((w.alloc (.cells #[.int .u8 t, .int .i64 X, .int .i64 Y] 54)).alloc (.cells #[.int .i64 (x), .int .i64 (y), .int .u8 (q)] 23)).alloc (.cells #[.int .i64 0, .int .i64 0, .int .u8 0] 23)).cell? ⟨w.heap.size + 1 + 1, 0, none⟩ = some (.int .i64 0) := by simp [go_sem]
  have fb20 : (((w.alloc (.cells #[.int .u8 t, .int .i64 X, .int .i64 Y] 54)).alloc (.cells #[.int .i64 (x), .int .i64 (y), .int .u8 (q)] 23)).alloc (.cells #[.int .i64 0, .int .i64 0, .int .u8 0] 23)).frozen? ⟨w.heap.size + 1 + 1, 0, none⟩ = false := by simp [go_sem]
  have b21 : (((w.alloc (.cells #[.int .u8 t, .int .i64 X, .int .i64 Y] 54)).alloc (.cells #[.int .i64 (x), .int .i64 (y), .int .u8 (q)] 23)).alloc (.cells #[.int .i64 0, .int .i64 0, .int .u8 0] 23)).cell? ⟨w.heap.size + 1 + 1, 1, none⟩ = some (.int .i64 0) := by simp [go_sem]
  have fb21 : (((w.alloc (.cells #[.int .u8 t, .int .i64 X, .int .i64 Y] 54)).alloc (.cells #[.int .i64 (x), .int .i64 (y), .int .u8 (q)] 23)).alloc (.cells #[.int .i64 0, .int .i64 0, .int .u8 0] 23)).frozen? ⟨w.heap.size + 1 + 1, 1, none⟩ = false := by simp [go_sem]
  have b22 : (((w.alloc (.cells #[.int .u8 t, .int .i64 X, .int .i64 Y] 54)).alloc (.cells #[.int .i64 (x), .int .i64 (y), .int .u8 (q)] 23)).alloc (.cells #[.int .i64 0, .int .i64 0, .int .u8 0] 23)).cell? ⟨w.heap.size + 1 + 1, 2, none⟩ = some (.int .u8 0) := by simp [go_sem]
  have fb22 : (((w.alloc (.cells #[.int .u8 t, .int .i64 X, .int .i64 Y] 54)).alloc (.cells #[.int .i64 (x), .int .i64 (y), .int .u8 (q)] 23)).alloc (.cells #[.int .i64 0, .int .i64 0, .int .u8 0] 23)).frozen? ⟨w.heap.size + 1 + 1, 2, none⟩ = false := by simp [go_sem]
  generalize (((w.alloc (.cells #[.int .u8 t, .int .i64 X, .int .i64 Y] 54)).alloc (.cells #[.int .i64 (x), .int .i64 (y), .int .u8 (q)] 23)).alloc (.cells #[.int .i64 0, .int .i64 0, .int .u8 0] 23)) = W0 at *
  go_wp2_with (first | (go_at_call 43; with_reducible refine (CO _ (hL' _ (by repeat first | (with_reducible exact hB0) | (with_reducible refine below_on ?_ _) | (with_reducible refine below_alloc ?_ _) | (with_reducible refine below_set ?_ (by simp; try omega) _)))).mono ?_; rintro e wx ⟨rfl, hx⟩; obtain ⟨ux, rfl⟩ := after hx; clear hx) | fail)
  have hQ : ((on ux).alloc (.cells #[.int .i64 px0, .int .i64 py0, .int .i64 px1, .int .i64 py1, .int .i64 px2, .int .i64 py2] 32)).heap[(on ux).heap.size]? = some (.cells #[.int .i64 px0, .int .i64 py0, .int .i64 px1, .int .i64 py1, .int .i64 px2, .int .i64 py2] 32) := heap_alloc_new _ _
  have hwx : w.heap.size + 1 + 1 < (on ux).heap.size := Nat.lt_of_lt_of_le (World.block_lt_of_cell? _ _ b20) (on_size ux)
  have hR : Below (W0).heap.size (W0) ((on ux).alloc (.cells #[.int .i64 px0, .int .i64 py0, .int .i64 px1, .int .i64 py1, .int .i64 px2, .int .i64 py2] 32)) := by repeat first | (with_reducible exact Below.refl _ _) | (with_reducible refine below_on ?_ _) | (with_reducible refine below_alloc ?_ _)
  have cR : ∀ {b i : Nat} {v : Value}, (W0).cell? ⟨b, i, none⟩ = some v → ((on ux).alloc (.cells #[.int .i64 px0, .int .i64 py0, .int .i64 px1, .int .i64 py1, .int .i64 px2, .int .i64 py2] 32)).cell? ⟨b, i, none⟩ = some v := fun h => (hR.cell (World.block_lt_of_cell? _ _ h)).trans h
  have fR : ∀ {b i : Nat} {v : Value}, (W0).cell? ⟨b, i, none⟩ = some v → (W0).frozen? ⟨b, i, none⟩ = false → ((on ux).alloc (.cells #[.int .i64 px0, .int .i64 py0, .int .i64 px1, .int .i64 py1, .int .i64 px2, .int .i64 py2] 32)).frozen? ⟨b, i, none⟩ = false := fun h g => (hR.frozen (World.block_lt_of_cell? _ _ h)).trans g
  have b00' := cR b00
  have b01' := cR b01
  have b02' := cR b02
  have b10' := cR b10
  have b11' := cR b11
  have b12' := cR b12
  have b20' := cR b20
  have fb20' := fR b20 fb20
  have b21' := cR b21
  have fb21' := fR b21 fb21
  have b22' := cR b22
  have fb22' := fR b22 fb22
  have hB1 : Below w.heap.size w ((on ux).alloc (.cells #[.int .i64 px0, .int .i64 py0, .int .i64 px1, .int .i64 py1, .int .i64 px2, .int .i64 py2] 32)) := by repeat first | (with_reducible exact hB0) | (with_reducible refine below_on ?_ _) | (with_reducible refine below_alloc ?_ _)
  clear hR cR fR b00 b01 b02 b10 b11 b12 b20 b21 b22 fb20 fb21 fb22 hB0
  generalize ((on ux).alloc (.cells #[.int .i64 px0, .int .i64 py0, .int .i64 px1, .int .i64 py1, .int .i64 px2, .int .i64 py2] 32)) = W1 at *
  generalize (on ux).heap.size = B1 at *
  clear ux
  have hwB : w.heap.size ≤ B1 := by omega
  have hRes : ∀ i < 3, W1.frozen? ⟨w.heap.size + 1 + 1, i, none⟩ = false := fun i hi => by
    obtain rfl | rfl | rfl : i = 0 ∨ i = 1 ∨ i = 2 := by omega
    · exact fb20'
    · exact fb21'
    · exact fb22'
  have HRes : Hid (∀ i < 3, W1.frozen? ⟨w.heap.size + 1 + 1, i, none⟩ = false) := hRes
  clear hRes fb20' fb21' fb22'
  go_loopw [9] (fun iv wr => ∃ i : Int, iv = .int .i64 i ∧ ∃ u : Later w, wr = on u ∧ (∀ i < 3, (on u).frozen? ⟨w.heap.size + 1 + 1, i, none⟩ = false) ∧ ((i = 0 ∧ (on u).heap[B1]? = some (.cells #[.int .i64 px0, .int .i64 py0, .int .i64 px1, .int .i64 py1, .int .i64 px2, .int .i64 py2] 32)) ∨ (i = 1 ∧ (on u).heap[B1]? = some (.cells #[.int .i64 rx0, .int .i64 ry0, .int .i64 px1, .int .i64 py1, .int .i64 px2, .int .i64 py2] 32)) ∨ (i = 2 ∧ (on u).heap[B1]? = some (.cells #[.int .i64 rx0, .int .i64 ry0, .int .i64 rx1, .int .i64 ry1, .int .i64 px2, .int .i64 py2] 32)) ∨ (i = 3 ∧ (on u).heap[B1]? = some (.cells #[.int .i64 rx0, .int .i64 ry0, .int .i64 rx1, .int .i64 ry1, .int .i64 rx2, .int .i64 ry2] 32))) ∧ (on u).cell? ⟨w.heap.size, 0, none⟩ = some (.int .u8 t) ∧ (on u).cell? ⟨w.heap.size, 1, none⟩ = some (.int .i64 X) ∧ (on u).cell? ⟨w.heap.size, 2, none⟩ = some (.int .i64 Y) ∧ (on u).cell? ⟨w.heap.size + 1, 0, none⟩ = some (.int .i64 (x)) ∧ (on u).cell? ⟨w.heap.size + 1, 1, none⟩ = some (.int .i64 (y)) ∧ (on u).cell? ⟨w.heap.size + 1, 2, none⟩ = some (.int .u8 (q)) ∧ (on u).cell? ⟨w.heap.size + 1 + 1, 0, none⟩ = some (.int .i64 0) ∧ (on u).cell? ⟨w.heap.size + 1 + 1, 1, none⟩ = some (.int .i64 0) ∧ (on u).cell? ⟨w.heap.size + 1 + 1, 2, none⟩ = some (.int .u8 0)) (fun iv _ => (3 - intOf iv).toNat)
  case atStart => exact ⟨0, rfl, ⟨_, hB1⟩, rfl, HRes.out, .inl ⟨rfl, hQ⟩, b00', b01', b02', b10', b11', b12', b20', b21', b22'⟩
  case round =>
    obtain ⟨i, rfl, u0, rfl, hz, hi, k0, k1, k2, k3, k4, k5, k6, k7, k8⟩ := hrel
    have hq : Below w.heap.size w (on u0) := u0.b
    have HZ : Hid (∀ i < 3, (on u0).frozen? ⟨w.heap.size + 1 + 1, i, none⟩ = false) := hz
    clear hz hQ HRes hB1 b00' b01' b02' b10' b11' b12' b20' b21' b22'
    obtain ⟨rfl, hh⟩ | ⟨rfl, hh⟩ | ⟨rfl, hh⟩ | ⟨rfl, hh⟩ := hi
    · have e0 : (on u0).cell? ⟨B1, 0, none⟩ = some (.int .i64 px0) := held_cell hh 0
      have e1 : (on u0).cell? ⟨B1, 1, none⟩ = some (.int .i64 py0) := held_cell hh 1
      have f0 : (on u0).frozen? ⟨B1, 0, none⟩ = false := held_free hh 0
      have f1 : (on u0).frozen? ⟨B1, 1, none⟩ = false := held_free hh 1
      go_wp2_with fail
      go_region_with (first | (go_at_call 65; with_reducible refine (P0 _ (hL' _ (by repeat first | (with_reducible exact hq) | (with_reducible refine below_drew ?_) | (with_reducible refine below_on ?_ _) | (with_reducible refine below_alloc ?_ _) | (with_reducible refine below_set ?_ (by simp; try omega) _)))).mono ?_; rintro e wx ⟨rfl, hx⟩; obtain ⟨ux, rfl⟩ := after hx; clear hx))
      all_goals go_wp2_with fail
      all_goals (
        have hbx : Below (on u0).heap.size (on u0) (on ux) := by repeat first | (with_reducible exact Below.refl _ _) | (with_reducible refine below_on ?_ _) | (with_reducible refine below_drew ?_)
        have fr : ∀ (b i : Nat) v, b ≠ B1 → (on u0).cell? ⟨b, i, none⟩ = some v → (((on ux).setCell ⟨B1, 0, none⟩ (.int .i64 rx0)).setCell ⟨B1, 1, none⟩ (.int .i64 ry0)).cell? ⟨b, i, none⟩ = some v := fun b i v hb hv => by
          rw [World.cell?_setCell_far _ _ _ _ (Ne.symm hb), World.cell?_setCell_far _ _ _ _ (Ne.symm hb)]
          exact (hbx.cell (World.block_lt_of_cell? _ _ hv)).trans hv
        have hhx : (on ux).heap[B1]? = _ := (hbx.block _ (held_lt hh)).trans hh
        exact ⟨⟨0 + 1, rfl, ⟨_, below_set (below_set (hq.trans (hbx.mono hq.size)) hwB _) hwB _⟩, rfl, fun i hi => far_fz (show _ ≠ B1 by omega) (.inl trivial) _ _ ((hbx.frozen (p := ⟨w.heap.size + 1 + 1, i, none⟩) (held2 k6)).trans (HZ.out i hi)), .inr (.inl ⟨rfl, held_set (held_set hhx 0 _) 1 _⟩), fr _ _ _ (by omega) k0, fr _ _ _ (by omega) k1, fr _ _ _ (by omega) k2, fr _ _ _ (by omega) k3, fr _ _ _ (by omega) k4, fr _ _ _ (by omega) k5, fr _ _ _ (by omega) k6, fr _ _ _ (by omega) k7, fr _ _ _ (by omega) k8⟩, by simp [intOf]⟩)
    · have e0 : (on u0).cell? ⟨B1, 2, none⟩ = some (.int .i64 px1) := held_cell hh 2
      have e1 : (on u0).cell? ⟨B1, 3, none⟩ = some (.int .i64 py1) := held_cell hh 3
      have f0 : (on u0).frozen? ⟨B1, 2, none⟩ = false := held_free hh 2
      have f1 : (on u0).frozen? ⟨B1, 3, none⟩ = false := held_free hh 3
      go_wp2_with fail
      go_region_with (first | (go_at_call 65; with_reducible refine (P1 _ (hL' _ (by repeat first | (with_reducible exact hq) | (with_reducible refine below_drew ?_) | (with_reducible refine below_on ?_ _) | (with_reducible refine below_alloc ?_ _) | (with_reducible refine below_set ?_ (by simp; try omega) _)))).mono ?_; rintro e wx ⟨rfl, hx⟩; obtain ⟨ux, rfl⟩ := after hx; clear hx))
      all_goals go_wp2_with fail
      all_goals (
        have hbx : Below (on u0).heap.size (on u0) (on ux) := by repeat first | (with_reducible exact Below.refl _ _) | (with_reducible refine below_on ?_ _) | (with_reducible refine below_drew ?_)
        have fr : ∀ (b i : Nat) v, b ≠ B1 → (on u0).cell? ⟨b, i, none⟩ = some v → (((on ux).setCell ⟨B1, 2, none⟩ (.int .i64 rx1)).setCell ⟨B1, 3, none⟩ (.int .i64 ry1)).cell? ⟨b, i, none⟩ = some v := fun b i v hb hv => by
          rw [World.cell?_setCell_far _ _ _ _ (Ne.symm hb), World.cell?_setCell_far _ _ _ _ (Ne.symm hb)]
          exact (hbx.cell (World.block_lt_of_cell? _ _ hv)).trans hv
        have hhx : (on ux).heap[B1]? = _ := (hbx.block _ (held_lt hh)).trans hh
        exact ⟨⟨1 + 1, rfl, ⟨_, below_set (below_set (hq.trans (hbx.mono hq.size)) hwB _) hwB _⟩, rfl, fun i hi => far_fz (show _ ≠ B1 by omega) (.inl trivial) _ _ ((hbx.frozen (p := ⟨w.heap.size + 1 + 1, i, none⟩) (held2 k6)).trans (HZ.out i hi)), .inr (.inr (.inl ⟨rfl, held_set (held_set hhx 2 _) 3 _⟩)), fr _ _ _ (by omega) k0, fr _ _ _ (by omega) k1, fr _ _ _ (by omega) k2, fr _ _ _ (by omega) k3, fr _ _ _ (by omega) k4, fr _ _ _ (by omega) k5, fr _ _ _ (by omega) k6, fr _ _ _ (by omega) k7, fr _ _ _ (by omega) k8⟩, by simp [intOf]⟩)
    · have e0 : (on u0).cell? ⟨B1, 4, none⟩ = some (.int .i64 px2) := held_cell hh 4
      have e1 : (on u0).cell? ⟨B1, 5, none⟩ = some (.int .i64 py2) := held_cell hh 5
      have f0 : (on u0).frozen? ⟨B1, 4, none⟩ = false := held_free hh 4
      have f1 : (on u0).frozen? ⟨B1, 5, none⟩ = false := held_free hh 5
      go_wp2_with fail
      go_region_with (first | (go_at_call 65; with_reducible refine (P2 _ (hL' _ (by repeat first | (with_reducible exact hq) | (with_reducible refine below_drew ?_) | (with_reducible refine below_on ?_ _) | (with_reducible refine below_alloc ?_ _) | (with_reducible refine below_set ?_ (by simp; try omega) _)))).mono ?_; rintro e wx ⟨rfl, hx⟩; obtain ⟨ux, rfl⟩ := after hx; clear hx))
      all_goals go_wp2_with fail
      all_goals (
        have hbx : Below (on u0).heap.size (on u0) (on ux) := by repeat first | (with_reducible exact Below.refl _ _) | (with_reducible refine below_on ?_ _) | (with_reducible refine below_drew ?_)
        have fr : ∀ (b i : Nat) v, b ≠ B1 → (on u0).cell? ⟨b, i, none⟩ = some v → (((on ux).setCell ⟨B1, 4, none⟩ (.int .i64 rx2)).setCell ⟨B1, 5, none⟩ (.int .i64 ry2)).cell? ⟨b, i, none⟩ = some v := fun b i v hb hv => by
          rw [World.cell?_setCell_far _ _ _ _ (Ne.symm hb), World.cell?_setCell_far _ _ _ _ (Ne.symm hb)]
          exact (hbx.cell (World.block_lt_of_cell? _ _ hv)).trans hv
        have hhx : (on ux).heap[B1]? = _ := (hbx.block _ (held_lt hh)).trans hh
        exact ⟨⟨2 + 1, rfl, ⟨_, below_set (below_set (hq.trans (hbx.mono hq.size)) hwB _) hwB _⟩, rfl, fun i hi => far_fz (show _ ≠ B1 by omega) (.inl trivial) _ _ ((hbx.frozen (p := ⟨w.heap.size + 1 + 1, i, none⟩) (held2 k6)).trans (HZ.out i hi)), .inr (.inr (.inr (⟨rfl, held_set (held_set hhx 4 _) 5 _⟩))), fr _ _ _ (by omega) k0, fr _ _ _ (by omega) k1, fr _ _ _ (by omega) k2, fr _ _ _ (by omega) k3, fr _ _ _ (by omega) k4, fr _ _ _ (by omega) k5, fr _ _ _ (by omega) k6, fr _ _ _ (by omega) k7, fr _ _ _ (by omega) k8⟩, by simp [intOf]⟩)
    · have e0 : (on u0).cell? ⟨B1, 0, none⟩ = some (.int .i64 rx0) := held_cell hh 0
      have e1 : (on u0).cell? ⟨B1, 1, none⟩ = some (.int .i64 ry0) := held_cell hh 1
      have e2 : (on u0).cell? ⟨B1, 2, none⟩ = some (.int .i64 rx1) := held_cell hh 2
      have e3 : (on u0).cell? ⟨B1, 3, none⟩ = some (.int .i64 ry1) := held_cell hh 3
      have e4 : (on u0).cell? ⟨B1, 4, none⟩ = some (.int .i64 rx2) := held_cell hh 4
      have e5 : (on u0).cell? ⟨B1, 5, none⟩ = some (.int .i64 ry2) := held_cell hh 5
      have z0 := HZ.out 0 (by omega)
      have z1 := HZ.out 1 (by omega)
      have z2 := HZ.out 2 (by omega)
      go_wp2_with (first | (go_at_call 66; with_reducible refine (WI _ (hL' _ (by repeat first | (with_reducible exact hq) | (with_reducible refine below_on ?_ _) | (with_reducible refine below_alloc ?_ _) | (with_reducible refine below_set ?_ (by simp; try omega) _)))).mono ?_; rintro e wx ⟨rfl, hx⟩; obtain ⟨ux, rfl⟩ := after hx; clear hx) | fail)
      exact bodyPost_ret (v := cl a b c) (by simp [results, Tryd.results53, go_sem, k6, k7, k8]) rfl ⟨rfl, (by repeat first | (with_reducible exact hq) | (with_reducible refine below_on ?_ _) | (with_reducible refine below_alloc ?_ _) | (with_reducible refine below_set ?_ (by simp; try omega) _))⟩

end Go.Proofs.YtgkiliijefkcaaaDoor
