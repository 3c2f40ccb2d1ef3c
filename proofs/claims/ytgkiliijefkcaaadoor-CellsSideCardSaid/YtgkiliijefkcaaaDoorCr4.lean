/-
  Says: what Move, Neighbour and Side of the reference give, by what their callees give.
-/
import Derived.Test.YtgkiliijefkcaaaDoorCr1
import Derived.Test.YtgkiliijefkcaaaDoorRfA
set_option linter.unusedVariables false
set_option linter.unusedSimpArgs false
namespace Go.Proofs.YtgkiliijefkcaaaDoor
open Go Go.RowKit

attribute [local go_sem] World.cell?_alloc_some frozen?_alloc_cells fz0 fz1 fz2 fz3 fz4 fz5

set_option maxRecDepth 100000 in
set_option maxHeartbeats 2000000 in
theorem rmove_of (t X Y x y q px0 py0 px1 py1 px2 py2 rx0 ry0 rx1 ry1 rx2 ry2 a b c : Int) (w : World) (CO : ∀ W, Calls Tryd.prog 16 #[cl x y q] W fun e w' => e = .returned (.agg #[.int .i64 px0, .int .i64 py0, .int .i64 px1, .int .i64 py1, .int .i64 px2, .int .i64 py2]) ∧ Below W.heap.size W w') (P0 : ∀ W, Calls Tryd.prog 54 #[mv t X Y, pt px0 py0] W fun e w' => e = .returned (pt rx0 ry0) ∧ Below W.heap.size W w') (P1 : ∀ W, Calls Tryd.prog 54 #[mv t X Y, pt px1 py1] W fun e w' => e = .returned (pt rx1 ry1) ∧ Below W.heap.size W w') (P2 : ∀ W, Calls Tryd.prog 54 #[mv t X Y, pt px2 py2] W fun e w' => e = .returned (pt rx2 ry2) ∧ Below W.heap.size W w') (WI : ∀ W, Calls Tryd.prog 50 #[.agg #[.int .i64 rx0, .int .i64 ry0, .int .i64 rx1, .int .i64 ry1, .int .i64 rx2, .int .i64 ry2]] W fun e w' => e = .returned (cl a b c) ∧ Below W.heap.size W w') : Calls Tryd.prog 27 #[mv t X Y, cl x y q] w fun e w' => e = .returned (cl a b c) ∧ Below w.heap.size w w' := by
  go_enter Tryd.func27, Tryd.ntmps27
  go_wp2_with fail
  have hB0 : Below w.heap.size w (((w.alloc (.cells #[.int .u8 t, .int .i64 X, .int .i64 Y] 54)).alloc (.cells #[.int .i64 (x), .int .i64 (y), .int .u8 (q)] 23)).alloc (.cells #[.int .i64 0, .int .i64 0, .int .u8 0] 23)) := (by repeat first | (with_reducible exact Below.refl _ _) | (with_reducible refine below_on ?_ _) | (with_reducible refine below_alloc ?_ _) | (with_reducible refine below_set ?_ (by simp; try omega) _))
  have b00 : (((w.alloc (.cells #[.int .u8 t, .int .i64 X, .int .i64 Y] 54)).alloc (.cells #[.int .i64 (x), .int .i64 (y), .int .u8 (q)] 23)).alloc (.cells #[.int .i64 0, .int .i64 0, .int .u8 0] 23)).cell? ⟨w.heap.size, 0, none⟩ = some (.int .u8 t) := by simp [go_sem]
  have b01 : (((w.alloc (.cells #[.int .u8 t, .int .i64 X, .int .i64 Y] 54)).alloc (.cells #[.int .i64 (x), .int .i64 (y), .int .u8 (q)] 23)).alloc (.cells #[.int .i64 0, .int .i64 0, .int .u8 0] 23)).cell? ⟨w.heap.size, 1, none⟩ = some (.int .i64 X) := by simp [go_sem]
  have b02 : (((w.alloc (.cells #[.int .u8 t, .int .i64 X, .int .i64 Y] 54)).alloc (.cells #[.int .i64 (x), .int .i64 (y), .int .u8 (q)] 23)).alloc (.cells #[.int .i64 0, .int .i64 0, .int .u8 0] 23)).cell? ⟨w.heap.size, 2, none⟩ = some (.int .i64 Y) := by simp [go_sem]
  have b10 : (((w.alloc (.cells #[.int .u8 t, .int .i64 X, .int .i64 Y] 54)).alloc (.cells #[.int .i64 (x), .int .i64 (y), .int .u8 (q)] 23)).alloc (.cells #[.int .i64 0, .int .i64 0, .int .u8 0] 23)).cell? ⟨w.heap.size + 1, 0, none⟩ = some (.int .i64 (x)) := by simp [go_sem]
  have b11 : (((w.alloc (.cells #[.int .u8 t, .int .i64 X, .int .i64 Y] 54)).alloc (.cells #[.int .i64 (x), .int .i64 (y), .int .u8 (q)] 23)).alloc (.cells #[.int .i64 0, .int .i64 0, .int .u8 0] 23)).cell? ⟨w.heap.size + 1, 1, none⟩ = some (.int .i64 (y)) := by simp [go_sem]
  have b12 : (((w.alloc (.cells #[.int .u8 t, .int .i64 X, .int .i64 Y] 54)).alloc (.cells #[.int .i64 (x), .int .i64 (y), .int .u8 (q)] 23)).alloc (.cells #[.int .i64 0, .int .i64 0, .int .u8 0] 23)).cell? ⟨w.heap.size + 1, 2, none⟩ = some (.int .u8 (q)) := by simp [go_sem]
  have b20 : (((w.alloc (.cells #[.int .u8 t, .int .i64 X, .int .i64 Y] 54)).alloc (.cells #[.int .i64 (x), .int .i64 (y), .int .u8 (q)] 23)).alloc (.cells #[.int .i64 0, .int .i64 0, .int .u8 0] 23)).cell? ⟨w.heap.size + 1 + 1, 0, none⟩ = some (.int .i64 0) := by simp [go_sem]
  have fb20 : (((w.alloc (.cells #[.int .u8 t, .int .i64 X, .int .i64 Y] 54)).alloc (.cells #[.int .i64 (x), .int .i64 (y), .int .u8 (q)] 23)).alloc (.cells #[.int .i64 0, .int .i64 0, .int .u8 0] 23)).frozen? ⟨w.heap.size + 1 + 1, 0, none⟩ = false := by simp [go_sem]
  have b21 : (((w.alloc (.cells #[.int .u8 t, .int .i64 X, .int .i64 Y] 54)).alloc (.cells #[.int .i64 (x), .int .i64 (y), .int .u8 (q)] 23)).alloc (.cells #[.int .i64 0, .int .i64 0, .int .u8 0] 23)).cell? ⟨w.heap.size + 1 + 1, 1, none⟩ = some (.int .i64 0) := by simp [go_sem]
  have fb21 : (((w.alloc (.cells #[.int .u8 t, .int .i64 X, .int .i64 Y] 54)).alloc (.cells #[.int .i64 (x), .int .i64 (y), .int .u8 (q)] 23)).alloc (.cells #[.int .i64 0, .int .i64 0, .int .u8 0] 23)).frozen? ⟨w.heap.size + 1 + 1, 1, none⟩ = false := by simp [go_sem]
  have b22 : (((w.alloc (.cells #[.int .u8 t, .int .i64 X, .int .i64 Y] 54)).alloc (.cells #[.int .i64 (x), .int .i64 (y), .int .u8 (q)] 23)).alloc (.cells #[.int .i64 0, .int .i64 0, .int .u8 0] 23)).cell? ⟨w.heap.size + 1 + 1, 2, none⟩ = some (.int .u8 0) := by simp [go_sem]
  have fb22 : (((w.alloc (.cells #[.int .u8 t, .int .i64 X, .int .i64 Y] 54)).alloc (.cells #[.int .i64 (x), .int .i64 (y), .int .u8 (q)] 23)).alloc (.cells #[.int .i64 0, .int .i64 0, .int .u8 0] 23)).frozen? ⟨w.heap.size + 1 + 1, 2, none⟩ = false := by simp [go_sem]
  generalize (((w.alloc (.cells #[.int .u8 t, .int .i64 X, .int .i64 Y] 54)).alloc (.cells #[.int .i64 (x), .int .i64 (y), .int .u8 (q)] 23)).alloc (.cells #[.int .i64 0, .int .i64 0, .int .u8 0] 23)) = W0 at *
  go_wp2_with (first | (go_at_call 16; with_reducible refine (CO _ ).mono ?_; rintro e wx ⟨rfl, hx⟩; obtain ⟨ux, rfl⟩ := after hx; clear hx) | fail)
  have hQ : ((on ux).alloc (.cells #[.int .i64 px0, .int .i64 py0, .int .i64 px1, .int .i64 py1, .int .i64 px2, .int .i64 py2] 32)).heap[(on ux).heap.size]? = some (.cells #[.int .i64 px0, .int .i64 py0, .int .i64 px1, .int .i64 py1, .int .i64 px2, .int .i64 py2] 32) := heap_alloc_new _ _
  have hwx : w.heap.size + 1 + 1 < (on ux).heap.size := Nat.lt_of_lt_of_le (World.block_lt_of_cell? _ _ b20) (on_size ux)
  have hR : Below (W0).heap.size (W0) ((on ux).alloc (.cells #[.int .i64 px0, .int .i64 py0, .int .i64 px1, .int .i64 py1, .int .i64 px2, .int .i64 py2] 32)) := by repeat first | (with_reducible exact Below.refl _ _) | (with_reducible refine below_on ?_ _) | (with_reducible refine below_alloc ?_ _)
  have cR : ∀ {b i : Nat} {v : Value}, (W0).cell? ⟨b, i, none⟩ = some v → ((on ux).alloc (.cells #[.int .i64 px0, .int .i64 py0, .int .i64 px1, .int .i64 py1, .int .i64 px2, .int .i64 py2] 32)).cell? ⟨b, i, none⟩ = some v := fun h => (hR.cell (World.block_lt_of_cell? _ _ h)).trans h
  have fR : ∀ {b i : Nat} {v : Value}, (W0).cell? ⟨b, i, none⟩ = some v → (W0).frozen? ⟨b, i, none⟩ = false → ((on ux).alloc (.cells #[.int .i64 px0, .int .i64 py0, .int .i64 px1, .int .i64 py1, .int .i64 px2, .int .i64 py2] 32)).frozen? ⟨b, i, none⟩ = false := fun h g => (hR.frozen (World.block_lt_of_cell? _ _ h)).trans g
  have b00' := cR b00
  have b01' := cR b01
  have b02' := cR b02
  have b10' := cR b10
  have b11' := cR b11
  have b12' := cR b12
  have b20' := cR b20
  have fb20' := fR b20 fb20
  have b21' := cR b21
  have fb21' := fR b21 fb21
  have b22' := cR b22
  have fb22' := fR b22 fb22
  have hB1 : Below w.heap.size w ((on ux).alloc (.cells #[.int .i64 px0, .int .i64 py0, .int .i64 px1, .int .i64 py1, .int .i64 px2, .int .i64 py2] 32)) := by repeat first | (with_reducible exact hB0) | (with_reducible refine below_on ?_ _) | (with_reducible refine below_alloc ?_ _)
  clear hR cR fR b00 b01 b02 b10 b11 b12 b20 b21 b22 fb20 fb21 fb22 hB0
  generalize ((on ux).alloc (.cells #[.int .i64 px0, .int .i64 py0, .int .i64 px1, .int .i64 py1, .int .i64 px2, .int .i64 py2] 32)) = W1 at *
  generalize (on ux).heap.size = B1 at *
  clear ux
  have hwB : w.heap.size ≤ B1 := by omega
  have hRes : ∀ i < 3, W1.frozen? ⟨w.heap.size + 1 + 1, i, none⟩ = false := fun i hi => by
    obtain rfl | rfl | rfl : i = 0 ∨ i = 1 ∨ i = 2 := by omega
    · exact fb20'
    · exact fb21'
    · exact fb22'
  have HRes : Hid (∀ i < 3, W1.frozen? ⟨w.heap.size + 1 + 1, i, none⟩ = false) := hRes
  clear hRes fb20' fb21' fb22'
  go_loopw [6] (fun iv wr => ∃ i : Int, iv = .int .i64 i ∧ ∃ u : Later w, wr = on u ∧ (∀ i < 3, (on u).frozen? ⟨w.heap.size + 1 + 1, i, none⟩ = false) ∧ ((i = 0 ∧ (on u).heap[B1]? = some (.cells #[.int .i64 px0, .int .i64 py0, .int .i64 px1, .int .i64 py1, .int .i64 px2, .int .i64 py2] 32)) ∨ (i = 1 ∧ (on u).heap[B1]? = some (.cells #[.int .i64 rx0, .int .i64 ry0, .int .i64 px1, .int .i64 py1, .int .i64 px2, .int .i64 py2] 32)) ∨ (i = 2 ∧ (on u).heap[B1]? = some (.cells #[.int .i64 rx0, .int .i64 ry0, .int .i64 rx1, .int .i64 ry1, .int .i64 px2, .int .i64 py2] 32)) ∨ (i = 3 ∧ (on u).heap[B1]? = some (.cells #[.int .i64 rx0, .int .i64 ry0, .int .i64 rx1, .int .i64 ry1, .int .i64 rx2, .int .i64 ry2] 32))) ∧ (on u).cell? ⟨w.heap.size, 0, none⟩ = some (.int .u8 t) ∧ (on u).cell? ⟨w.heap.size, 1, none⟩ = some (.int .i64 X) ∧ (on u).cell? ⟨w.heap.size, 2, none⟩ = some (.int .i64 Y) ∧ (on u).cell? ⟨w.heap.size + 1, 0, none⟩ = some (.int .i64 (x)) ∧ (on u).cell? ⟨w.heap.size + 1, 1, none⟩ = some (.int .i64 (y)) ∧ (on u).cell? ⟨w.heap.size + 1, 2, none⟩ = some (.int .u8 (q)) ∧ (on u).cell? ⟨w.heap.size + 1 + 1, 0, none⟩ = some (.int .i64 0) ∧ (on u).cell? ⟨w.heap.size + 1 + 1, 1, none⟩ = some (.int .i64 0) ∧ (on u).cell? ⟨w.heap.size + 1 + 1, 2, none⟩ = some (.int .u8 0)) (fun iv _ => (3 - intOf iv).toNat)
  case atStart => exact ⟨0, rfl, ⟨_, hB1⟩, rfl, HRes.out, .inl ⟨rfl, hQ⟩, b00', b01', b02', b10', b11', b12', b20', b21', b22'⟩
  case round =>
    obtain ⟨i, rfl, u0, rfl, hz, hi, k0, k1, k2, k3, k4, k5, k6, k7, k8⟩ := hrel
    have hq : Below w.heap.size w (on u0) := u0.b
    have HZ : Hid (∀ i < 3, (on u0).frozen? ⟨w.heap.size + 1 + 1, i, none⟩ = false) := hz
    clear hz hQ HRes hB1 b00' b01' b02' b10' b11' b12' b20' b21' b22'
    obtain ⟨rfl, hh⟩ | ⟨rfl, hh⟩ | ⟨rfl, hh⟩ | ⟨rfl, hh⟩ := hi
    · have e0 : (on u0).cell? ⟨B1, 0, none⟩ = some (.int .i64 px0) := held_cell hh 0
      have e1 : (on u0).cell? ⟨B1, 1, none⟩ = some (.int .i64 py0) := held_cell hh 1
      go_wp2_with fail
      refine region_tail 7 (by kernel_rfl) (by kernel_rfl) ?_
      simp only [List.take_succ_cons, List.take_zero, List.drop_succ_cons, List.drop_zero]
      repeat (first
        | (refine wpLex_plain (by rfl) (by rfl) (by rfl) (fun K hK => ?_); go_big_quiet_op; refine hK _ ?_; clear hK K)
        | (refine wpLex_call (by rfl) (by rfl) (fun K hK => ?_); go_simp; apply Exists.intro; refine ⟨fun _ => ?_, hK _ ?_⟩; ((first | (go_at_call 54; with_reducible exact Calls.laterL (P0 _ )))); clear hK K)
        | (refine wpLex_new (by rfl) ?_; simp only [Act.put, List.setIfInBounds_toArray, List.set_cons_zero, List.set_cons_succ]))
      refine wpLex_nil ?_
      intro u9
      have m := held_on u9 hh
      have f0 : (on u9).frozen? ⟨B1, 0, none⟩ = false := held_free m 0
      have f1 : (on u9).frozen? ⟨B1, 1, none⟩ = false := held_free m 1
      have c0 : (on u9).cell? ⟨B1, 0, none⟩ = some (.int .i64 px0) := held_cell m 0
      have c1 : (on u9).cell? ⟨B1, 1, none⟩ = some (.int .i64 py0) := held_cell m 1
      have g1 : ∀ v, ((on u9).setCell ⟨B1, 0, none⟩ v).frozen? ⟨B1, 1, none⟩ = false := fun v => held_free (held_set m 0 v) 1
      have HC : Hid ((on u0).cell? ⟨w.heap.size, 0, none⟩ = some (.int .u8 t) ∧ (on u0).cell? ⟨w.heap.size, 1, none⟩ = some (.int .i64 X) ∧ (on u0).cell? ⟨w.heap.size, 2, none⟩ = some (.int .i64 Y) ∧ (on u0).cell? ⟨w.heap.size + 1, 0, none⟩ = some (.int .i64 (x)) ∧ (on u0).cell? ⟨w.heap.size + 1, 1, none⟩ = some (.int .i64 (y)) ∧ (on u0).cell? ⟨w.heap.size + 1, 2, none⟩ = some (.int .u8 (q)) ∧ (on u0).cell? ⟨w.heap.size + 1 + 1, 0, none⟩ = some (.int .i64 0) ∧ (on u0).cell? ⟨w.heap.size + 1 + 1, 1, none⟩ = some (.int .i64 0) ∧ (on u0).cell? ⟨w.heap.size + 1 + 1, 2, none⟩ = some (.int .u8 0)) := ⟨k0, k1, k2, k3, k4, k5, k6, k7, k8⟩
      clear k0 k1 k2 k3 k4 k5 k6 k7 k8 e0 e1
      go_wp2_with fail
      obtain ⟨p, hp, hh2⟩ := stored1 (u := thn u0 u9) hwB m 0 (.int .i64 rx0)
      obtain ⟨p2, hp2, hh3⟩ := stored1 (u := p) hwB hh2 1 (.int .i64 ry0)
      have hE : ((on u9).setCell ⟨B1, 0, none⟩ (.int .i64 rx0)).setCell ⟨B1, 1, none⟩ (.int .i64 ry0) = on p2 := by rw [← hp2, ← hp]; rfl
      have hD := HC.out
      rw [hE]
      refine ⟨⟨0 + 1, rfl, p2, rfl, fun i hi => ?_, .inr (.inl ⟨rfl, hh3⟩), ?_, ?_, ?_, ?_, ?_, ?_, ?_, ?_, ?_⟩, by simp [intOf]⟩
      · rw [← hE]; exact far_fz (by omega) (by omega) _ _ ((frozen_on u9 (held2 hD.2.2.2.2.2.2.1)).trans (HZ.out i hi))
      all_goals rw [← hE]
      · exact far_cl (by omega) _ _ (held_c u9 hD.1)
      · exact far_cl (by omega) _ _ (held_c u9 hD.2.1)
      · exact far_cl (by omega) _ _ (held_c u9 hD.2.2.1)
      · exact far_cl (by omega) _ _ (held_c u9 hD.2.2.2.1)
      · exact far_cl (by omega) _ _ (held_c u9 hD.2.2.2.2.1)
      · exact far_cl (by omega) _ _ (held_c u9 hD.2.2.2.2.2.1)
      · exact far_cl (by omega) _ _ (held_c u9 hD.2.2.2.2.2.2.1)
      · exact far_cl (by omega) _ _ (held_c u9 hD.2.2.2.2.2.2.2.1)
      · exact far_cl (by omega) _ _ (held_c u9 hD.2.2.2.2.2.2.2.2)
    · have e0 : (on u0).cell? ⟨B1, 2, none⟩ = some (.int .i64 px1) := held_cell hh 2
      have e1 : (on u0).cell? ⟨B1, 3, none⟩ = some (.int .i64 py1) := held_cell hh 3
      go_wp2_with fail
      refine region_tail 7 (by kernel_rfl) (by kernel_rfl) ?_
      simp only [List.take_succ_cons, List.take_zero, List.drop_succ_cons, List.drop_zero]
      repeat (first
        | (refine wpLex_plain (by rfl) (by rfl) (by rfl) (fun K hK => ?_); go_big_quiet_op; refine hK _ ?_; clear hK K)
        | (refine wpLex_call (by rfl) (by rfl) (fun K hK => ?_); go_simp; apply Exists.intro; refine ⟨fun _ => ?_, hK _ ?_⟩; ((first | (go_at_call 54; with_reducible exact Calls.laterL (P1 _ )))); clear hK K)
        | (refine wpLex_new (by rfl) ?_; simp only [Act.put, List.setIfInBounds_toArray, List.set_cons_zero, List.set_cons_succ]))
      refine wpLex_nil ?_
      intro u9
      have m := held_on u9 hh
      have f0 : (on u9).frozen? ⟨B1, 2, none⟩ = false := held_free m 2
      have f1 : (on u9).frozen? ⟨B1, 3, none⟩ = false := held_free m 3
      have c0 : (on u9).cell? ⟨B1, 2, none⟩ = some (.int .i64 px1) := held_cell m 2
      have c1 : (on u9).cell? ⟨B1, 3, none⟩ = some (.int .i64 py1) := held_cell m 3
      have g1 : ∀ v, ((on u9).setCell ⟨B1, 2, none⟩ v).frozen? ⟨B1, 3, none⟩ = false := fun v => held_free (held_set m 2 v) 3
      have HC : Hid ((on u0).cell? ⟨w.heap.size, 0, none⟩ = some (.int .u8 t) ∧ (on u0).cell? ⟨w.heap.size, 1, none⟩ = some (.int .i64 X) ∧ (on u0).cell? ⟨w.heap.size, 2, none⟩ = some (.int .i64 Y) ∧ (on u0).cell? ⟨w.heap.size + 1, 0, none⟩ = some (.int .i64 (x)) ∧ (on u0).cell? ⟨w.heap.size + 1, 1, none⟩ = some (.int .i64 (y)) ∧ (on u0).cell? ⟨w.heap.size + 1, 2, none⟩ = some (.int .u8 (q)) ∧ (on u0).cell? ⟨w.heap.size + 1 + 1, 0, none⟩ = some (.int .i64 0) ∧ (on u0).cell? ⟨w.heap.size + 1 + 1, 1, none⟩ = some (.int .i64 0) ∧ (on u0).cell? ⟨w.heap.size + 1 + 1, 2, none⟩ = some (.int .u8 0)) := ⟨k0, k1, k2, k3, k4, k5, k6, k7, k8⟩
      clear k0 k1 k2 k3 k4 k5 k6 k7 k8 e0 e1
      go_wp2_with fail
      obtain ⟨p, hp, hh2⟩ := stored1 (u := thn u0 u9) hwB m 2 (.int .i64 rx1)
      obtain ⟨p2, hp2, hh3⟩ := stored1 (u := p) hwB hh2 3 (.int .i64 ry1)
      have hE : ((on u9).setCell ⟨B1, 2, none⟩ (.int .i64 rx1)).setCell ⟨B1, 3, none⟩ (.int .i64 ry1) = on p2 := by rw [← hp2, ← hp]; rfl
      have hD := HC.out
      rw [hE]
      refine ⟨⟨1 + 1, rfl, p2, rfl, fun i hi => ?_, .inr (.inr (.inl ⟨rfl, hh3⟩)), ?_, ?_, ?_, ?_, ?_, ?_, ?_, ?_, ?_⟩, by simp [intOf]⟩
      · rw [← hE]; exact far_fz (by omega) (by omega) _ _ ((frozen_on u9 (held2 hD.2.2.2.2.2.2.1)).trans (HZ.out i hi))
      all_goals rw [← hE]
      · exact far_cl (by omega) _ _ (held_c u9 hD.1)
      · exact far_cl (by omega) _ _ (held_c u9 hD.2.1)
      · exact far_cl (by omega) _ _ (held_c u9 hD.2.2.1)
      · exact far_cl (by omega) _ _ (held_c u9 hD.2.2.2.1)
      · exact far_cl (by omega) _ _ (held_c u9 hD.2.2.2.2.1)
      · exact far_cl (by omega) _ _ (held_c u9 hD.2.2.2.2.2.1)
      · exact far_cl (by omega) _ _ (held_c u9 hD.2.2.2.2.2.2.1)
      · exact far_cl (by omega) _ _ (held_c u9 hD.2.2.2.2.2.2.2.1)
      · exact far_cl (by omega) _ _ (held_c u9 hD.2.2.2.2.2.2.2.2)
    · have e0 : (on u0).cell? ⟨B1, 4, none⟩ = some (.int .i64 px2) := held_cell hh 4
      have e1 : (on u0).cell? ⟨B1, 5, none⟩ = some (.int .i64 py2) := held_cell hh 5
      go_wp2_with fail
      refine region_tail 7 (by kernel_rfl) (by kernel_rfl) ?_
      simp only [List.take_succ_cons, List.take_zero, List.drop_succ_cons, List.drop_zero]
      repeat (first
        | (refine wpLex_plain (by rfl) (by rfl) (by rfl) (fun K hK => ?_); go_big_quiet_op; refine hK _ ?_; clear hK K)
        | (refine wpLex_call (by rfl) (by rfl) (fun K hK => ?_); go_simp; apply Exists.intro; refine ⟨fun _ => ?_, hK _ ?_⟩; ((first | (go_at_call 54; with_reducible exact Calls.laterL (P2 _ )))); clear hK K)
        | (refine wpLex_new (by rfl) ?_; simp only [Act.put, List.setIfInBounds_toArray, List.set_cons_zero, List.set_cons_succ]))
      refine wpLex_nil ?_
      intro u9
      have m := held_on u9 hh
      have f0 : (on u9).frozen? ⟨B1, 4, none⟩ = false := held_free m 4
      have f1 : (on u9).frozen? ⟨B1, 5, none⟩ = false := held_free m 5
      have c0 : (on u9).cell? ⟨B1, 4, none⟩ = some (.int .i64 px2) := held_cell m 4
      have c1 : (on u9).cell? ⟨B1, 5, none⟩ = some (.int .i64 py2) := held_cell m 5
      have g1 : ∀ v, ((on u9).setCell ⟨B1, 4, none⟩ v).frozen? ⟨B1, 5, none⟩ = false := fun v => held_free (held_set m 4 v) 5
      have HC : Hid ((on u0).cell? ⟨w.heap.size, 0, none⟩ = some (.int .u8 t) ∧ (on u0).cell? ⟨w.heap.size, 1, none⟩ = some (.int .i64 X) ∧ (on u0).cell? ⟨w.heap.size, 2, none⟩ = some (.int .i64 Y) ∧ (on u0).cell? ⟨w.heap.size + 1, 0, none⟩ = some (.int .i64 (x)) ∧ (on u0).cell? ⟨w.heap.size + 1, 1, none⟩ = some (.int .i64 (y)) ∧ (on u0).cell? ⟨w.heap.size + 1, 2, none⟩ = some (.int .u8 (q)) ∧ (on u0).cell? ⟨w.heap.size + 1 + 1, 0, none⟩ = some (.int .i64 0) ∧ (on u0).cell? ⟨w.heap.size + 1 + 1, 1, none⟩ = some (.int .i64 0) ∧ (on u0).cell? ⟨w.heap.size + 1 + 1, 2, none⟩ = some (.int .u8 0)) := ⟨k0, k1, k2, k3, k4, k5, k6, k7, k8⟩
      clear k0 k1 k2 k3 k4 k5 k6 k7 k8 e0 e1
      go_wp2_with fail
      obtain ⟨p, hp, hh2⟩ := stored1 (u := thn u0 u9) hwB m 4 (.int .i64 rx2)
      obtain ⟨p2, hp2, hh3⟩ := stored1 (u := p) hwB hh2 5 (.int .i64 ry2)
      have hE : ((on u9).setCell ⟨B1, 4, none⟩ (.int .i64 rx2)).setCell ⟨B1, 5, none⟩ (.int .i64 ry2) = on p2 := by rw [← hp2, ← hp]; rfl
      have hD := HC.out
      rw [hE]
      refine ⟨⟨2 + 1, rfl, p2, rfl, fun i hi => ?_, .inr (.inr (.inr (⟨rfl, hh3⟩))), ?_, ?_, ?_, ?_, ?_, ?_, ?_, ?_, ?_⟩, by simp [intOf]⟩
      · rw [← hE]; exact far_fz (by omega) (by omega) _ _ ((frozen_on u9 (held2 hD.2.2.2.2.2.2.1)).trans (HZ.out i hi))
      all_goals rw [← hE]
      · exact far_cl (by omega) _ _ (held_c u9 hD.1)
      · exact far_cl (by omega) _ _ (held_c u9 hD.2.1)
      · exact far_cl (by omega) _ _ (held_c u9 hD.2.2.1)
      · exact far_cl (by omega) _ _ (held_c u9 hD.2.2.2.1)
      · exact far_cl (by omega) _ _ (held_c u9 hD.2.2.2.2.1)
      · exact far_cl (by omega) _ _ (held_c u9 hD.2.2.2.2.2.1)
      · exact far_cl (by omega) _ _ (held_c u9 hD.2.2.2.2.2.2.1)
      · exact far_cl (by omega) _ _ (held_c u9 hD.2.2.2.2.2.2.2.1)
      · exact far_cl (by omega) _ _ (held_c u9 hD.2.2.2.2.2.2.2.2)
    · have e0 : (on u0).cell? ⟨B1, 0, none⟩ = some (.int .i64 rx0) := held_cell hh 0
      have e1 : (on u0).cell? ⟨B1, 1, none⟩ = some (.int .i64 ry0) := held_cell hh 1
      have e2 : (on u0).cell? ⟨B1, 2, none⟩ = some (.int .i64 rx1) := held_cell hh 2
      have e3 : (on u0).cell? ⟨B1, 3, none⟩ = some (.int .i64 ry1) := held_cell hh 3
      have e4 : (on u0).cell? ⟨B1, 4, none⟩ = some (.int .i64 rx2) := held_cell hh 4
      have e5 : (on u0).cell? ⟨B1, 5, none⟩ = some (.int .i64 ry2) := held_cell hh 5
      have z0 := HZ.out 0 (by omega)
      have z1 := HZ.out 1 (by omega)
      have z2 := HZ.out 2 (by omega)
      go_wp2_with (first | (go_at_call 50; with_reducible refine (WI _ ).mono ?_; rintro e wx ⟨rfl, hx⟩; obtain ⟨ux, rfl⟩ := after hx; clear hx) | fail)
      exact bodyPost_ret (v := cl a b c) (by simp [results, Tryd.results27, go_sem, k6, k7, k8]) rfl ⟨rfl, (by repeat first | (with_reducible exact hq) | (with_reducible refine below_on ?_ _) | (with_reducible refine below_alloc ?_ _) | (with_reducible refine below_set ?_ (by simp; try omega) _))⟩

set_option maxRecDepth 100000 in
set_option maxHeartbeats 2000000 in
theorem rnei_of (x y q e K C px0 py0 px1 py1 px2 py2 rx0 ry0 rx1 ry1 rx2 ry2 a b c : Int) (w : World) (LI : ∀ W, Calls Tryd.prog 17 #[cl x y q, .int .i64 e] W fun e w' => e = .returned (ln K C) ∧ Below W.heap.size W w') (CO : ∀ W, Calls Tryd.prog 16 #[cl x y q] W fun e w' => e = .returned (.agg #[.int .i64 px0, .int .i64 py0, .int .i64 px1, .int .i64 py1, .int .i64 px2, .int .i64 py2]) ∧ Below W.heap.size W w') (P0 : ∀ W, Calls Tryd.prog 49 #[ln K C, pt px0 py0] W fun e w' => e = .returned (pt rx0 ry0) ∧ Below W.heap.size W w') (P1 : ∀ W, Calls Tryd.prog 49 #[ln K C, pt px1 py1] W fun e w' => e = .returned (pt rx1 ry1) ∧ Below W.heap.size W w') (P2 : ∀ W, Calls Tryd.prog 49 #[ln K C, pt px2 py2] W fun e w' => e = .returned (pt rx2 ry2) ∧ Below W.heap.size W w') (WI : ∀ W, Calls Tryd.prog 50 #[.agg #[.int .i64 rx0, .int .i64 ry0, .int .i64 rx1, .int .i64 ry1, .int .i64 rx2, .int .i64 ry2]] W fun e w' => e = .returned (cl a b c) ∧ Below W.heap.size W w') : Calls Tryd.prog 21 #[cl x y q, .int .i64 e] w fun r w' => r = .returned (cl a b c) ∧ Below w.heap.size w w' := by
  go_enter Tryd.func21, Tryd.ntmps21
  go_wp2_with fail
  have hB0 : Below w.heap.size w ((w.alloc (.cells #[.int .i64 (x), .int .i64 (y), .int .u8 (q)] 23)).alloc (.cells #[.int .i64 0, .int .i64 0, .int .u8 0] 23)) := (by repeat first | (with_reducible exact Below.refl _ _) | (with_reducible refine below_on ?_ _) | (with_reducible refine below_alloc ?_ _) | (with_reducible refine below_set ?_ (by simp; try omega) _))
  have b00 : ((w.alloc (.cells #[.int .i64 (x), .int .i64 (y), .int .u8 (q)] 23)).alloc (.cells #[.int .i64 0, .int .i64 0, .int .u8 0] 23)).cell? ⟨w.heap.size, 0, none⟩ = some (.int .i64 (x)) := by simp [go_sem]
  have b01 : ((w.alloc (.cells #[.int .i64 (x), .int .i64 (y), .int .u8 (q)] 23)).alloc (.cells #[.int .i64 0, .int .i64 0, .int .u8 0] 23)).cell? ⟨w.heap.size, 1, none⟩ = some (.int .i64 (y)) := by simp [go_sem]
  have b02 : ((w.alloc (.cells #[.int .i64 (x), .int .i64 (y), .int .u8 (q)] 23)).alloc (.cells #[.int .i64 0, .int .i64 0, .int .u8 0] 23)).cell? ⟨w.heap.size, 2, none⟩ = some (.int .u8 (q)) := by simp [go_sem]
  have b10 : ((w.alloc (.cells #[.int .i64 (x), .int .i64 (y), .int .u8 (q)] 23)).alloc (.cells #[.int .i64 0, .int .i64 0, .int .u8 0] 23)).cell? ⟨w.heap.size + 1, 0, none⟩ = some (.int .i64 0) := by simp [go_sem]
  have fb10 : ((w.alloc (.cells #[.int .i64 (x), .int .i64 (y), .int .u8 (q)] 23)).alloc (.cells #[.int .i64 0, .int .i64 0, .int .u8 0] 23)).frozen? ⟨w.heap.size + 1, 0, none⟩ = false := by simp [go_sem]
  have b11 : ((w.alloc (.cells #[.int .i64 (x), .int .i64 (y), .int .u8 (q)] 23)).alloc (.cells #[.int .i64 0, .int .i64 0, .int .u8 0] 23)).cell? ⟨w.heap.size + 1, 1, none⟩ = some (.int .i64 0) := by simp [go_sem]
  have fb11 : ((w.alloc (.cells #[.int .i64 (x), .int .i64 (y), .int .u8 (q)] 23)).alloc (.cells #[.int .i64 0, .int .i64 0, .int .u8 0] 23)).frozen? ⟨w.heap.size + 1, 1, none⟩ = false := by simp [go_sem]
  have b12 : ((w.alloc (.cells #[.int .i64 (x), .int .i64 (y), .int .u8 (q)] 23)).alloc (.cells #[.int .i64 0, .int .i64 0, .int .u8 0] 23)).cell? ⟨w.heap.size + 1, 2, none⟩ = some (.int .u8 0) := by simp [go_sem]
  have fb12 : ((w.alloc (.cells #[.int .i64 (x), .int .i64 (y), .int .u8 (q)] 23)).alloc (.cells #[.int .i64 0, .int .i64 0, .int .u8 0] 23)).frozen? ⟨w.heap.size + 1, 2, none⟩ = false := by simp [go_sem]
  generalize ((w.alloc (.cells #[.int .i64 (x), .int .i64 (y), .int .u8 (q)] 23)).alloc (.cells #[.int .i64 0, .int .i64 0, .int .u8 0] 23)) = W0 at *
  go_wp2_with (first | (go_at_call 17; with_reducible refine (LI _).mono ?_; rintro e wx ⟨rfl, hx⟩; obtain ⟨ux, rfl⟩ := after hx; clear hx) | fail)
  have hR : Below (W0).heap.size (W0) ((on ux).alloc (.cells #[.int .u8 (K), .int .i64 (C)] 26)) := by repeat first | (with_reducible exact Below.refl _ _) | (with_reducible refine below_on ?_ _) | (with_reducible refine below_alloc ?_ _)
  have cR : ∀ {b i : Nat} {v : Value}, (W0).cell? ⟨b, i, none⟩ = some v → ((on ux).alloc (.cells #[.int .u8 (K), .int .i64 (C)] 26)).cell? ⟨b, i, none⟩ = some v := fun h => (hR.cell (World.block_lt_of_cell? _ _ h)).trans h
  have fR : ∀ {b i : Nat} {v : Value}, (W0).cell? ⟨b, i, none⟩ = some v → (W0).frozen? ⟨b, i, none⟩ = false → ((on ux).alloc (.cells #[.int .u8 (K), .int .i64 (C)] 26)).frozen? ⟨b, i, none⟩ = false := fun h g => (hR.frozen (World.block_lt_of_cell? _ _ h)).trans g
  have b00' := cR b00
  have b01' := cR b01
  have b02' := cR b02
  have b10' := cR b10
  have fb10' := fR b10 fb10
  have b11' := cR b11
  have fb11' := fR b11 fb11
  have b12' := cR b12
  have fb12' := fR b12 fb12
  have B100 : ((on ux).alloc (.cells #[.int .u8 (K), .int .i64 (C)] 26)).cell? ⟨(on ux).heap.size, 0, none⟩ = some (.int .u8 (K)) := by simp [go_sem]
  have B101 : ((on ux).alloc (.cells #[.int .u8 (K), .int .i64 (C)] 26)).cell? ⟨(on ux).heap.size, 1, none⟩ = some (.int .i64 (C)) := by simp [go_sem]
  have hB1 : Below w.heap.size w ((on ux).alloc (.cells #[.int .u8 (K), .int .i64 (C)] 26)) := by repeat first | (with_reducible exact hB0) | (with_reducible refine below_on ?_ _) | (with_reducible refine below_alloc ?_ _)
  clear hR cR fR b00 b01 b02 b10 b11 b12 fb10 fb11 fb12 hB0
  generalize ((on ux).alloc (.cells #[.int .u8 (K), .int .i64 (C)] 26)) = W1 at *
  generalize (on ux).heap.size = B1 at *
  clear ux
  go_wp2_with (first | (go_at_call 16; with_reducible refine (CO _ ).mono ?_; rintro e wx ⟨rfl, hx⟩; obtain ⟨ux, rfl⟩ := after hx; clear hx) | fail)
  have hQ : ((on ux).alloc (.cells #[.int .i64 px0, .int .i64 py0, .int .i64 px1, .int .i64 py1, .int .i64 px2, .int .i64 py2] 32)).heap[(on ux).heap.size]? = some (.cells #[.int .i64 px0, .int .i64 py0, .int .i64 px1, .int .i64 py1, .int .i64 px2, .int .i64 py2] 32) := heap_alloc_new _ _
  have hwx : w.heap.size + 1 < (on ux).heap.size := Nat.lt_of_lt_of_le (World.block_lt_of_cell? _ _ b10') (on_size ux)
  have hR : Below (W1).heap.size (W1) ((on ux).alloc (.cells #[.int .i64 px0, .int .i64 py0, .int .i64 px1, .int .i64 py1, .int .i64 px2, .int .i64 py2] 32)) := by repeat first | (with_reducible exact Below.refl _ _) | (with_reducible refine below_on ?_ _) | (with_reducible refine below_alloc ?_ _)
  have cR : ∀ {b i : Nat} {v : Value}, (W1).cell? ⟨b, i, none⟩ = some v → ((on ux).alloc (.cells #[.int .i64 px0, .int .i64 py0, .int .i64 px1, .int .i64 py1, .int .i64 px2, .int .i64 py2] 32)).cell? ⟨b, i, none⟩ = some v := fun h => (hR.cell (World.block_lt_of_cell? _ _ h)).trans h
  have fR : ∀ {b i : Nat} {v : Value}, (W1).cell? ⟨b, i, none⟩ = some v → (W1).frozen? ⟨b, i, none⟩ = false → ((on ux).alloc (.cells #[.int .i64 px0, .int .i64 py0, .int .i64 px1, .int .i64 py1, .int .i64 px2, .int .i64 py2] 32)).frozen? ⟨b, i, none⟩ = false := fun h g => (hR.frozen (World.block_lt_of_cell? _ _ h)).trans g
  have b00'' := cR b00'
  have b01'' := cR b01'
  have b02'' := cR b02'
  have b10'' := cR b10'
  have fb10'' := fR b10' fb10'
  have b11'' := cR b11'
  have fb11'' := fR b11' fb11'
  have b12'' := cR b12'
  have fb12'' := fR b12' fb12'
  have B100' := cR B100
  have B101' := cR B101
  have B2n0 : B1 < (on ux).heap.size := Nat.lt_of_lt_of_le (World.block_lt_of_cell? _ _ B100) (on_size ux)
  have hB2 : Below w.heap.size w ((on ux).alloc (.cells #[.int .i64 px0, .int .i64 py0, .int .i64 px1, .int .i64 py1, .int .i64 px2, .int .i64 py2] 32)) := by repeat first | (with_reducible exact hB1) | (with_reducible refine below_on ?_ _) | (with_reducible refine below_alloc ?_ _)
  clear hR cR fR b00' b01' b02' b10' b11' b12' B100 B101 fb10' fb11' fb12' hB1
  generalize ((on ux).alloc (.cells #[.int .i64 px0, .int .i64 py0, .int .i64 px1, .int .i64 py1, .int .i64 px2, .int .i64 py2] 32)) = W2 at *
  generalize (on ux).heap.size = B2 at *
  clear ux
  have B2p0 : B1 ≠ B2 := Nat.ne_of_lt B2n0
  have B2q0 : B2 ≠ B1 := Nat.ne_of_gt B2n0
  clear B2n0
  have hwB : w.heap.size ≤ B2 := by omega
  have hRes : ∀ i < 3, W2.frozen? ⟨w.heap.size + 1, i, none⟩ = false := fun i hi => by
    obtain rfl | rfl | rfl : i = 0 ∨ i = 1 ∨ i = 2 := by omega
    · exact fb10''
    · exact fb11''
    · exact fb12''
  have HRes : Hid (∀ i < 3, W2.frozen? ⟨w.heap.size + 1, i, none⟩ = false) := hRes
  clear hRes fb10'' fb11'' fb12''
  go_loopw [7] (fun iv wr => ∃ i : Int, iv = .int .i64 i ∧ ∃ u : Later w, wr = on u ∧ (∀ i < 3, (on u).frozen? ⟨w.heap.size + 1, i, none⟩ = false) ∧ ((i = 0 ∧ (on u).heap[B2]? = some (.cells #[.int .i64 px0, .int .i64 py0, .int .i64 px1, .int .i64 py1, .int .i64 px2, .int .i64 py2] 32)) ∨ (i = 1 ∧ (on u).heap[B2]? = some (.cells #[.int .i64 rx0, .int .i64 ry0, .int .i64 px1, .int .i64 py1, .int .i64 px2, .int .i64 py2] 32)) ∨ (i = 2 ∧ (on u).heap[B2]? = some (.cells #[.int .i64 rx0, .int .i64 ry0, .int .i64 rx1, .int .i64 ry1, .int .i64 px2, .int .i64 py2] 32)) ∨ (i = 3 ∧ (on u).heap[B2]? = some (.cells #[.int .i64 rx0, .int .i64 ry0, .int .i64 rx1, .int .i64 ry1, .int .i64 rx2, .int .i64 ry2] 32))) ∧ (on u).cell? ⟨w.heap.size, 0, none⟩ = some (.int .i64 (x)) ∧ (on u).cell? ⟨w.heap.size, 1, none⟩ = some (.int .i64 (y)) ∧ (on u).cell? ⟨w.heap.size, 2, none⟩ = some (.int .u8 (q)) ∧ (on u).cell? ⟨w.heap.size + 1, 0, none⟩ = some (.int .i64 0) ∧ (on u).cell? ⟨w.heap.size + 1, 1, none⟩ = some (.int .i64 0) ∧ (on u).cell? ⟨w.heap.size + 1, 2, none⟩ = some (.int .u8 0) ∧ (on u).cell? ⟨B1, 0, none⟩ = some (.int .u8 (K)) ∧ (on u).cell? ⟨B1, 1, none⟩ = some (.int .i64 (C))) (fun iv _ => (3 - intOf iv).toNat)
  case atStart => exact ⟨0, rfl, ⟨_, hB2⟩, rfl, HRes.out, .inl ⟨rfl, hQ⟩, b00'', b01'', b02'', b10'', b11'', b12'', B100', B101'⟩
  case round =>
    obtain ⟨i, rfl, u0, rfl, hz, hi, k0, k1, k2, k3, k4, k5, k6, k7⟩ := hrel
    have hq : Below w.heap.size w (on u0) := u0.b
    have HZ : Hid (∀ i < 3, (on u0).frozen? ⟨w.heap.size + 1, i, none⟩ = false) := hz
    clear hz hQ HRes hB2 b00'' b01'' b02'' b10'' b11'' b12'' B100' B101'
    obtain ⟨rfl, hh⟩ | ⟨rfl, hh⟩ | ⟨rfl, hh⟩ | ⟨rfl, hh⟩ := hi
    · have e0 : (on u0).cell? ⟨B2, 0, none⟩ = some (.int .i64 px0) := held_cell hh 0
      have e1 : (on u0).cell? ⟨B2, 1, none⟩ = some (.int .i64 py0) := held_cell hh 1
      go_wp2_with fail
      refine region_tail 7 (by kernel_rfl) (by kernel_rfl) ?_
      simp only [List.take_succ_cons, List.take_zero, List.drop_succ_cons, List.drop_zero]
      repeat (first
        | (refine wpLex_plain (by rfl) (by rfl) (by rfl) (fun K hK => ?_); go_big_quiet_op; refine hK _ ?_; clear hK K)
        | (refine wpLex_call (by rfl) (by rfl) (fun K hK => ?_); go_simp; apply Exists.intro; refine ⟨fun _ => ?_, hK _ ?_⟩; ((first | (go_at_call 49; with_reducible exact Calls.laterL (P0 _ )))); clear hK K)
        | (refine wpLex_new (by rfl) ?_; simp only [Act.put, List.setIfInBounds_toArray, List.set_cons_zero, List.set_cons_succ]))
      refine wpLex_nil ?_
      intro u9
      have m := held_on u9 hh
      have f0 : (on u9).frozen? ⟨B2, 0, none⟩ = false := held_free m 0
      have f1 : (on u9).frozen? ⟨B2, 1, none⟩ = false := held_free m 1
      have c0 : (on u9).cell? ⟨B2, 0, none⟩ = some (.int .i64 px0) := held_cell m 0
      have c1 : (on u9).cell? ⟨B2, 1, none⟩ = some (.int .i64 py0) := held_cell m 1
      have g1 : ∀ v, ((on u9).setCell ⟨B2, 0, none⟩ v).frozen? ⟨B2, 1, none⟩ = false := fun v => held_free (held_set m 0 v) 1
      have HC : Hid ((on u0).cell? ⟨w.heap.size, 0, none⟩ = some (.int .i64 (x)) ∧ (on u0).cell? ⟨w.heap.size, 1, none⟩ = some (.int .i64 (y)) ∧ (on u0).cell? ⟨w.heap.size, 2, none⟩ = some (.int .u8 (q)) ∧ (on u0).cell? ⟨w.heap.size + 1, 0, none⟩ = some (.int .i64 0) ∧ (on u0).cell? ⟨w.heap.size + 1, 1, none⟩ = some (.int .i64 0) ∧ (on u0).cell? ⟨w.heap.size + 1, 2, none⟩ = some (.int .u8 0) ∧ (on u0).cell? ⟨B1, 0, none⟩ = some (.int .u8 (K)) ∧ (on u0).cell? ⟨B1, 1, none⟩ = some (.int .i64 (C))) := ⟨k0, k1, k2, k3, k4, k5, k6, k7⟩
      clear k0 k1 k2 k3 k4 k5 k6 k7 e0 e1
      go_wp2_with fail
      obtain ⟨p, hp, hh2⟩ := stored1 (u := thn u0 u9) hwB m 0 (.int .i64 rx0)
      obtain ⟨p2, hp2, hh3⟩ := stored1 (u := p) hwB hh2 1 (.int .i64 ry0)
      have hE : ((on u9).setCell ⟨B2, 0, none⟩ (.int .i64 rx0)).setCell ⟨B2, 1, none⟩ (.int .i64 ry0) = on p2 := by rw [← hp2, ← hp]; rfl
      have hD := HC.out
      rw [hE]
      refine ⟨⟨0 + 1, rfl, p2, rfl, fun i hi => ?_, .inr (.inl ⟨rfl, hh3⟩), ?_, ?_, ?_, ?_, ?_, ?_, ?_, ?_⟩, by simp [intOf]⟩
      · rw [← hE]; exact far_fz (by omega) (by omega) _ _ ((frozen_on u9 (held2 hD.2.2.2.1)).trans (HZ.out i hi))
      all_goals rw [← hE]
      · exact far_cl (by omega) _ _ (held_c u9 hD.1)
      · exact far_cl (by omega) _ _ (held_c u9 hD.2.1)
      · exact far_cl (by omega) _ _ (held_c u9 hD.2.2.1)
      · exact far_cl (by omega) _ _ (held_c u9 hD.2.2.2.1)
      · exact far_cl (by omega) _ _ (held_c u9 hD.2.2.2.2.1)
      · exact far_cl (by omega) _ _ (held_c u9 hD.2.2.2.2.2.1)
      · exact far_cl (by omega) _ _ (held_c u9 hD.2.2.2.2.2.2.1)
      · exact far_cl (by omega) _ _ (held_c u9 hD.2.2.2.2.2.2.2)
    · have e0 : (on u0).cell? ⟨B2, 2, none⟩ = some (.int .i64 px1) := held_cell hh 2
      have e1 : (on u0).cell? ⟨B2, 3, none⟩ = some (.int .i64 py1) := held_cell hh 3
      go_wp2_with fail
      refine region_tail 7 (by kernel_rfl) (by kernel_rfl) ?_
      simp only [List.take_succ_cons, List.take_zero, List.drop_succ_cons, List.drop_zero]
      repeat (first
        | (refine wpLex_plain (by rfl) (by rfl) (by rfl) (fun K hK => ?_); go_big_quiet_op; refine hK _ ?_; clear hK K)
        | (refine wpLex_call (by rfl) (by rfl) (fun K hK => ?_); go_simp; apply Exists.intro; refine ⟨fun _ => ?_, hK _ ?_⟩; ((first | (go_at_call 49; with_reducible exact Calls.laterL (P1 _ )))); clear hK K)
        | (refine wpLex_new (by rfl) ?_; simp only [Act.put, List.setIfInBounds_toArray, List.set_cons_zero, List.set_cons_succ]))
      refine wpLex_nil ?_
      intro u9
      have m := held_on u9 hh
      have f0 : (on u9).frozen? ⟨B2, 2, none⟩ = false := held_free m 2
      have f1 : (on u9).frozen? ⟨B2, 3, none⟩ = false := held_free m 3
      have c0 : (on u9).cell? ⟨B2, 2, none⟩ = some (.int .i64 px1) := held_cell m 2
      have c1 : (on u9).cell? ⟨B2, 3, none⟩ = some (.int .i64 py1) := held_cell m 3
      have g1 : ∀ v, ((on u9).setCell ⟨B2, 2, none⟩ v).frozen? ⟨B2, 3, none⟩ = false := fun v => held_free (held_set m 2 v) 3
      have HC : Hid ((on u0).cell? ⟨w.heap.size, 0, none⟩ = some (.int .i64 (x)) ∧ (on u0).cell? ⟨w.heap.size, 1, none⟩ = some (.int .i64 (y)) ∧ (on u0).cell? ⟨w.heap.size, 2, none⟩ = some (.int .u8 (q)) ∧ (on u0).cell? ⟨w.heap.size + 1, 0, none⟩ = some (.int .i64 0) ∧ (on u0).cell? ⟨w.heap.size + 1, 1, none⟩ = some (.int .i64 0) ∧ (on u0).cell? ⟨w.heap.size + 1, 2, none⟩ = some (.int .u8 0) ∧ (on u0).cell? ⟨B1, 0, none⟩ = some (.int .u8 (K)) ∧ (on u0).cell? ⟨B1, 1, none⟩ = some (.int .i64 (C))) := ⟨k0, k1, k2, k3, k4, k5, k6, k7⟩
      clear k0 k1 k2 k3 k4 k5 k6 k7 e0 e1
      go_wp2_with fail
      obtain ⟨p, hp, hh2⟩ := stored1 (u := thn u0 u9) hwB m 2 (.int .i64 rx1)
      obtain ⟨p2, hp2, hh3⟩ := stored1 (u := p) hwB hh2 3 (.int .i64 ry1)
      have hE : ((on u9).setCell ⟨B2, 2, none⟩ (.int .i64 rx1)).setCell ⟨B2, 3, none⟩ (.int .i64 ry1) = on p2 := by rw [← hp2, ← hp]; rfl
      have hD := HC.out
      rw [hE]
      refine ⟨⟨1 + 1, rfl, p2, rfl, fun i hi => ?_, .inr (.inr (.inl ⟨rfl, hh3⟩)), ?_, ?_, ?_, ?_, ?_, ?_, ?_, ?_⟩, by simp [intOf]⟩
      · rw [← hE]; exact far_fz (by omega) (by omega) _ _ ((frozen_on u9 (held2 hD.2.2.2.1)).trans (HZ.out i hi))
      all_goals rw [← hE]
      · exact far_cl (by omega) _ _ (held_c u9 hD.1)
      · exact far_cl (by omega) _ _ (held_c u9 hD.2.1)
      · exact far_cl (by omega) _ _ (held_c u9 hD.2.2.1)
      · exact far_cl (by omega) _ _ (held_c u9 hD.2.2.2.1)
      · exact far_cl (by omega) _ _ (held_c u9 hD.2.2.2.2.1)
      · exact far_cl (by omega) _ _ (held_c u9 hD.2.2.2.2.2.1)
      · exact far_cl (by omega) _ _ (held_c u9 hD.2.2.2.2.2.2.1)
      · exact far_cl (by omega) _ _ (held_c u9 hD.2.2.2.2.2.2.2)
    · have e0 : (on u0).cell? ⟨B2, 4, none⟩ = some (.int .i64 px2) := held_cell hh 4
      have e1 : (on u0).cell? ⟨B2, 5, none⟩ = some (.int .i64 py2) := held_cell hh 5
      go_wp2_with fail
      refine region_tail 7 (by kernel_rfl) (by kernel_rfl) ?_
      simp only [List.take_succ_cons, List.take_zero, List.drop_succ_cons, List.drop_zero]
      repeat (first
        | (refine wpLex_plain (by rfl) (by rfl) (by rfl) (fun K hK => ?_); go_big_quiet_op; refine hK _ ?_; clear hK K)
        | (refine wpLex_call (by rfl) (by rfl) (fun K hK => ?_); go_simp; apply Exists.intro; refine ⟨fun _ => ?_, hK _ ?_⟩; ((first | (go_at_call 49; with_reducible exact Calls.laterL (P2 _ )))); clear hK K)
        | (refine wpLex_new (by rfl) ?_; simp only [Act.put, List.setIfInBounds_toArray, List.set_cons_zero, List.set_cons_succ]))
      refine wpLex_nil ?_
      intro u9
      have m := held_on u9 hh
      have f0 : (on u9).frozen? ⟨B2, 4, none⟩ = false := held_free m 4
      have f1 : (on u9).frozen? ⟨B2, 5, none⟩ = false := held_free m 5
      have c0 : (on u9).cell? ⟨B2, 4, none⟩ = some (.int .i64 px2) := held_cell m 4
      have c1 : (on u9).cell? ⟨B2, 5, none⟩ = some (.int .i64 py2) := held_cell m 5
      have g1 : ∀ v, ((on u9).setCell ⟨B2, 4, none⟩ v).frozen? ⟨B2, 5, none⟩ = false := fun v => held_free (held_set m 4 v) 5
      have HC : Hid ((on u0).cell? ⟨w.heap.size, 0, none⟩ = some (.int .i64 (x)) ∧ (on u0).cell? ⟨w.heap.size, 1, none⟩ = some (.int .i64 (y)) ∧ (on u0).cell? ⟨w.heap.size, 2, none⟩ = some (.int .u8 (q)) ∧ (on u0).cell? ⟨w.heap.size + 1, 0, none⟩ = some (.int .i64 0) ∧ (on u0).cell? ⟨w.heap.size + 1, 1, none⟩ = some (.int .i64 0) ∧ (on u0).cell? ⟨w.heap.size + 1, 2, none⟩ = some (.int .u8 0) ∧ (on u0).cell? ⟨B1, 0, none⟩ = some (.int .u8 (K)) ∧ (on u0).cell? ⟨B1, 1, none⟩ = some (.int .i64 (C))) := ⟨k0, k1, k2, k3, k4, k5, k6, k7⟩
      clear k0 k1 k2 k3 k4 k5 k6 k7 e0 e1
      go_wp2_with fail
      obtain ⟨p, hp, hh2⟩ := stored1 (u := thn u0 u9) hwB m 4 (.int .i64 rx2)
      obtain ⟨p2, hp2, hh3⟩ := stored1 (u := p) hwB hh2 5 (.int .i64 ry2)
      have hE : ((on u9).setCell ⟨B2, 4, none⟩ (.int .i64 rx2)).setCell ⟨B2, 5, none⟩ (.int .i64 ry2) = on p2 := by rw [← hp2, ← hp]; rfl
      have hD := HC.out
      rw [hE]
      refine ⟨⟨2 + 1, rfl, p2, rfl, fun i hi => ?_, .inr (.inr (.inr (⟨rfl, hh3⟩))), ?_, ?_, ?_, ?_, ?_, ?_, ?_, ?_⟩, by simp [intOf]⟩
      · rw [← hE]; exact far_fz (by omega) (by omega) _ _ ((frozen_on u9 (held2 hD.2.2.2.1)).trans (HZ.out i hi))
      all_goals rw [← hE]
      · exact far_cl (by omega) _ _ (held_c u9 hD.1)
      · exact far_cl (by omega) _ _ (held_c u9 hD.2.1)
      · exact far_cl (by omega) _ _ (held_c u9 hD.2.2.1)
      · exact far_cl (by omega) _ _ (held_c u9 hD.2.2.2.1)
      · exact far_cl (by omega) _ _ (held_c u9 hD.2.2.2.2.1)
      · exact far_cl (by omega) _ _ (held_c u9 hD.2.2.2.2.2.1)
      · exact far_cl (by omega) _ _ (held_c u9 hD.2.2.2.2.2.2.1)
      · exact far_cl (by omega) _ _ (held_c u9 hD.2.2.2.2.2.2.2)
    · have e0 : (on u0).cell? ⟨B2, 0, none⟩ = some (.int .i64 rx0) := held_cell hh 0
      have e1 : (on u0).cell? ⟨B2, 1, none⟩ = some (.int .i64 ry0) := held_cell hh 1
      have e2 : (on u0).cell? ⟨B2, 2, none⟩ = some (.int .i64 rx1) := held_cell hh 2
      have e3 : (on u0).cell? ⟨B2, 3, none⟩ = some (.int .i64 ry1) := held_cell hh 3
      have e4 : (on u0).cell? ⟨B2, 4, none⟩ = some (.int .i64 rx2) := held_cell hh 4
      have e5 : (on u0).cell? ⟨B2, 5, none⟩ = some (.int .i64 ry2) := held_cell hh 5
      have z0 := HZ.out 0 (by omega)
      have z1 := HZ.out 1 (by omega)
      have z2 := HZ.out 2 (by omega)
      go_wp2_with (first | (go_at_call 50; with_reducible refine (WI _ ).mono ?_; rintro e wx ⟨rfl, hx⟩; obtain ⟨ux, rfl⟩ := after hx; clear hx) | fail)
      exact bodyPost_ret (v := cl a b c) (by simp [results, Tryd.results21, go_sem, k3, k4, k5]) rfl ⟨rfl, (by repeat first | (with_reducible exact hq) | (with_reducible refine below_on ?_ _) | (with_reducible refine below_alloc ?_ _) | (with_reducible refine below_set ?_ (by simp; try omega) _))⟩

set_option maxRecDepth 100000 in
set_option maxHeartbeats 2000000 in
theorem rside_hi (k c x y q px0 py0 px1 py1 px2 py2 f0 f1 f2 : Int) (w : World) (CO : ∀ W, Calls Tryd.prog 16 #[cl x y q] W fun e w' => e = .returned (.agg #[.int .i64 px0, .int .i64 py0, .int .i64 px1, .int .i64 py1, .int .i64 px2, .int .i64 py2]) ∧ Below W.heap.size W w') (F0 : ∀ W, Calls Tryd.prog 23 #[ln k c, pt px0 py0] W fun e w' => e = .returned (.int .i64 f0) ∧ Below W.heap.size W w') (F1 : ∀ W, Calls Tryd.prog 23 #[ln k c, pt px1 py1] W fun e w' => e = .returned (.int .i64 f1) ∧ Below W.heap.size W w') (F2 : ∀ W, Calls Tryd.prog 23 #[ln k c, pt px2 py2] W fun e w' => e = .returned (.int .i64 f2) ∧ Below W.heap.size W w') (f0l : -300000 ≤ f0) (f0h : f0 ≤ 300000) (f1l : -300000 ≤ f1) (f1h : f1 ≤ 300000) (f2l : -300000 ≤ f2) (f2h : f2 ≤ 300000) (hf : 0 < f0 + f1 + f2) : Calls Tryd.prog 24 #[ln k c, cl x y q] w fun e w' => e = .returned (.int .i64 1) ∧ Below w.heap.size w w' := by
  go_enter Tryd.func24, Tryd.ntmps24
  go_wp2_with fail
  have hB0 : Below w.heap.size w ((w.alloc (.cells #[.int .u8 (k), .int .i64 (c)] 26)).alloc (.cells #[.int .i64 (x), .int .i64 (y), .int .u8 (q)] 23)) := (by repeat first | (with_reducible exact Below.refl _ _) | (with_reducible refine below_on ?_ _) | (with_reducible refine below_alloc ?_ _) | (with_reducible refine below_set ?_ (by simp; try omega) _))
  have b00 : ((w.alloc (.cells #[.int .u8 (k), .int .i64 (c)] 26)).alloc (.cells #[.int .i64 (x), .int .i64 (y), .int .u8 (q)] 23)).cell? ⟨w.heap.size, 0, none⟩ = some (.int .u8 (k)) := by simp [go_sem]
  have b01 : ((w.alloc (.cells #[.int .u8 (k), .int .i64 (c)] 26)).alloc (.cells #[.int .i64 (x), .int .i64 (y), .int .u8 (q)] 23)).cell? ⟨w.heap.size, 1, none⟩ = some (.int .i64 (c)) := by simp [go_sem]
  have b10 : ((w.alloc (.cells #[.int .u8 (k), .int .i64 (c)] 26)).alloc (.cells #[.int .i64 (x), .int .i64 (y), .int .u8 (q)] 23)).cell? ⟨w.heap.size + 1, 0, none⟩ = some (.int .i64 (x)) := by simp [go_sem]
  have b11 : ((w.alloc (.cells #[.int .u8 (k), .int .i64 (c)] 26)).alloc (.cells #[.int .i64 (x), .int .i64 (y), .int .u8 (q)] 23)).cell? ⟨w.heap.size + 1, 1, none⟩ = some (.int .i64 (y)) := by simp [go_sem]
  have b12 : ((w.alloc (.cells #[.int .u8 (k), .int .i64 (c)] 26)).alloc (.cells #[.int .i64 (x), .int .i64 (y), .int .u8 (q)] 23)).cell? ⟨w.heap.size + 1, 2, none⟩ = some (.int .u8 (q)) := by simp [go_sem]
  generalize ((w.alloc (.cells #[.int .u8 (k), .int .i64 (c)] 26)).alloc (.cells #[.int .i64 (x), .int .i64 (y), .int .u8 (q)] 23)) = W0 at *
  go_wp2_with (first | (go_at_call 16; with_reducible refine (CO _).mono ?_; rintro e wx ⟨rfl, hx⟩; obtain ⟨ux, rfl⟩ := after hx; clear hx) | fail)
  have hR : Below (W0).heap.size (W0) ((on ux).alloc (.cells #[.int .i64 px0, .int .i64 py0, .int .i64 px1, .int .i64 py1, .int .i64 px2, .int .i64 py2] 32)) := by repeat first | (with_reducible exact Below.refl _ _) | (with_reducible refine below_on ?_ _) | (with_reducible refine below_alloc ?_ _)
  have cR : ∀ {b i : Nat} {v : Value}, (W0).cell? ⟨b, i, none⟩ = some v → ((on ux).alloc (.cells #[.int .i64 px0, .int .i64 py0, .int .i64 px1, .int .i64 py1, .int .i64 px2, .int .i64 py2] 32)).cell? ⟨b, i, none⟩ = some v := fun h => (hR.cell (World.block_lt_of_cell? _ _ h)).trans h
  have b00' := cR b00
  have b01' := cR b01
  have b10' := cR b10
  have b11' := cR b11
  have b12' := cR b12
  have B100 : ((on ux).alloc (.cells #[.int .i64 px0, .int .i64 py0, .int .i64 px1, .int .i64 py1, .int .i64 px2, .int .i64 py2] 32)).cell? ⟨(on ux).heap.size, 0, none⟩ = some (.int .i64 px0) := by simp [go_sem]
  have B101 : ((on ux).alloc (.cells #[.int .i64 px0, .int .i64 py0, .int .i64 px1, .int .i64 py1, .int .i64 px2, .int .i64 py2] 32)).cell? ⟨(on ux).heap.size, 1, none⟩ = some (.int .i64 py0) := by simp [go_sem]
  have B102 : ((on ux).alloc (.cells #[.int .i64 px0, .int .i64 py0, .int .i64 px1, .int .i64 py1, .int .i64 px2, .int .i64 py2] 32)).cell? ⟨(on ux).heap.size, 2, none⟩ = some (.int .i64 px1) := by simp [go_sem]
  have B103 : ((on ux).alloc (.cells #[.int .i64 px0, .int .i64 py0, .int .i64 px1, .int .i64 py1, .int .i64 px2, .int .i64 py2] 32)).cell? ⟨(on ux).heap.size, 3, none⟩ = some (.int .i64 py1) := by simp [go_sem]
  have B104 : ((on ux).alloc (.cells #[.int .i64 px0, .int .i64 py0, .int .i64 px1, .int .i64 py1, .int .i64 px2, .int .i64 py2] 32)).cell? ⟨(on ux).heap.size, 4, none⟩ = some (.int .i64 px2) := by simp [go_sem]
  have B105 : ((on ux).alloc (.cells #[.int .i64 px0, .int .i64 py0, .int .i64 px1, .int .i64 py1, .int .i64 px2, .int .i64 py2] 32)).cell? ⟨(on ux).heap.size, 5, none⟩ = some (.int .i64 py2) := by simp [go_sem]
  have hB1 : Below w.heap.size w ((on ux).alloc (.cells #[.int .i64 px0, .int .i64 py0, .int .i64 px1, .int .i64 py1, .int .i64 px2, .int .i64 py2] 32)) := by repeat first | (with_reducible exact hB0) | (with_reducible refine below_on ?_ _) | (with_reducible refine below_alloc ?_ _)
  clear hR cR b00 b01 b10 b11 b12  hB0
  generalize ((on ux).alloc (.cells #[.int .i64 px0, .int .i64 py0, .int .i64 px1, .int .i64 py1, .int .i64 px2, .int .i64 py2] 32)) = W1 at *
  generalize (on ux).heap.size = B1 at *
  clear ux
  refine region_later (by kernel_rfl) (by kernel_rfl) ?_
  repeat (go_big_quiet_step ((first | (go_at_call 23; with_reducible exact Calls.later (F0 _)) | (go_at_call 23; with_reducible exact Calls.later (F1 _)) | (go_at_call 23; with_reducible exact Calls.later (F2 _)) | fail)))
  refine wpQuiet_nil ?_
  rintro _ ⟨u9, rfl⟩
  go_wp2
  go_ret
  exact ⟨rfl, (by repeat first | (with_reducible exact hB1) | (with_reducible refine below_on ?_ _) | (with_reducible refine below_alloc ?_ _) | (with_reducible refine below_set ?_ (by simp; try omega) _))⟩

set_option maxRecDepth 100000 in
set_option maxHeartbeats 2000000 in
theorem rside_lo (k c x y q px0 py0 px1 py1 px2 py2 f0 f1 f2 : Int) (w : World) (CO : ∀ W, Calls Tryd.prog 16 #[cl x y q] W fun e w' => e = .returned (.agg #[.int .i64 px0, .int .i64 py0, .int .i64 px1, .int .i64 py1, .int .i64 px2, .int .i64 py2]) ∧ Below W.heap.size W w') (F0 : ∀ W, Calls Tryd.prog 23 #[ln k c, pt px0 py0] W fun e w' => e = .returned (.int .i64 f0) ∧ Below W.heap.size W w') (F1 : ∀ W, Calls Tryd.prog 23 #[ln k c, pt px1 py1] W fun e w' => e = .returned (.int .i64 f1) ∧ Below W.heap.size W w') (F2 : ∀ W, Calls Tryd.prog 23 #[ln k c, pt px2 py2] W fun e w' => e = .returned (.int .i64 f2) ∧ Below W.heap.size W w') (f0l : -300000 ≤ f0) (f0h : f0 ≤ 300000) (f1l : -300000 ≤ f1) (f1h : f1 ≤ 300000) (f2l : -300000 ≤ f2) (f2h : f2 ≤ 300000) (hf : f0 + f1 + f2 ≤ 0) : Calls Tryd.prog 24 #[ln k c, cl x y q] w fun e w' => e = .returned (.int .i64 0) ∧ Below w.heap.size w w' := by
  go_enter Tryd.func24, Tryd.ntmps24
  go_wp2_with fail
  have hB0 : Below w.heap.size w ((w.alloc (.cells #[.int .u8 (k), .int .i64 (c)] 26)).alloc (.cells #[.int .i64 (x), .int .i64 (y), .int .u8 (q)] 23)) := (by repeat first | (with_reducible exact Below.refl _ _) | (with_reducible refine below_on ?_ _) | (with_reducible refine below_alloc ?_ _) | (with_reducible refine below_set ?_ (by simp; try omega) _))
  have b00 : ((w.alloc (.cells #[.int .u8 (k), .int .i64 (c)] 26)).alloc (.cells #[.int .i64 (x), .int .i64 (y), .int .u8 (q)] 23)).cell? ⟨w.heap.size, 0, none⟩ = some (.int .u8 (k)) := by simp [go_sem]
  have b01 : ((w.alloc (.cells #[.int .u8 (k), .int .i64 (c)] 26)).alloc (.cells #[.int .i64 (x), .int .i64 (y), .int .u8 (q)] 23)).cell? ⟨w.heap.size, 1, none⟩ = some (.int .i64 (c)) := by simp [go_sem]
  have b10 : ((w.alloc (.cells #[.int .u8 (k), .int .i64 (c)] 26)).alloc (.cells #[.int .i64 (x), .int .i64 (y), .int .u8 (q)] 23)).cell? ⟨w.heap.size + 1, 0, none⟩ = some (.int .i64 (x)) := by simp [go_sem]
  have b11 : ((w.alloc (.cells #[.int .u8 (k), .int .i64 (c)] 26)).alloc (.cells #[.int .i64 (x), .int .i64 (y), .int .u8 (q)] 23)).cell? ⟨w.heap.size + 1, 1, none⟩ = some (.int .i64 (y)) := by simp [go_sem]
  have b12 : ((w.alloc (.cells #[.int .u8 (k), .int .i64 (c)] 26)).alloc (.cells #[.int .i64 (x), .int .i64 (y), .int .u8 (q)] 23)).cell? ⟨w.heap.size + 1, 2, none⟩ = some (.int .u8 (q)) := by simp [go_sem]
  generalize ((w.alloc (.cells #[.int .u8 (k), .int .i64 (c)] 26)).alloc (.cells #[.int .i64 (x), .int .i64 (y), .int .u8 (q)] 23)) = W0 at *
  go_wp2_with (first | (go_at_call 16; with_reducible refine (CO _).mono ?_; rintro e wx ⟨rfl, hx⟩; obtain ⟨ux, rfl⟩ := after hx; clear hx) | fail)
  have hR : Below (W0).heap.size (W0) ((on ux).alloc (.cells #[.int .i64 px0, .int .i64 py0, .int .i64 px1, .int .i64 py1, .int .i64 px2, .int .i64 py2] 32)) := by repeat first | (with_reducible exact Below.refl _ _) | (with_reducible refine below_on ?_ _) | (with_reducible refine below_alloc ?_ _)
  have cR : ∀ {b i : Nat} {v : Value}, (W0).cell? ⟨b, i, none⟩ = some v → ((on ux).alloc (.cells #[.int .i64 px0, .int .i64 py0, .int .i64 px1, .int .i64 py1, .int .i64 px2, .int .i64 py2] 32)).cell? ⟨b, i, none⟩ = some v := fun h => (hR.cell (World.block_lt_of_cell? _ _ h)).trans h
  have b00' := cR b00
  have b01' := cR b01
  have b10' := cR b10
  have b11' := cR b11
  have b12' := cR b12
  have B100 : ((on ux).alloc (.cells #[.int .i64 px0, .int .i64 py0, .int .i64 px1, .int .i64 py1, .int .i64 px2, .int .i64 py2] 32)).cell? ⟨(on ux).heap.size, 0, none⟩ = some (.int .i64 px0) := by simp [go_sem]
  have B101 : ((on ux).alloc (.cells #[.int .i64 px0, .int .i64 py0, .int .i64 px1, .int .i64 py1, .int .i64 px2, .int .i64 py2] 32)).cell? ⟨(on ux).heap.size, 1, none⟩ = some (.int .i64 py0) := by simp [go_sem]
  have B102 : ((on ux).alloc (.cells #[.int .i64 px0, .int .i64 py0, .int .i64 px1, .int .i64 py1, .int .i64 px2, .int .i64 py2] 32)).cell? ⟨(on ux).heap.size, 2, none⟩ = some (.int .i64 px1) := by simp [go_sem]
  have B103 : ((on ux).alloc (.cells #[.int .i64 px0, .int .i64 py0, .int .i64 px1, .int .i64 py1, .int .i64 px2, .int .i64 py2] 32)).cell? ⟨(on ux).heap.size, 3, none⟩ = some (.int .i64 py1) := by simp [go_sem]
  have B104 : ((on ux).alloc (.cells #[.int .i64 px0, .int .i64 py0, .int .i64 px1, .int .i64 py1, .int .i64 px2, .int .i64 py2] 32)).cell? ⟨(on ux).heap.size, 4, none⟩ = some (.int .i64 px2) := by simp [go_sem]
  have B105 : ((on ux).alloc (.cells #[.int .i64 px0, .int .i64 py0, .int .i64 px1, .int .i64 py1, .int .i64 px2, .int .i64 py2] 32)).cell? ⟨(on ux).heap.size, 5, none⟩ = some (.int .i64 py2) := by simp [go_sem]
  have hB1 : Below w.heap.size w ((on ux).alloc (.cells #[.int .i64 px0, .int .i64 py0, .int .i64 px1, .int .i64 py1, .int .i64 px2, .int .i64 py2] 32)) := by repeat first | (with_reducible exact hB0) | (with_reducible refine below_on ?_ _) | (with_reducible refine below_alloc ?_ _)
  clear hR cR b00 b01 b10 b11 b12  hB0
  generalize ((on ux).alloc (.cells #[.int .i64 px0, .int .i64 py0, .int .i64 px1, .int .i64 py1, .int .i64 px2, .int .i64 py2] 32)) = W1 at *
  generalize (on ux).heap.size = B1 at *
  clear ux
  have hn : ¬ 0 < f0 + f1 + f2 := by omega
  refine region_later (by kernel_rfl) (by kernel_rfl) ?_
  repeat (go_big_quiet_step ((first | (go_at_call 23; with_reducible exact Calls.later (F0 _)) | (go_at_call 23; with_reducible exact Calls.later (F1 _)) | (go_at_call 23; with_reducible exact Calls.later (F2 _)) | fail)))
  refine wpQuiet_nil ?_
  rintro _ ⟨u9, rfl⟩
  go_wp2
  go_ret
  exact ⟨rfl, (by repeat first | (with_reducible exact hB1) | (with_reducible refine below_on ?_ _) | (with_reducible refine below_alloc ?_ _) | (with_reducible refine below_set ?_ (by simp; try omega) _))⟩

end Go.Proofs.YtgkiliijefkcaaaDoor
