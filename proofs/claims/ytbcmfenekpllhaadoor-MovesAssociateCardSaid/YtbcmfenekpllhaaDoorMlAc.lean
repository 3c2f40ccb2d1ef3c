/-
  Says: MovesAssociate answers true, given what its calls give.
-/
import Derived.Test.YtbcmfenekpllhaaDoorMa0
import Derived.Test.YtbcmfenekpllhaaDoorMvz
import Derived.Deep.RegionHeld3
import Derived.RowKit3
import Derived.Laws.Rows
set_option linter.unusedVariables false
set_option linter.unusedSimpArgs false
namespace Go.Proofs.YtbcmfenekpllhaaDoor
open Go Go.RowKit

attribute [local go_sem] World.cell?_alloc_some frozen?_alloc_cells fz0 fz1 fz2 fz3 fz4 fz5

set_option maxRecDepth 100000 in
set_option maxHeartbeats 8000000 in
theorem assoc_core (a0 x0 y0 a1 x1 y1 a2 x2 y2 p q T0 X0 Y0 T1 X1 Y1 T2 X2 Y2 T3 X3 Y3 T4 X4 Y4 T5 X5 Y5 U1 V1 U2 V2 U3 V3 : Int) (w : World) (hS : Std w) (hp1 : -128 ≤ p) (hp2 : p ≤ 127) (hq1 : -128 ≤ q) (hq2 : q ≤ 127) (t01 : 0 ≤ T0) (t02 : T0 ≤ 7) (t03 : -128 ≤ X0) (t04 : X0 ≤ 127) (t05 : -128 ≤ Y0) (t06 : Y0 ≤ 128) (t07 : (X0 + Y0) % 2 = 0) (t11 : 0 ≤ T1) (t12 : T1 ≤ 7) (t13 : -128 ≤ X1) (t14 : X1 ≤ 127) (t15 : -128 ≤ Y1) (t16 : Y1 ≤ 128) (t17 : (X1 + Y1) % 2 = 0) (t21 : 0 ≤ T2) (t22 : T2 ≤ 7) (t23 : -128 ≤ X2) (t24 : X2 ≤ 127) (t25 : -128 ≤ Y2) (t26 : Y2 ≤ 128) (t27 : (X2 + Y2) % 2 = 0) (OF0 : ∀ W, Calls Tryd.prog 41 #[.agg #[.int .u8 a0, .int .i8 x0, .int .i8 y0]] W fun e w' => e = .returned (mv T0 X0 Y0) ∧ Below W.heap.size W w') (OF1 : ∀ W, Calls Tryd.prog 41 #[.agg #[.int .u8 a1, .int .i8 x1, .int .i8 y1]] W fun e w' => e = .returned (mv T1 X1 Y1) ∧ Below W.heap.size W w') (OF2 : ∀ W, Calls Tryd.prog 41 #[.agg #[.int .u8 a2, .int .i8 x2, .int .i8 y2]] W fun e w' => e = .returned (mv T2 X2 Y2) ∧ Below W.heap.size W w')
    (AB : ∀ W, Std W → Calls Tryd.prog 30 #[mv T0 X0 Y0, mv T1 X1 Y1] W fun e w' => e = .returned (.tuple #[mv T3 X3 Y3, .int .i64 0]) ∧ Below W.heap.size W w') (BC : ∀ W, Std W → Calls Tryd.prog 30 #[mv T1 X1 Y1, mv T2 X2 Y2] W fun e w' => e = .returned (.tuple #[mv T4 X4 Y4, .int .i64 0]) ∧ Below W.heap.size W w') (ON : ∀ W, Std W → Calls Tryd.prog 30 #[mv T3 X3 Y3, mv T2 X2 Y2] W fun e w' => e = .returned (.tuple #[mv T5 X5 Y5, .int .i64 0]) ∧ Below W.heap.size W w') (TW : ∀ W, Std W → Calls Tryd.prog 30 #[mv T0 X0 Y0, mv T4 X4 Y4] W fun e w' => e = .returned (.tuple #[mv T5 X5 Y5, .int .i64 0]) ∧ Below W.heap.size W w')
    (PE : ∀ W, Std W → Calls Tryd.prog 29 #[mv T5 X5 Y5, pt p q] W fun e w' => e = .returned (.tuple #[pt U3 V3, .int .i64 0]) ∧ Below W.heap.size W w') (P0 : ∀ W, Std W → Calls Tryd.prog 29 #[mv T0 X0 Y0, pt p q] W fun e w' => e = .returned (.tuple #[pt U1 V1, .int .i64 0]) ∧ Below W.heap.size W w') (P1 : ∀ W, Std W → Calls Tryd.prog 29 #[mv T1 X1 Y1, pt U1 V1] W fun e w' => e = .returned (.tuple #[pt U2 V2, .int .i64 0]) ∧ Below W.heap.size W w') (P2 : ∀ W, Std W → Calls Tryd.prog 29 #[mv T2 X2 Y2, pt U2 V2] W fun e w' => e = .returned (.tuple #[pt U3 V3, .int .i64 0]) ∧ Below W.heap.size W w') : Calls Tryd.prog 9 #[.agg #[.int .u8 a0, .int .i8 x0, .int .i8 y0, .int .u8 a1, .int .i8 x1, .int .i8 y1, .int .u8 a2, .int .i8 x2, .int .i8 y2], .agg #[.int .i8 p, .int .i8 q]] w fun e w' => e = .returned (.bool true) ∧ Below w.heap.size w w' := by
  have hS' : ∀ W, Below w.heap.size w W → Std W := fun W h => std_below hS h
  go_enter Tryd.func9, Tryd.ntmps9
  go_wp2_with fail
  have hB0 : Below w.heap.size w ((w.alloc (.cells #[.int .u8 a0, .int .i8 x0, .int .i8 y0, .int .u8 a1, .int .i8 x1, .int .i8 y1, .int .u8 a2, .int .i8 x2, .int .i8 y2] 72)).alloc (.cells #[.int .i8 p, .int .i8 q] 46)) := (by repeat first | (with_reducible exact Below.refl _ _) | (with_reducible refine below_on ?_ _) | (with_reducible refine below_alloc ?_ _) | (with_reducible refine below_set ?_ (by simp; try omega) _))
  have b00 : ((w.alloc (.cells #[.int .u8 a0, .int .i8 x0, .int .i8 y0, .int .u8 a1, .int .i8 x1, .int .i8 y1, .int .u8 a2, .int .i8 x2, .int .i8 y2] 72)).alloc (.cells #[.int .i8 p, .int .i8 q] 46)).cell? ⟨w.heap.size, 0, none⟩ = some (.int .u8 a0) := by simp [go_sem]
  have b01 : ((w.alloc (.cells #[.int .u8 a0, .int .i8 x0, .int .i8 y0, .int .u8 a1, .int .i8 x1, .int .i8 y1, .int .u8 a2, .int .i8 x2, .int .i8 y2] 72)).alloc (.cells #[.int .i8 p, .int .i8 q] 46)).cell? ⟨w.heap.size, 1, none⟩ = some (.int .i8 x0) := by simp [go_sem]
  have b02 : ((w.alloc (.cells #[.int .u8 a0, .int .i8 x0, .int .i8 y0, .int .u8 a1, .int .i8 x1, .int .i8 y1, .int .u8 a2, .int .i8 x2, .int .i8 y2] 72)).alloc (.cells #[.int .i8 p, .int .i8 q] 46)).cell? ⟨w.heap.size, 2, none⟩ = some (.int .i8 y0) := by simp [go_sem]
  have b03 : ((w.alloc (.cells #[.int .u8 a0, .int .i8 x0, .int .i8 y0, .int .u8 a1, .int .i8 x1, .int .i8 y1, .int .u8 a2, .int .i8 x2, .int .i8 y2] 72)).alloc (.cells #[.int .i8 p, .int .i8 q] 46)).cell? ⟨w.heap.size, 3, none⟩ = some (.int .u8 a1) := by simp [go_sem]
  have b04 : ((w.alloc (.cells #[.int .u8 a0, .int .i8 x0, .int .i8 y0, .int .u8 a1, .int .i8 x1, .int .i8 y1, .int .u8 a2, .int .i8 x2, .int .i8 y2] 72)).alloc (.cells #[.int .i8 p, .int .i8 q] 46)).cell? ⟨w.heap.size, 4, none⟩ = some (.int .i8 x1) := by simp [go_sem]
  have b05 : ((w.alloc (.cells #[.int .u8 a0, .int .i8 x0, .int .i8 y0, .int .u8 a1, .int .i8 x1, .int .i8 y1, .int .u8 a2, .int .i8 x2, .int .i8 y2] 72)).alloc (.cells #[.int .i8 p, .int .i8 q] 46)).cell? ⟨w.heap.size, 5, none⟩ = some (.int .i8 y1) := by simp [go_sem]
  have b06 : ((w.alloc (.cells #[.int .u8 a0, .int .i8 x0, .int .i8 y0, .int .u8 a1, .int .i8 x1, .int .i8 y1, .int .u8 a2, .int .i8 x2, .int .i8 y2] 72)).alloc (.cells #[.int .i8 p, .int .i8 q] 46)).cell? ⟨w.heap.size, 6, none⟩ = some (.int .u8 a2) := by simp [go_sem]
  have b07 : ((w.alloc (.cells #[.int .u8 a0, .int .i8 x0, .int .i8 y0, .int .u8 a1, .int .i8 x1, .int .i8 y1, .int .u8 a2, .int .i8 x2, .int .i8 y2] 72)).alloc (.cells #[.int .i8 p, .int .i8 q] 46)).cell? ⟨w.heap.size, 7, none⟩ = some (.int .i8 x2) := by simp [go_sem]
  have b08 : ((w.alloc (.cells #[.int .u8 a0, .int .i8 x0, .int .i8 y0, .int .u8 a1, .int .i8 x1, .int .i8 y1, .int .u8 a2, .int .i8 x2, .int .i8 y2] 72)).alloc (.cells #[.int .i8 p, .int .i8 q] 46)).cell? ⟨w.heap.size, 8, none⟩ = some (.int .i8 y2) := by simp [go_sem]
  have b10 : ((w.alloc (.cells #[.int .u8 a0, .int .i8 x0, .int .i8 y0, .int .u8 a1, .int .i8 x1, .int .i8 y1, .int .u8 a2, .int .i8 x2, .int .i8 y2] 72)).alloc (.cells #[.int .i8 p, .int .i8 q] 46)).cell? ⟨w.heap.size + 1, 0, none⟩ = some (.int .i8 p) := by simp [go_sem]
  have b11 : ((w.alloc (.cells #[.int .u8 a0, .int .i8 x0, .int .i8 y0, .int .u8 a1, .int .i8 x1, .int .i8 y1, .int .u8 a2, .int .i8 x2, .int .i8 y2] 72)).alloc (.cells #[.int .i8 p, .int .i8 q] 46)).cell? ⟨w.heap.size + 1, 1, none⟩ = some (.int .i8 q) := by simp [go_sem]
  generalize ((w.alloc (.cells #[.int .u8 a0, .int .i8 x0, .int .i8 y0, .int .u8 a1, .int .i8 x1, .int .i8 y1, .int .u8 a2, .int .i8 x2, .int .i8 y2] 72)).alloc (.cells #[.int .i8 p, .int .i8 q] 46)) = W0 at *
  refine region_free3 12 9 5 10 6 11 7 51 _ (by kernel_rfl) (by kernel_rfl) (by decide) (by decide) (by decide) (by kernel_rfl) (by kernel_rfl) (by kernel_rfl) alloc51 ?_
  simp only [List.take_succ_cons, List.take_zero, List.drop_succ_cons, List.drop_zero]
  repeat (first
    | (refine wpLex_plain (by rfl) (by rfl) (by rfl) (fun K hK => ?_); go_big_quiet_op; refine hK _ ?_; clear hK K)
    | (refine wpLex_call (by rfl) (by rfl) (fun K hK => ?_); go_simp; apply Exists.intro; refine ⟨fun _ => ?_, hK _ ?_⟩; ((first | (go_at_call 41; with_reducible exact Calls.laterL (OF0 _)) | (go_at_call 41; with_reducible exact Calls.laterL (OF1 _)) | (go_at_call 41; with_reducible exact Calls.laterL (OF2 _)))); clear hK K)
    | (refine wpLex_new (by rfl) ?_; simp only [Act.put, List.setIfInBounds_toArray, List.set_cons_zero, List.set_cons_succ]))
  refine wpLex_nil ?_
  intro q0 q1 q2 u hb0 hk0 hb1 hk1 hb2 hk2 n01 n02 n12
  simp only [Act.put, List.setIfInBounds_toArray, List.set_cons_zero, List.set_cons_succ]
  have e00 : (on u).cell? ⟨q0, 0, none⟩ = some (.int .u8 0) := held_cell hk0 0
  have f00 : (on u).frozen? ⟨q0, 0, none⟩ = false := held_free hk0 0
  have f10 : (on u).frozen? ⟨q1, 0, none⟩ = false := held_free hk1 0
  have f20 : (on u).frozen? ⟨q2, 0, none⟩ = false := held_free hk2 0
  have e10 : ∀ v0 v1 v2, ((((on u).setCell ⟨q0, 0, none⟩ v0).setCell ⟨q0, 1, none⟩ v1).setCell ⟨q0, 2, none⟩ v2).cell? ⟨q1, 0, none⟩ = some (.int .u8 0) := fun v0 v1 v2 => held_cell (held_set_other (held_set_other (held_set_other hk1 n01.symm _ _) n01.symm _ _) n01.symm _ _) 0
  have e20 : ∀ v0 v1 v2 v3 v4 v5, ((((((((on u).setCell ⟨q0, 0, none⟩ v0).setCell ⟨q0, 1, none⟩ v1).setCell ⟨q0, 2, none⟩ v2).setCell ⟨q1, 0, none⟩ v3).setCell ⟨q1, 1, none⟩ v4).setCell ⟨q1, 2, none⟩ v5)).cell? ⟨q2, 0, none⟩ = some (.int .u8 0) := fun v0 v1 v2 v3 v4 v5 => held_cell (held_set_other (held_set_other (held_set_other (held_set_other (held_set_other (held_set_other hk2 n02.symm _ _) n02.symm _ _) n02.symm _ _) n12.symm _ _) n12.symm _ _) n12.symm _ _) 0
  have e01 : (on u).cell? ⟨q0, 1, none⟩ = some (.int .i64 0) := held_cell hk0 1
  have f01 : (on u).frozen? ⟨q0, 1, none⟩ = false := held_free hk0 1
  have f11 : (on u).frozen? ⟨q1, 1, none⟩ = false := held_free hk1 1
  have f21 : (on u).frozen? ⟨q2, 1, none⟩ = false := held_free hk2 1
  have e11 : ∀ v0 v1 v2, ((((on u).setCell ⟨q0, 0, none⟩ v0).setCell ⟨q0, 1, none⟩ v1).setCell ⟨q0, 2, none⟩ v2).cell? ⟨q1, 1, none⟩ = some (.int .i64 0) := fun v0 v1 v2 => held_cell (held_set_other (held_set_other (held_set_other hk1 n01.symm _ _) n01.symm _ _) n01.symm _ _) 1
  have e21 : ∀ v0 v1 v2 v3 v4 v5, ((((((((on u).setCell ⟨q0, 0, none⟩ v0).setCell ⟨q0, 1, none⟩ v1).setCell ⟨q0, 2, none⟩ v2).setCell ⟨q1, 0, none⟩ v3).setCell ⟨q1, 1, none⟩ v4).setCell ⟨q1, 2, none⟩ v5)).cell? ⟨q2, 1, none⟩ = some (.int .i64 0) := fun v0 v1 v2 v3 v4 v5 => held_cell (held_set_other (held_set_other (held_set_other (held_set_other (held_set_other (held_set_other hk2 n02.symm _ _) n02.symm _ _) n02.symm _ _) n12.symm _ _) n12.symm _ _) n12.symm _ _) 1
  have e02 : (on u).cell? ⟨q0, 2, none⟩ = some (.int .i64 0) := held_cell hk0 2
  have f02 : (on u).frozen? ⟨q0, 2, none⟩ = false := held_free hk0 2
  have f12 : (on u).frozen? ⟨q1, 2, none⟩ = false := held_free hk1 2
  have f22 : (on u).frozen? ⟨q2, 2, none⟩ = false := held_free hk2 2
  have e12 : ∀ v0 v1 v2, ((((on u).setCell ⟨q0, 0, none⟩ v0).setCell ⟨q0, 1, none⟩ v1).setCell ⟨q0, 2, none⟩ v2).cell? ⟨q1, 2, none⟩ = some (.int .i64 0) := fun v0 v1 v2 => held_cell (held_set_other (held_set_other (held_set_other hk1 n01.symm _ _) n01.symm _ _) n01.symm _ _) 2
  have e22 : ∀ v0 v1 v2 v3 v4 v5, ((((((((on u).setCell ⟨q0, 0, none⟩ v0).setCell ⟨q0, 1, none⟩ v1).setCell ⟨q0, 2, none⟩ v2).setCell ⟨q1, 0, none⟩ v3).setCell ⟨q1, 1, none⟩ v4).setCell ⟨q1, 2, none⟩ v5)).cell? ⟨q2, 2, none⟩ = some (.int .i64 0) := fun v0 v1 v2 v3 v4 v5 => held_cell (held_set_other (held_set_other (held_set_other (held_set_other (held_set_other (held_set_other hk2 n02.symm _ _) n02.symm _ _) n02.symm _ _) n12.symm _ _) n12.symm _ _) n12.symm _ _) 2
  go_wp2_with fail
  obtain ⟨w1, hw1, m0, o1⟩ := stored3 hb0 hk0 (.int .u8 T0) (.int .i64 X0) (.int .i64 Y0)
  rw [hw1]
  obtain ⟨w2, hw2, m1, o2⟩ := stored3 hb1 (o1 q1 _ n01.symm hk1) (.int .u8 T1) (.int .i64 X1) (.int .i64 Y1)
  rw [hw2]
  obtain ⟨w3, hw3, m2, o3⟩ := stored3 hb2 (o2 q2 _ n12.symm (o1 q2 _ n02.symm hk2)) (.int .u8 T2) (.int .i64 X2) (.int .i64 Y2)
  rw [hw3]
  have m1' := o3 q1 _ n12 m1
  have m0' := o3 q0 _ n02 (o2 q0 _ n01 m0)
  clear hw1 hw2 hw3 o1 o2 o3 m0 m1 hk0 hk1 hk2 e00 f00 e10 f10 e20 f20 e01 f01 e11 f11 e21 f21 e02 f02 e12 f12 e22 f22
  have d00 : (on w3).cell? ⟨w.heap.size, 0, none⟩ = some (.int .u8 a0) := by simp [go_sem, b00]
  have d01 : (on w3).cell? ⟨w.heap.size, 1, none⟩ = some (.int .i8 x0) := by simp [go_sem, b01]
  have d02 : (on w3).cell? ⟨w.heap.size, 2, none⟩ = some (.int .i8 y0) := by simp [go_sem, b02]
  have d03 : (on w3).cell? ⟨w.heap.size, 3, none⟩ = some (.int .u8 a1) := by simp [go_sem, b03]
  have d04 : (on w3).cell? ⟨w.heap.size, 4, none⟩ = some (.int .i8 x1) := by simp [go_sem, b04]
  have d05 : (on w3).cell? ⟨w.heap.size, 5, none⟩ = some (.int .i8 y1) := by simp [go_sem, b05]
  have d06 : (on w3).cell? ⟨w.heap.size, 6, none⟩ = some (.int .u8 a2) := by simp [go_sem, b06]
  have d07 : (on w3).cell? ⟨w.heap.size, 7, none⟩ = some (.int .i8 x2) := by simp [go_sem, b07]
  have d08 : (on w3).cell? ⟨w.heap.size, 8, none⟩ = some (.int .i8 y2) := by simp [go_sem, b08]
  have d10 : (on w3).cell? ⟨w.heap.size + 1, 0, none⟩ = some (.int .i8 p) := by simp [go_sem, b10]
  have d11 : (on w3).cell? ⟨w.heap.size + 1, 1, none⟩ = some (.int .i8 q) := by simp [go_sem, b11]
  have g00 : (on w3).cell? ⟨q0, 0, none⟩ = some (.int .u8 T0) := held_cell m0' 0
  have g01 : (on w3).cell? ⟨q0, 1, none⟩ = some (.int .i64 X0) := held_cell m0' 1
  have g02 : (on w3).cell? ⟨q0, 2, none⟩ = some (.int .i64 Y0) := held_cell m0' 2
  have g10 : (on w3).cell? ⟨q1, 0, none⟩ = some (.int .u8 T1) := held_cell m1' 0
  have g11 : (on w3).cell? ⟨q1, 1, none⟩ = some (.int .i64 X1) := held_cell m1' 1
  have g12 : (on w3).cell? ⟨q1, 2, none⟩ = some (.int .i64 Y1) := held_cell m1' 2
  have g20 : (on w3).cell? ⟨q2, 0, none⟩ = some (.int .u8 T2) := held_cell m2 0
  have g21 : (on w3).cell? ⟨q2, 1, none⟩ = some (.int .i64 X2) := held_cell m2 1
  have g22 : (on w3).cell? ⟨q2, 2, none⟩ = some (.int .i64 Y2) := held_cell m2 2
  have hB1 : Below w.heap.size w (on w3) := below_on hB0 w3
  clear m0' m1' m2 b00 b01 b02 b03 b04 b05 b06 b07 b08 b10 b11 hB0 hb0 hb1 hb2 n01 n02 n12
  generalize on w3 = W1 at *
  clear w3 u
  go_wp2_with (first | (go_at_call 30; with_reducible refine (AB _ (hS' _ (by repeat first | (with_reducible exact hB1) | (with_reducible refine below_on ?_ _) | (with_reducible refine below_alloc ?_ _) | (with_reducible refine below_set ?_ (by simp; try omega) _)))).mono ?_; rintro e wx ⟨rfl, hx⟩; obtain ⟨ux, rfl⟩ := after hx; clear hx) | fail)
  have hR : Below (W1).heap.size (W1) ((on ux).alloc (.cells #[.int .u8 T3, .int .i64 (X3), .int .i64 (Y3)] 51)) := by repeat first | (with_reducible exact Below.refl _ _) | (with_reducible refine below_on ?_ _) | (with_reducible refine below_alloc ?_ _)
  have d00' : ((on ux).alloc (.cells #[.int .u8 T3, .int .i64 (X3), .int .i64 (Y3)] 51)).cell? ⟨w.heap.size, 0, none⟩ = some (.int .u8 a0) := (hR.cell (World.block_lt_of_cell? _ _ d00)).trans d00
  have d01' : ((on ux).alloc (.cells #[.int .u8 T3, .int .i64 (X3), .int .i64 (Y3)] 51)).cell? ⟨w.heap.size, 1, none⟩ = some (.int .i8 x0) := (hR.cell (World.block_lt_of_cell? _ _ d01)).trans d01
  have d02' : ((on ux).alloc (.cells #[.int .u8 T3, .int .i64 (X3), .int .i64 (Y3)] 51)).cell? ⟨w.heap.size, 2, none⟩ = some (.int .i8 y0) := (hR.cell (World.block_lt_of_cell? _ _ d02)).trans d02
  have d03' : ((on ux).alloc (.cells #[.int .u8 T3, .int .i64 (X3), .int .i64 (Y3)] 51)).cell? ⟨w.heap.size, 3, none⟩ = some (.int .u8 a1) := (hR.cell (World.block_lt_of_cell? _ _ d03)).trans d03
  have d04' : ((on ux).alloc (.cells #[.int .u8 T3, .int .i64 (X3), .int .i64 (Y3)] 51)).cell? ⟨w.heap.size, 4, none⟩ = some (.int .i8 x1) := (hR.cell (World.block_lt_of_cell? _ _ d04)).trans d04
  have d05' : ((on ux).alloc (.cells #[.int .u8 T3, .int .i64 (X3), .int .i64 (Y3)] 51)).cell? ⟨w.heap.size, 5, none⟩ = some (.int .i8 y1) := (hR.cell (World.block_lt_of_cell? _ _ d05)).trans d05
  have d06' : ((on ux).alloc (.cells #[.int .u8 T3, .int .i64 (X3), .int .i64 (Y3)] 51)).cell? ⟨w.heap.size, 6, none⟩ = some (.int .u8 a2) := (hR.cell (World.block_lt_of_cell? _ _ d06)).trans d06
  have d07' : ((on ux).alloc (.cells #[.int .u8 T3, .int .i64 (X3), .int .i64 (Y3)] 51)).cell? ⟨w.heap.size, 7, none⟩ = some (.int .i8 x2) := (hR.cell (World.block_lt_of_cell? _ _ d07)).trans d07
  have d08' : ((on ux).alloc (.cells #[.int .u8 T3, .int .i64 (X3), .int .i64 (Y3)] 51)).cell? ⟨w.heap.size, 8, none⟩ = some (.int .i8 y2) := (hR.cell (World.block_lt_of_cell? _ _ d08)).trans d08
  have d10' : ((on ux).alloc (.cells #[.int .u8 T3, .int .i64 (X3), .int .i64 (Y3)] 51)).cell? ⟨w.heap.size + 1, 0, none⟩ = some (.int .i8 p) := (hR.cell (World.block_lt_of_cell? _ _ d10)).trans d10
  have d11' : ((on ux).alloc (.cells #[.int .u8 T3, .int .i64 (X3), .int .i64 (Y3)] 51)).cell? ⟨w.heap.size + 1, 1, none⟩ = some (.int .i8 q) := (hR.cell (World.block_lt_of_cell? _ _ d11)).trans d11
  have g00' : ((on ux).alloc (.cells #[.int .u8 T3, .int .i64 (X3), .int .i64 (Y3)] 51)).cell? ⟨q0, 0, none⟩ = some (.int .u8 T0) := (hR.cell (World.block_lt_of_cell? _ _ g00)).trans g00
  have g01' : ((on ux).alloc (.cells #[.int .u8 T3, .int .i64 (X3), .int .i64 (Y3)] 51)).cell? ⟨q0, 1, none⟩ = some (.int .i64 X0) := (hR.cell (World.block_lt_of_cell? _ _ g01)).trans g01
  have g02' : ((on ux).alloc (.cells #[.int .u8 T3, .int .i64 (X3), .int .i64 (Y3)] 51)).cell? ⟨q0, 2, none⟩ = some (.int .i64 Y0) := (hR.cell (World.block_lt_of_cell? _ _ g02)).trans g02
  have g10' : ((on ux).alloc (.cells #[.int .u8 T3, .int .i64 (X3), .int .i64 (Y3)] 51)).cell? ⟨q1, 0, none⟩ = some (.int .u8 T1) := (hR.cell (World.block_lt_of_cell? _ _ g10)).trans g10
  have g11' : ((on ux).alloc (.cells #[.int .u8 T3, .int .i64 (X3), .int .i64 (Y3)] 51)).cell? ⟨q1, 1, none⟩ = some (.int .i64 X1) := (hR.cell (World.block_lt_of_cell? _ _ g11)).trans g11
  have g12' : ((on ux).alloc (.cells #[.int .u8 T3, .int .i64 (X3), .int .i64 (Y3)] 51)).cell? ⟨q1, 2, none⟩ = some (.int .i64 Y1) := (hR.cell (World.block_lt_of_cell? _ _ g12)).trans g12
  have g20' : ((on ux).alloc (.cells #[.int .u8 T3, .int .i64 (X3), .int .i64 (Y3)] 51)).cell? ⟨q2, 0, none⟩ = some (.int .u8 T2) := (hR.cell (World.block_lt_of_cell? _ _ g20)).trans g20
  have g21' : ((on ux).alloc (.cells #[.int .u8 T3, .int .i64 (X3), .int .i64 (Y3)] 51)).cell? ⟨q2, 1, none⟩ = some (.int .i64 X2) := (hR.cell (World.block_lt_of_cell? _ _ g21)).trans g21
  have g22' : ((on ux).alloc (.cells #[.int .u8 T3, .int .i64 (X3), .int .i64 (Y3)] 51)).cell? ⟨q2, 2, none⟩ = some (.int .i64 Y2) := (hR.cell (World.block_lt_of_cell? _ _ g22)).trans g22
  have B200 : ((on ux).alloc (.cells #[.int .u8 T3, .int .i64 (X3), .int .i64 (Y3)] 51)).cell? ⟨(on ux).heap.size, 0, none⟩ = some (.int .u8 T3) := by simp [go_sem]
  have B201 : ((on ux).alloc (.cells #[.int .u8 T3, .int .i64 (X3), .int .i64 (Y3)] 51)).cell? ⟨(on ux).heap.size, 1, none⟩ = some (.int .i64 (X3)) := by simp [go_sem]
  have B202 : ((on ux).alloc (.cells #[.int .u8 T3, .int .i64 (X3), .int .i64 (Y3)] 51)).cell? ⟨(on ux).heap.size, 2, none⟩ = some (.int .i64 (Y3)) := by simp [go_sem]
  have hB2 : Below w.heap.size w ((on ux).alloc (.cells #[.int .u8 T3, .int .i64 (X3), .int .i64 (Y3)] 51)) := by repeat first | (with_reducible exact hB1) | (with_reducible refine below_on ?_ _) | (with_reducible refine below_alloc ?_ _)
  clear hR d00 d01 d02 d03 d04 d05 d06 d07 d08 d10 d11 g00 g01 g02 g10 g11 g12 g20 g21 g22  hB1
  generalize ((on ux).alloc (.cells #[.int .u8 T3, .int .i64 (X3), .int .i64 (Y3)] 51)) = W2 at *
  generalize (on ux).heap.size = B2 at *
  clear ux
  go_wp2_with (first | (go_at_call 30; with_reducible refine (BC _ (hS' _ (by repeat first | (with_reducible exact hB2) | (with_reducible refine below_on ?_ _) | (with_reducible refine below_alloc ?_ _) | (with_reducible refine below_set ?_ (by simp; try omega) _)))).mono ?_; rintro e wx ⟨rfl, hx⟩; obtain ⟨ux, rfl⟩ := after hx; clear hx) | fail)
  have hR : Below (W2).heap.size (W2) ((on ux).alloc (.cells #[.int .u8 T4, .int .i64 (X4), .int .i64 (Y4)] 51)) := by repeat first | (with_reducible exact Below.refl _ _) | (with_reducible refine below_on ?_ _) | (with_reducible refine below_alloc ?_ _)
  have d00'' : ((on ux).alloc (.cells #[.int .u8 T4, .int .i64 (X4), .int .i64 (Y4)] 51)).cell? ⟨w.heap.size, 0, none⟩ = some (.int .u8 a0) := (hR.cell (World.block_lt_of_cell? _ _ d00')).trans d00'
  have d01'' : ((on ux).alloc (.cells #[.int .u8 T4, .int .i64 (X4), .int .i64 (Y4)] 51)).cell? ⟨w.heap.size, 1, none⟩ = some (.int .i8 x0) := (hR.cell (World.block_lt_of_cell? _ _ d01')).trans d01'
  have d02'' : ((on ux).alloc (.cells #[.int .u8 T4, .int .i64 (X4), .int .i64 (Y4)] 51)).cell? ⟨w.heap.size, 2, none⟩ = some (.int .i8 y0) := (hR.cell (World.block_lt_of_cell? _ _ d02')).trans d02'
  have d03'' : ((on ux).alloc (.cells #[.int .u8 T4, .int .i64 (X4), .int .i64 (Y4)] 51)).cell? ⟨w.heap.size, 3, none⟩ = some (.int .u8 a1) := (hR.cell (World.block_lt_of_cell? _ _ d03')).trans d03'
  have d04'' : ((on ux).alloc (.cells #[.int .u8 T4, .int .i64 (X4), .int .i64 (Y4)] 51)).cell? ⟨w.heap.size, 4, none⟩ = some (.int .i8 x1) := (hR.cell (World.block_lt_of_cell? _ _ d04')).trans d04'
  have d05'' : ((on ux).alloc (.cells #[.int .u8 T4, .int .i64 (X4), .int .i64 (Y4)] 51)).cell? ⟨w.heap.size, 5, none⟩ = some (.int .i8 y1) := (hR.cell (World.block_lt_of_cell? _ _ d05')).trans d05'
  have d06'' : ((on ux).alloc (.cells #[.int .u8 T4, .int .i64 (X4), .int .i64 (Y4)] 51)).cell? ⟨w.heap.size, 6, none⟩ = some (.int .u8 a2) := (hR.cell (World.block_lt_of_cell? _ _ d06')).trans d06'
  have d07'' : ((on ux).alloc (.cells #[.int .u8 T4, .int .i64 (X4), .int .i64 (Y4)] 51)).cell? ⟨w.heap.size, 7, none⟩ = some (.int .i8 x2) := (hR.cell (World.block_lt_of_cell? _ _ d07')).trans d07'
  have d08'' : ((on ux).alloc (.cells #[.int .u8 T4, .int .i64 (X4), .int .i64 (Y4)] 51)).cell? ⟨w.heap.size, 8, none⟩ = some (.int .i8 y2) := (hR.cell (World.block_lt_of_cell? _ _ d08')).trans d08'
  have d10'' : ((on ux).alloc (.cells #[.int .u8 T4, .int .i64 (X4), .int .i64 (Y4)] 51)).cell? ⟨w.heap.size + 1, 0, none⟩ = some (.int .i8 p) := (hR.cell (World.block_lt_of_cell? _ _ d10')).trans d10'
  have d11'' : ((on ux).alloc (.cells #[.int .u8 T4, .int .i64 (X4), .int .i64 (Y4)] 51)).cell? ⟨w.heap.size + 1, 1, none⟩ = some (.int .i8 q) := (hR.cell (World.block_lt_of_cell? _ _ d11')).trans d11'
  have g00'' : ((on ux).alloc (.cells #[.int .u8 T4, .int .i64 (X4), .int .i64 (Y4)] 51)).cell? ⟨q0, 0, none⟩ = some (.int .u8 T0) := (hR.cell (World.block_lt_of_cell? _ _ g00')).trans g00'
  have g01'' : ((on ux).alloc (.cells #[.int .u8 T4, .int .i64 (X4), .int .i64 (Y4)] 51)).cell? ⟨q0, 1, none⟩ = some (.int .i64 X0) := (hR.cell (World.block_lt_of_cell? _ _ g01')).trans g01'
  have g02'' : ((on ux).alloc (.cells #[.int .u8 T4, .int .i64 (X4), .int .i64 (Y4)] 51)).cell? ⟨q0, 2, none⟩ = some (.int .i64 Y0) := (hR.cell (World.block_lt_of_cell? _ _ g02')).trans g02'
  have g10'' : ((on ux).alloc (.cells #[.int .u8 T4, .int .i64 (X4), .int .i64 (Y4)] 51)).cell? ⟨q1, 0, none⟩ = some (.int .u8 T1) := (hR.cell (World.block_lt_of_cell? _ _ g10')).trans g10'
  have g11'' : ((on ux).alloc (.cells #[.int .u8 T4, .int .i64 (X4), .int .i64 (Y4)] 51)).cell? ⟨q1, 1, none⟩ = some (.int .i64 X1) := (hR.cell (World.block_lt_of_cell? _ _ g11')).trans g11'
  have g12'' : ((on ux).alloc (.cells #[.int .u8 T4, .int .i64 (X4), .int .i64 (Y4)] 51)).cell? ⟨q1, 2, none⟩ = some (.int .i64 Y1) := (hR.cell (World.block_lt_of_cell? _ _ g12')).trans g12'
  have g20'' : ((on ux).alloc (.cells #[.int .u8 T4, .int .i64 (X4), .int .i64 (Y4)] 51)).cell? ⟨q2, 0, none⟩ = some (.int .u8 T2) := (hR.cell (World.block_lt_of_cell? _ _ g20')).trans g20'
  have g21'' : ((on ux).alloc (.cells #[.int .u8 T4, .int .i64 (X4), .int .i64 (Y4)] 51)).cell? ⟨q2, 1, none⟩ = some (.int .i64 X2) := (hR.cell (World.block_lt_of_cell? _ _ g21')).trans g21'
  have g22'' : ((on ux).alloc (.cells #[.int .u8 T4, .int .i64 (X4), .int .i64 (Y4)] 51)).cell? ⟨q2, 2, none⟩ = some (.int .i64 Y2) := (hR.cell (World.block_lt_of_cell? _ _ g22')).trans g22'
  have B200' : ((on ux).alloc (.cells #[.int .u8 T4, .int .i64 (X4), .int .i64 (Y4)] 51)).cell? ⟨B2, 0, none⟩ = some (.int .u8 T3) := (hR.cell (World.block_lt_of_cell? _ _ B200)).trans B200
  have B201' : ((on ux).alloc (.cells #[.int .u8 T4, .int .i64 (X4), .int .i64 (Y4)] 51)).cell? ⟨B2, 1, none⟩ = some (.int .i64 (X3)) := (hR.cell (World.block_lt_of_cell? _ _ B201)).trans B201
  have B202' : ((on ux).alloc (.cells #[.int .u8 T4, .int .i64 (X4), .int .i64 (Y4)] 51)).cell? ⟨B2, 2, none⟩ = some (.int .i64 (Y3)) := (hR.cell (World.block_lt_of_cell? _ _ B202)).trans B202
  have B300 : ((on ux).alloc (.cells #[.int .u8 T4, .int .i64 (X4), .int .i64 (Y4)] 51)).cell? ⟨(on ux).heap.size, 0, none⟩ = some (.int .u8 T4) := by simp [go_sem]
  have B301 : ((on ux).alloc (.cells #[.int .u8 T4, .int .i64 (X4), .int .i64 (Y4)] 51)).cell? ⟨(on ux).heap.size, 1, none⟩ = some (.int .i64 (X4)) := by simp [go_sem]
  have B302 : ((on ux).alloc (.cells #[.int .u8 T4, .int .i64 (X4), .int .i64 (Y4)] 51)).cell? ⟨(on ux).heap.size, 2, none⟩ = some (.int .i64 (Y4)) := by simp [go_sem]
  have hB3 : Below w.heap.size w ((on ux).alloc (.cells #[.int .u8 T4, .int .i64 (X4), .int .i64 (Y4)] 51)) := by repeat first | (with_reducible exact hB2) | (with_reducible refine below_on ?_ _) | (with_reducible refine below_alloc ?_ _)
  clear hR d00' d01' d02' d03' d04' d05' d06' d07' d08' d10' d11' g00' g01' g02' g10' g11' g12' g20' g21' g22' B200 B201 B202  hB2
  generalize ((on ux).alloc (.cells #[.int .u8 T4, .int .i64 (X4), .int .i64 (Y4)] 51)) = W3 at *
  generalize (on ux).heap.size = B3 at *
  clear ux
  go_wp2_with (first | (go_at_call 30; with_reducible refine (ON _ (hS' _ (by repeat first | (with_reducible exact hB3) | (with_reducible refine below_on ?_ _) | (with_reducible refine below_alloc ?_ _) | (with_reducible refine below_set ?_ (by simp; try omega) _)))).mono ?_; rintro e wx ⟨rfl, hx⟩; obtain ⟨ux, rfl⟩ := after hx; clear hx) | fail)
  have hR : Below (W3).heap.size (W3) ((on ux).alloc (.cells #[.int .u8 T5, .int .i64 (X5), .int .i64 (Y5)] 51)) := by repeat first | (with_reducible exact Below.refl _ _) | (with_reducible refine below_on ?_ _) | (with_reducible refine below_alloc ?_ _)
  have d00''' : ((on ux).alloc (.cells #[.int .u8 T5, .int .i64 (X5), .int .i64 (Y5)] 51)).cell? ⟨w.heap.size, 0, none⟩ = some (.int .u8 a0) := (hR.cell (World.block_lt_of_cell? _ _ d00'')).trans d00''
  have d01''' : ((on ux).alloc (.cells #[.int .u8 T5, .int .i64 (X5), .int .i64 (Y5)] 51)).cell? ⟨w.heap.size, 1, none⟩ = some (.int .i8 x0) := (hR.cell (World.block_lt_of_cell? _ _ d01'')).trans d01''
  have d02''' : ((on ux).alloc (.cells #[.int .u8 T5, .int .i64 (X5), .int .i64 (Y5)] 51)).cell? ⟨w.heap.size, 2, none⟩ = some (.int .i8 y0) := (hR.cell (World.block_lt_of_cell? _ _ d02'')).trans d02''
  have d03''' : ((on ux).alloc (.cells #[.int .u8 T5, .int .i64 (X5), .int .i64 (Y5)] 51)).cell? ⟨w.heap.size, 3, none⟩ = some (.int .u8 a1) := (hR.cell (World.block_lt_of_cell? _ _ d03'')).trans d03''
  have d04''' : ((on ux).alloc (.cells #[.int .u8 T5, .int .i64 (X5), .int .i64 (Y5)] 51)).cell? ⟨w.heap.size, 4, none⟩ = some (.int .i8 x1) := (hR.cell (World.block_lt_of_cell? _ _ d04'')).trans d04''
  have d05''' : ((on ux).alloc (.cells #[.int .u8 T5, .int .i64 (X5), .int .i64 (Y5)] 51)).cell? ⟨w.heap.size, 5, none⟩ = some (.int .i8 y1) := (hR.cell (World.block_lt_of_cell? _ _ d05'')).trans d05''
  have d06''' : ((on ux).alloc (.cells #[.int .u8 T5, .int .i64 (X5), .int .i64 (Y5)] 51)).cell? ⟨w.heap.size, 6, none⟩ = some (.int .u8 a2) := (hR.cell (World.block_lt_of_cell? _ _ d06'')).trans d06''
  have d07''' : ((on ux).alloc (.cells #[.int .u8 T5, .int .i64 (X5), .int .i64 (Y5)] 51)).cell? ⟨w.heap.size, 7, none⟩ = some (.int .i8 x2) := (hR.cell (World.block_lt_of_cell? _ _ d07'')).trans d07''
  have d08''' : ((on ux).alloc (.cells #[.int .u8 T5, .int .i64 (X5), .int .i64 (Y5)] 51)).cell? ⟨w.heap.size, 8, none⟩ = some (.int .i8 y2) := (hR.cell (World.block_lt_of_cell? _ _ d08'')).trans d08''
  have d10''' : ((on ux).alloc (.cells #[.int .u8 T5, .int .i64 (X5), .int .i64 (Y5)] 51)).cell? ⟨w.heap.size + 1, 0, none⟩ = some (.int .i8 p) := (hR.cell (World.block_lt_of_cell? _ _ d10'')).trans d10''
  have d11''' : ((on ux).alloc (.cells #[.int .u8 T5, .int .i64 (X5), .int .i64 (Y5)] 51)).cell? ⟨w.heap.size + 1, 1, none⟩ = some (.int .i8 q) := (hR.cell (World.block_lt_of_cell? _ _ d11'')).trans d11''
  have g00''' : ((on ux).alloc (.cells #[.int .u8 T5, .int .i64 (X5), .int .i64 (Y5)] 51)).cell? ⟨q0, 0, none⟩ = some (.int .u8 T0) := (hR.cell (World.block_lt_of_cell? _ _ g00'')).trans g00''
  have g01''' : ((on ux).alloc (.cells #[.int .u8 T5, .int .i64 (X5), .int .i64 (Y5)] 51)).cell? ⟨q0, 1, none⟩ = some (.int .i64 X0) := (hR.cell (World.block_lt_of_cell? _ _ g01'')).trans g01''
  have g02''' : ((on ux).alloc (.cells #[.int .u8 T5, .int .i64 (X5), .int .i64 (Y5)] 51)).cell? ⟨q0, 2, none⟩ = some (.int .i64 Y0) := (hR.cell (World.block_lt_of_cell? _ _ g02'')).trans g02''
  have g10''' : ((on ux).alloc (.cells #[.int .u8 T5, .int .i64 (X5), .int .i64 (Y5)] 51)).cell? ⟨q1, 0, none⟩ = some (.int .u8 T1) := (hR.cell (World.block_lt_of_cell? _ _ g10'')).trans g10''
  have g11''' : ((on ux).alloc (.cells #[.int .u8 T5, .int .i64 (X5), .int .i64 (Y5)] 51)).cell? ⟨q1, 1, none⟩ = some (.int .i64 X1) := (hR.cell (World.block_lt_of_cell? _ _ g11'')).trans g11''
  have g12''' : ((on ux).alloc (.cells #[.int .u8 T5, .int .i64 (X5), .int .i64 (Y5)] 51)).cell? ⟨q1, 2, none⟩ = some (.int .i64 Y1) := (hR.cell (World.block_lt_of_cell? _ _ g12'')).trans g12''
  have g20''' : ((on ux).alloc (.cells #[.int .u8 T5, .int .i64 (X5), .int .i64 (Y5)] 51)).cell? ⟨q2, 0, none⟩ = some (.int .u8 T2) := (hR.cell (World.block_lt_of_cell? _ _ g20'')).trans g20''
  have g21''' : ((on ux).alloc (.cells #[.int .u8 T5, .int .i64 (X5), .int .i64 (Y5)] 51)).cell? ⟨q2, 1, none⟩ = some (.int .i64 X2) := (hR.cell (World.block_lt_of_cell? _ _ g21'')).trans g21''
  have g22''' : ((on ux).alloc (.cells #[.int .u8 T5, .int .i64 (X5), .int .i64 (Y5)] 51)).cell? ⟨q2, 2, none⟩ = some (.int .i64 Y2) := (hR.cell (World.block_lt_of_cell? _ _ g22'')).trans g22''
  have B200'' : ((on ux).alloc (.cells #[.int .u8 T5, .int .i64 (X5), .int .i64 (Y5)] 51)).cell? ⟨B2, 0, none⟩ = some (.int .u8 T3) := (hR.cell (World.block_lt_of_cell? _ _ B200')).trans B200'
  have B201'' : ((on ux).alloc (.cells #[.int .u8 T5, .int .i64 (X5), .int .i64 (Y5)] 51)).cell? ⟨B2, 1, none⟩ = some (.int .i64 (X3)) := (hR.cell (World.block_lt_of_cell? _ _ B201')).trans B201'
  have B202'' : ((on ux).alloc (.cells #[.int .u8 T5, .int .i64 (X5), .int .i64 (Y5)] 51)).cell? ⟨B2, 2, none⟩ = some (.int .i64 (Y3)) := (hR.cell (World.block_lt_of_cell? _ _ B202')).trans B202'
  have B300' : ((on ux).alloc (.cells #[.int .u8 T5, .int .i64 (X5), .int .i64 (Y5)] 51)).cell? ⟨B3, 0, none⟩ = some (.int .u8 T4) := (hR.cell (World.block_lt_of_cell? _ _ B300)).trans B300
  have B301' : ((on ux).alloc (.cells #[.int .u8 T5, .int .i64 (X5), .int .i64 (Y5)] 51)).cell? ⟨B3, 1, none⟩ = some (.int .i64 (X4)) := (hR.cell (World.block_lt_of_cell? _ _ B301)).trans B301
  have B302' : ((on ux).alloc (.cells #[.int .u8 T5, .int .i64 (X5), .int .i64 (Y5)] 51)).cell? ⟨B3, 2, none⟩ = some (.int .i64 (Y4)) := (hR.cell (World.block_lt_of_cell? _ _ B302)).trans B302
  have B400 : ((on ux).alloc (.cells #[.int .u8 T5, .int .i64 (X5), .int .i64 (Y5)] 51)).cell? ⟨(on ux).heap.size, 0, none⟩ = some (.int .u8 T5) := by simp [go_sem]
  have B401 : ((on ux).alloc (.cells #[.int .u8 T5, .int .i64 (X5), .int .i64 (Y5)] 51)).cell? ⟨(on ux).heap.size, 1, none⟩ = some (.int .i64 (X5)) := by simp [go_sem]
  have B402 : ((on ux).alloc (.cells #[.int .u8 T5, .int .i64 (X5), .int .i64 (Y5)] 51)).cell? ⟨(on ux).heap.size, 2, none⟩ = some (.int .i64 (Y5)) := by simp [go_sem]
  have hB4 : Below w.heap.size w ((on ux).alloc (.cells #[.int .u8 T5, .int .i64 (X5), .int .i64 (Y5)] 51)) := by repeat first | (with_reducible exact hB3) | (with_reducible refine below_on ?_ _) | (with_reducible refine below_alloc ?_ _)
  clear hR d00'' d01'' d02'' d03'' d04'' d05'' d06'' d07'' d08'' d10'' d11'' g00'' g01'' g02'' g10'' g11'' g12'' g20'' g21'' g22'' B200' B201' B202' B300 B301 B302  hB3
  generalize ((on ux).alloc (.cells #[.int .u8 T5, .int .i64 (X5), .int .i64 (Y5)] 51)) = W4 at *
  generalize (on ux).heap.size = B4 at *
  clear ux
  go_wp2_with (first | (go_at_call 30; with_reducible refine (TW _ (hS' _ (by repeat first | (with_reducible exact hB4) | (with_reducible refine below_on ?_ _) | (with_reducible refine below_alloc ?_ _) | (with_reducible refine below_set ?_ (by simp; try omega) _)))).mono ?_; rintro e wx ⟨rfl, hx⟩; obtain ⟨ux, rfl⟩ := after hx; clear hx) | fail)
  have hQ6 : (((on ux).alloc (.cells #[.int .u8 T5, .int .i64 X5, .int .i64 Y5] 51)).alloc (.cells #[.int .i64 p, .int .i64 q] 31)).heap[(on ux).heap.size + 1]? = some (.cells #[.int .i64 (p), .int .i64 (q)] 31) := heap_alloc2_new _ _ _
  have hx6 : w.heap.size < (on ux).heap.size := Nat.lt_of_lt_of_le (World.block_lt_of_cell? _ _ d00''') (on_size ux)
  have hR : Below (W4).heap.size (W4) (((on ux).alloc (.cells #[.int .u8 T5, .int .i64 X5, .int .i64 Y5] 51)).alloc (.cells #[.int .i64 p, .int .i64 q] 31)) := by repeat first | (with_reducible exact Below.refl _ _) | (with_reducible refine below_on ?_ _) | (with_reducible refine below_alloc ?_ _)
  have d00'''' : (((on ux).alloc (.cells #[.int .u8 T5, .int .i64 X5, .int .i64 Y5] 51)).alloc (.cells #[.int .i64 p, .int .i64 q] 31)).cell? ⟨w.heap.size, 0, none⟩ = some (.int .u8 a0) := (hR.cell (World.block_lt_of_cell? _ _ d00''')).trans d00'''
  have d01'''' : (((on ux).alloc (.cells #[.int .u8 T5, .int .i64 X5, .int .i64 Y5] 51)).alloc (.cells #[.int .i64 p, .int .i64 q] 31)).cell? ⟨w.heap.size, 1, none⟩ = some (.int .i8 x0) := (hR.cell (World.block_lt_of_cell? _ _ d01''')).trans d01'''
  have d02'''' : (((on ux).alloc (.cells #[.int .u8 T5, .int .i64 X5, .int .i64 Y5] 51)).alloc (.cells #[.int .i64 p, .int .i64 q] 31)).cell? ⟨w.heap.size, 2, none⟩ = some (.int .i8 y0) := (hR.cell (World.block_lt_of_cell? _ _ d02''')).trans d02'''
  have d03'''' : (((on ux).alloc (.cells #[.int .u8 T5, .int .i64 X5, .int .i64 Y5] 51)).alloc (.cells #[.int .i64 p, .int .i64 q] 31)).cell? ⟨w.heap.size, 3, none⟩ = some (.int .u8 a1) := (hR.cell (World.block_lt_of_cell? _ _ d03''')).trans d03'''
  have d04'''' : (((on ux).alloc (.cells #[.int .u8 T5, .int .i64 X5, .int .i64 Y5] 51)).alloc (.cells #[.int .i64 p, .int .i64 q] 31)).cell? ⟨w.heap.size, 4, none⟩ = some (.int .i8 x1) := (hR.cell (World.block_lt_of_cell? _ _ d04''')).trans d04'''
  have d05'''' : (((on ux).alloc (.cells #[.int .u8 T5, .int .i64 X5, .int .i64 Y5] 51)).alloc (.cells #[.int .i64 p, .int .i64 q] 31)).cell? ⟨w.heap.size, 5, none⟩ = some (.int .i8 y1) := (hR.cell (World.block_lt_of_cell? _ _ d05''')).trans d05'''
  have d06'''' : (((on ux).alloc (.cells #[.int .u8 T5, .int .i64 X5, .int .i64 Y5] 51)).alloc (.cells #[.int .i64 p, .int .i64 q] 31)).cell? ⟨w.heap.size, 6, none⟩ = some (.int .u8 a2) := (hR.cell (World.block_lt_of_cell? _ _ d06''')).trans d06'''
  have d07'''' : (((on ux).alloc (.cells #[.int .u8 T5, .int .i64 X5, .int .i64 Y5] 51)).alloc (.cells #[.int .i64 p, .int .i64 q] 31)).cell? ⟨w.heap.size, 7, none⟩ = some (.int .i8 x2) := (hR.cell (World.block_lt_of_cell? _ _ d07''')).trans d07'''
  have d08'''' : (((on ux).alloc (.cells #[.int .u8 T5, .int .i64 X5, .int .i64 Y5] 51)).alloc (.cells #[.int .i64 p, .int .i64 q] 31)).cell? ⟨w.heap.size, 8, none⟩ = some (.int .i8 y2) := (hR.cell (World.block_lt_of_cell? _ _ d08''')).trans d08'''
  have d10'''' : (((on ux).alloc (.cells #[.int .u8 T5, .int .i64 X5, .int .i64 Y5] 51)).alloc (.cells #[.int .i64 p, .int .i64 q] 31)).cell? ⟨w.heap.size + 1, 0, none⟩ = some (.int .i8 p) := (hR.cell (World.block_lt_of_cell? _ _ d10''')).trans d10'''
  have d11'''' : (((on ux).alloc (.cells #[.int .u8 T5, .int .i64 X5, .int .i64 Y5] 51)).alloc (.cells #[.int .i64 p, .int .i64 q] 31)).cell? ⟨w.heap.size + 1, 1, none⟩ = some (.int .i8 q) := (hR.cell (World.block_lt_of_cell? _ _ d11''')).trans d11'''
  have g00'''' : (((on ux).alloc (.cells #[.int .u8 T5, .int .i64 X5, .int .i64 Y5] 51)).alloc (.cells #[.int .i64 p, .int .i64 q] 31)).cell? ⟨q0, 0, none⟩ = some (.int .u8 T0) := (hR.cell (World.block_lt_of_cell? _ _ g00''')).trans g00'''
  have g01'''' : (((on ux).alloc (.cells #[.int .u8 T5, .int .i64 X5, .int .i64 Y5] 51)).alloc (.cells #[.int .i64 p, .int .i64 q] 31)).cell? ⟨q0, 1, none⟩ = some (.int .i64 X0) := (hR.cell (World.block_lt_of_cell? _ _ g01''')).trans g01'''
  have g02'''' : (((on ux).alloc (.cells #[.int .u8 T5, .int .i64 X5, .int .i64 Y5] 51)).alloc (.cells #[.int .i64 p, .int .i64 q] 31)).cell? ⟨q0, 2, none⟩ = some (.int .i64 Y0) := (hR.cell (World.block_lt_of_cell? _ _ g02''')).trans g02'''
  have g10'''' : (((on ux).alloc (.cells #[.int .u8 T5, .int .i64 X5, .int .i64 Y5] 51)).alloc (.cells #[.int .i64 p, .int .i64 q] 31)).cell? ⟨q1, 0, none⟩ = some (.int .u8 T1) := (hR.cell (World.block_lt_of_cell? _ _ g10''')).trans g10'''
  have g11'''' : (((on ux).alloc (.cells #[.int .u8 T5, .int .i64 X5, .int .i64 Y5] 51)).alloc (.cells #[.int .i64 p, .int .i64 q] 31)).cell? ⟨q1, 1, none⟩ = some (.int .i64 X1) := (hR.cell (World.block_lt_of_cell? _ _ g11''')).trans g11'''
  have g12'''' : (((on ux).alloc (.cells #[.int .u8 T5, .int .i64 X5, .int .i64 Y5] 51)).alloc (.cells #[.int .i64 p, .int .i64 q] 31)).cell? ⟨q1, 2, none⟩ = some (.int .i64 Y1) := (hR.cell (World.block_lt_of_cell? _ _ g12''')).trans g12'''
  have g20'''' : (((on ux).alloc (.cells #[.int .u8 T5, .int .i64 X5, .int .i64 Y5] 51)).alloc (.cells #[.int .i64 p, .int .i64 q] 31)).cell? ⟨q2, 0, none⟩ = some (.int .u8 T2) := (hR.cell (World.block_lt_of_cell? _ _ g20''')).trans g20'''
  have g21'''' : (((on ux).alloc (.cells #[.int .u8 T5, .int .i64 X5, .int .i64 Y5] 51)).alloc (.cells #[.int .i64 p, .int .i64 q] 31)).cell? ⟨q2, 1, none⟩ = some (.int .i64 X2) := (hR.cell (World.block_lt_of_cell? _ _ g21''')).trans g21'''
  have g22'''' : (((on ux).alloc (.cells #[.int .u8 T5, .int .i64 X5, .int .i64 Y5] 51)).alloc (.cells #[.int .i64 p, .int .i64 q] 31)).cell? ⟨q2, 2, none⟩ = some (.int .i64 Y2) := (hR.cell (World.block_lt_of_cell? _ _ g22''')).trans g22'''
  have B200''' : (((on ux).alloc (.cells #[.int .u8 T5, .int .i64 X5, .int .i64 Y5] 51)).alloc (.cells #[.int .i64 p, .int .i64 q] 31)).cell? ⟨B2, 0, none⟩ = some (.int .u8 T3) := (hR.cell (World.block_lt_of_cell? _ _ B200'')).trans B200''
  have B201''' : (((on ux).alloc (.cells #[.int .u8 T5, .int .i64 X5, .int .i64 Y5] 51)).alloc (.cells #[.int .i64 p, .int .i64 q] 31)).cell? ⟨B2, 1, none⟩ = some (.int .i64 (X3)) := (hR.cell (World.block_lt_of_cell? _ _ B201'')).trans B201''
  have B202''' : (((on ux).alloc (.cells #[.int .u8 T5, .int .i64 X5, .int .i64 Y5] 51)).alloc (.cells #[.int .i64 p, .int .i64 q] 31)).cell? ⟨B2, 2, none⟩ = some (.int .i64 (Y3)) := (hR.cell (World.block_lt_of_cell? _ _ B202'')).trans B202''
  have B300'' : (((on ux).alloc (.cells #[.int .u8 T5, .int .i64 X5, .int .i64 Y5] 51)).alloc (.cells #[.int .i64 p, .int .i64 q] 31)).cell? ⟨B3, 0, none⟩ = some (.int .u8 T4) := (hR.cell (World.block_lt_of_cell? _ _ B300')).trans B300'
  have B301'' : (((on ux).alloc (.cells #[.int .u8 T5, .int .i64 X5, .int .i64 Y5] 51)).alloc (.cells #[.int .i64 p, .int .i64 q] 31)).cell? ⟨B3, 1, none⟩ = some (.int .i64 (X4)) := (hR.cell (World.block_lt_of_cell? _ _ B301')).trans B301'
  have B302'' : (((on ux).alloc (.cells #[.int .u8 T5, .int .i64 X5, .int .i64 Y5] 51)).alloc (.cells #[.int .i64 p, .int .i64 q] 31)).cell? ⟨B3, 2, none⟩ = some (.int .i64 (Y4)) := (hR.cell (World.block_lt_of_cell? _ _ B302')).trans B302'
  have B400' : (((on ux).alloc (.cells #[.int .u8 T5, .int .i64 X5, .int .i64 Y5] 51)).alloc (.cells #[.int .i64 p, .int .i64 q] 31)).cell? ⟨B4, 0, none⟩ = some (.int .u8 T5) := (hR.cell (World.block_lt_of_cell? _ _ B400)).trans B400
  have B401' : (((on ux).alloc (.cells #[.int .u8 T5, .int .i64 X5, .int .i64 Y5] 51)).alloc (.cells #[.int .i64 p, .int .i64 q] 31)).cell? ⟨B4, 1, none⟩ = some (.int .i64 (X5)) := (hR.cell (World.block_lt_of_cell? _ _ B401)).trans B401
  have B402' : (((on ux).alloc (.cells #[.int .u8 T5, .int .i64 X5, .int .i64 Y5] 51)).alloc (.cells #[.int .i64 p, .int .i64 q] 31)).cell? ⟨B4, 2, none⟩ = some (.int .i64 (Y5)) := (hR.cell (World.block_lt_of_cell? _ _ B402)).trans B402
  have B600 : (((on ux).alloc (.cells #[.int .u8 T5, .int .i64 X5, .int .i64 Y5] 51)).alloc (.cells #[.int .i64 p, .int .i64 q] 31)).cell? ⟨(on ux).heap.size, 0, none⟩ = some (.int .u8 T5) := by simp [go_sem]
  have B601 : (((on ux).alloc (.cells #[.int .u8 T5, .int .i64 X5, .int .i64 Y5] 51)).alloc (.cells #[.int .i64 p, .int .i64 q] 31)).cell? ⟨(on ux).heap.size, 1, none⟩ = some (.int .i64 (X5)) := by simp [go_sem]
  have B602 : (((on ux).alloc (.cells #[.int .u8 T5, .int .i64 X5, .int .i64 Y5] 51)).alloc (.cells #[.int .i64 p, .int .i64 q] 31)).cell? ⟨(on ux).heap.size, 2, none⟩ = some (.int .i64 (Y5)) := by simp [go_sem]
  have B610 : (((on ux).alloc (.cells #[.int .u8 T5, .int .i64 X5, .int .i64 Y5] 51)).alloc (.cells #[.int .i64 p, .int .i64 q] 31)).cell? ⟨(on ux).heap.size + 1, 0, none⟩ = some (.int .i64 (p)) := by simp [go_sem]
  have B611 : (((on ux).alloc (.cells #[.int .u8 T5, .int .i64 X5, .int .i64 Y5] 51)).alloc (.cells #[.int .i64 p, .int .i64 q] 31)).cell? ⟨(on ux).heap.size + 1, 1, none⟩ = some (.int .i64 (q)) := by simp [go_sem]
  have hB6 : Below w.heap.size w (((on ux).alloc (.cells #[.int .u8 T5, .int .i64 X5, .int .i64 Y5] 51)).alloc (.cells #[.int .i64 p, .int .i64 q] 31)) := by repeat first | (with_reducible exact hB4) | (with_reducible refine below_on ?_ _) | (with_reducible refine below_alloc ?_ _)
  clear hR d00''' d01''' d02''' d03''' d04''' d05''' d06''' d07''' d08''' d10''' d11''' g00''' g01''' g02''' g10''' g11''' g12''' g20''' g21''' g22''' B200'' B201'' B202'' B300' B301' B302' B400 B401 B402  hB4
  generalize (((on ux).alloc (.cells #[.int .u8 T5, .int .i64 X5, .int .i64 Y5] 51)).alloc (.cells #[.int .i64 p, .int .i64 q] 31)) = W6 at *
  generalize (on ux).heap.size = B6 at *
  clear ux
  go_wp2_with (first | (go_at_call 29; with_reducible refine (PE _ (hS' _ (by repeat first | (with_reducible exact hB6) | (with_reducible refine below_on ?_ _) | (with_reducible refine below_alloc ?_ _) | (with_reducible refine below_set ?_ (by simp; try omega) _)))).mono ?_; rintro e wx ⟨rfl, hx⟩; obtain ⟨ux, rfl⟩ := after hx; clear hx) | fail)
  have hQ : (on ux).heap[B6 + 1]? = some (.cells #[.int .i64 p, .int .i64 q] 31) := held_on ux hQ6
  have hQ7 : ((on ux).alloc (.cells #[.int .i64 (U3), .int .i64 (V3)] 31)).heap[B6 + 1]? = some (.cells #[.int .i64 p, .int .i64 q] 31) := by rw [heap_alloc_old _ _ (held_lt hQ)]; exact hQ
  have hlt7 : B6 + 1 < (on ux).heap.size := held_lt hQ
  have hR : Below (W6).heap.size (W6) ((on ux).alloc (.cells #[.int .i64 (U3), .int .i64 (V3)] 31)) := by repeat first | (with_reducible exact Below.refl _ _) | (with_reducible refine below_on ?_ _) | (with_reducible refine below_alloc ?_ _)
  have d00''''' : ((on ux).alloc (.cells #[.int .i64 (U3), .int .i64 (V3)] 31)).cell? ⟨w.heap.size, 0, none⟩ = some (.int .u8 a0) := (hR.cell (World.block_lt_of_cell? _ _ d00'''')).trans d00''''
  have d01''''' : ((on ux).alloc (.cells #[.int .i64 (U3), .int .i64 (V3)] 31)).cell? ⟨w.heap.size, 1, none⟩ = some (.int .i8 x0) := (hR.cell (World.block_lt_of_cell? _ _ d01'''')).trans d01''''
  have d02''''' : ((on ux).alloc (.cells #[.int .i64 (U3), .int .i64 (V3)] 31)).cell? ⟨w.heap.size, 2, none⟩ = some (.int .i8 y0) := (hR.cell (World.block_lt_of_cell? _ _ d02'''')).trans d02''''
  have d03''''' : ((on ux).alloc (.cells #[.int .i64 (U3), .int .i64 (V3)] 31)).cell? ⟨w.heap.size, 3, none⟩ = some (.int .u8 a1) := (hR.cell (World.block_lt_of_cell? _ _ d03'''')).trans d03''''
  have d04''''' : ((on ux).alloc (.cells #[.int .i64 (U3), .int .i64 (V3)] 31)).cell? ⟨w.heap.size, 4, none⟩ = some (.int .i8 x1) := (hR.cell (World.block_lt_of_cell? _ _ d04'''')).trans d04''''
  have d05''''' : ((on ux).alloc (.cells #[.int .i64 (U3), .int .i64 (V3)] 31)).cell? ⟨w.heap.size, 5, none⟩ = some (.int .i8 y1) := (hR.cell (World.block_lt_of_cell? _ _ d05'''')).trans d05''''
  have d06''''' : ((on ux).alloc (.cells #[.int .i64 (U3), .int .i64 (V3)] 31)).cell? ⟨w.heap.size, 6, none⟩ = some (.int .u8 a2) := (hR.cell (World.block_lt_of_cell? _ _ d06'''')).trans d06''''
  have d07''''' : ((on ux).alloc (.cells #[.int .i64 (U3), .int .i64 (V3)] 31)).cell? ⟨w.heap.size, 7, none⟩ = some (.int .i8 x2) := (hR.cell (World.block_lt_of_cell? _ _ d07'''')).trans d07''''
  have d08''''' : ((on ux).alloc (.cells #[.int .i64 (U3), .int .i64 (V3)] 31)).cell? ⟨w.heap.size, 8, none⟩ = some (.int .i8 y2) := (hR.cell (World.block_lt_of_cell? _ _ d08'''')).trans d08''''
  have d10''''' : ((on ux).alloc (.cells #[.int .i64 (U3), .int .i64 (V3)] 31)).cell? ⟨w.heap.size + 1, 0, none⟩ = some (.int .i8 p) := (hR.cell (World.block_lt_of_cell? _ _ d10'''')).trans d10''''
  have d11''''' : ((on ux).alloc (.cells #[.int .i64 (U3), .int .i64 (V3)] 31)).cell? ⟨w.heap.size + 1, 1, none⟩ = some (.int .i8 q) := (hR.cell (World.block_lt_of_cell? _ _ d11'''')).trans d11''''
  have g00''''' : ((on ux).alloc (.cells #[.int .i64 (U3), .int .i64 (V3)] 31)).cell? ⟨q0, 0, none⟩ = some (.int .u8 T0) := (hR.cell (World.block_lt_of_cell? _ _ g00'''')).trans g00''''
  have g01''''' : ((on ux).alloc (.cells #[.int .i64 (U3), .int .i64 (V3)] 31)).cell? ⟨q0, 1, none⟩ = some (.int .i64 X0) := (hR.cell (World.block_lt_of_cell? _ _ g01'''')).trans g01''''
  have g02''''' : ((on ux).alloc (.cells #[.int .i64 (U3), .int .i64 (V3)] 31)).cell? ⟨q0, 2, none⟩ = some (.int .i64 Y0) := (hR.cell (World.block_lt_of_cell? _ _ g02'''')).trans g02''''
  have g10''''' : ((on ux).alloc (.cells #[.int .i64 (U3), .int .i64 (V3)] 31)).cell? ⟨q1, 0, none⟩ = some (.int .u8 T1) := (hR.cell (World.block_lt_of_cell? _ _ g10'''')).trans g10''''
  have g11''''' : ((on ux).alloc (.cells #[.int .i64 (U3), .int .i64 (V3)] 31)).cell? ⟨q1, 1, none⟩ = some (.int .i64 X1) := (hR.cell (World.block_lt_of_cell? _ _ g11'''')).trans g11''''
  have g12''''' : ((on ux).alloc (.cells #[.int .i64 (U3), .int .i64 (V3)] 31)).cell? ⟨q1, 2, none⟩ = some (.int .i64 Y1) := (hR.cell (World.block_lt_of_cell? _ _ g12'''')).trans g12''''
  have g20''''' : ((on ux).alloc (.cells #[.int .i64 (U3), .int .i64 (V3)] 31)).cell? ⟨q2, 0, none⟩ = some (.int .u8 T2) := (hR.cell (World.block_lt_of_cell? _ _ g20'''')).trans g20''''
  have g21''''' : ((on ux).alloc (.cells #[.int .i64 (U3), .int .i64 (V3)] 31)).cell? ⟨q2, 1, none⟩ = some (.int .i64 X2) := (hR.cell (World.block_lt_of_cell? _ _ g21'''')).trans g21''''
  have g22''''' : ((on ux).alloc (.cells #[.int .i64 (U3), .int .i64 (V3)] 31)).cell? ⟨q2, 2, none⟩ = some (.int .i64 Y2) := (hR.cell (World.block_lt_of_cell? _ _ g22'''')).trans g22''''
  have B200'''' : ((on ux).alloc (.cells #[.int .i64 (U3), .int .i64 (V3)] 31)).cell? ⟨B2, 0, none⟩ = some (.int .u8 T3) := (hR.cell (World.block_lt_of_cell? _ _ B200''')).trans B200'''
  have B201'''' : ((on ux).alloc (.cells #[.int .i64 (U3), .int .i64 (V3)] 31)).cell? ⟨B2, 1, none⟩ = some (.int .i64 (X3)) := (hR.cell (World.block_lt_of_cell? _ _ B201''')).trans B201'''
  have B202'''' : ((on ux).alloc (.cells #[.int .i64 (U3), .int .i64 (V3)] 31)).cell? ⟨B2, 2, none⟩ = some (.int .i64 (Y3)) := (hR.cell (World.block_lt_of_cell? _ _ B202''')).trans B202'''
  have B300''' : ((on ux).alloc (.cells #[.int .i64 (U3), .int .i64 (V3)] 31)).cell? ⟨B3, 0, none⟩ = some (.int .u8 T4) := (hR.cell (World.block_lt_of_cell? _ _ B300'')).trans B300''
  have B301''' : ((on ux).alloc (.cells #[.int .i64 (U3), .int .i64 (V3)] 31)).cell? ⟨B3, 1, none⟩ = some (.int .i64 (X4)) := (hR.cell (World.block_lt_of_cell? _ _ B301'')).trans B301''
  have B302''' : ((on ux).alloc (.cells #[.int .i64 (U3), .int .i64 (V3)] 31)).cell? ⟨B3, 2, none⟩ = some (.int .i64 (Y4)) := (hR.cell (World.block_lt_of_cell? _ _ B302'')).trans B302''
  have B400'' : ((on ux).alloc (.cells #[.int .i64 (U3), .int .i64 (V3)] 31)).cell? ⟨B4, 0, none⟩ = some (.int .u8 T5) := (hR.cell (World.block_lt_of_cell? _ _ B400')).trans B400'
  have B401'' : ((on ux).alloc (.cells #[.int .i64 (U3), .int .i64 (V3)] 31)).cell? ⟨B4, 1, none⟩ = some (.int .i64 (X5)) := (hR.cell (World.block_lt_of_cell? _ _ B401')).trans B401'
  have B402'' : ((on ux).alloc (.cells #[.int .i64 (U3), .int .i64 (V3)] 31)).cell? ⟨B4, 2, none⟩ = some (.int .i64 (Y5)) := (hR.cell (World.block_lt_of_cell? _ _ B402')).trans B402'
  have B600' : ((on ux).alloc (.cells #[.int .i64 (U3), .int .i64 (V3)] 31)).cell? ⟨B6, 0, none⟩ = some (.int .u8 T5) := (hR.cell (World.block_lt_of_cell? _ _ B600)).trans B600
  have B601' : ((on ux).alloc (.cells #[.int .i64 (U3), .int .i64 (V3)] 31)).cell? ⟨B6, 1, none⟩ = some (.int .i64 (X5)) := (hR.cell (World.block_lt_of_cell? _ _ B601)).trans B601
  have B602' : ((on ux).alloc (.cells #[.int .i64 (U3), .int .i64 (V3)] 31)).cell? ⟨B6, 2, none⟩ = some (.int .i64 (Y5)) := (hR.cell (World.block_lt_of_cell? _ _ B602)).trans B602
  have B610' : ((on ux).alloc (.cells #[.int .i64 (U3), .int .i64 (V3)] 31)).cell? ⟨B6 + 1, 0, none⟩ = some (.int .i64 (p)) := (hR.cell (World.block_lt_of_cell? _ _ B610)).trans B610
  have B611' : ((on ux).alloc (.cells #[.int .i64 (U3), .int .i64 (V3)] 31)).cell? ⟨B6 + 1, 1, none⟩ = some (.int .i64 (q)) := (hR.cell (World.block_lt_of_cell? _ _ B611)).trans B611
  have B700 : ((on ux).alloc (.cells #[.int .i64 (U3), .int .i64 (V3)] 31)).cell? ⟨(on ux).heap.size, 0, none⟩ = some (.int .i64 (U3)) := by simp [go_sem]
  have B701 : ((on ux).alloc (.cells #[.int .i64 (U3), .int .i64 (V3)] 31)).cell? ⟨(on ux).heap.size, 1, none⟩ = some (.int .i64 (V3)) := by simp [go_sem]
  have hB7 : Below w.heap.size w ((on ux).alloc (.cells #[.int .i64 (U3), .int .i64 (V3)] 31)) := by repeat first | (with_reducible exact hB6) | (with_reducible refine below_on ?_ _) | (with_reducible refine below_alloc ?_ _)
  clear hR d00'''' d01'''' d02'''' d03'''' d04'''' d05'''' d06'''' d07'''' d08'''' d10'''' d11'''' g00'''' g01'''' g02'''' g10'''' g11'''' g12'''' g20'''' g21'''' g22'''' B200''' B201''' B202''' B300'' B301'' B302'' B400' B401' B402' B600 B601 B602 B610 B611  hB6
  clear hQ hQ6
  generalize ((on ux).alloc (.cells #[.int .i64 (U3), .int .i64 (V3)] 31)) = W7 at *
  generalize (on ux).heap.size = B7 at *
  clear ux
  have hw0 : w.heap.size < B6 + 1 := by omega
  go_loopw [19] (fun iv wr => ∃ i A B : Int, iv = .int .i64 i ∧ ((i = 0 ∧ p = A ∧ q = B) ∨ (i = 1 ∧ U1 = A ∧ V1 = B) ∨ (i = 2 ∧ U2 = A ∧ V2 = B) ∨ (i = 3 ∧ U3 = A ∧ V3 = B)) ∧ ∃ u : Later w, wr = on u ∧ (on u).heap[B6 + 1]? = some (.cells #[.int .i64 A, .int .i64 B] 31) ∧ (on u).cell? ⟨w.heap.size, 0, none⟩ = some (.int .u8 a0) ∧ (on u).cell? ⟨w.heap.size, 1, none⟩ = some (.int .i8 x0) ∧ (on u).cell? ⟨w.heap.size, 2, none⟩ = some (.int .i8 y0) ∧ (on u).cell? ⟨w.heap.size, 3, none⟩ = some (.int .u8 a1) ∧ (on u).cell? ⟨w.heap.size, 4, none⟩ = some (.int .i8 x1) ∧ (on u).cell? ⟨w.heap.size, 5, none⟩ = some (.int .i8 y1) ∧ (on u).cell? ⟨w.heap.size, 6, none⟩ = some (.int .u8 a2) ∧ (on u).cell? ⟨w.heap.size, 7, none⟩ = some (.int .i8 x2) ∧ (on u).cell? ⟨w.heap.size, 8, none⟩ = some (.int .i8 y2) ∧ (on u).cell? ⟨B7, 0, none⟩ = some (.int .i64 (U3)) ∧ (on u).cell? ⟨B7, 1, none⟩ = some (.int .i64 (V3))) (fun iv _ => (3 - intOf iv).toNat)
  case atStart => exact ⟨0, p, q, rfl, .inl ⟨rfl, rfl, rfl⟩, ⟨W7, hB7⟩, rfl, hQ7, d00''''', d01''''', d02''''', d03''''', d04''''', d05''''', d06''''', d07''''', d08''''', B700, B701⟩
  case round =>
    obtain ⟨i, A, B, rfl, hi, u0, rfl, hh, k0, k1, k2, k3, k4, k5, k6, k7, k8, k9, k10⟩ := hrel
    have j0 : (on u0).cell? ⟨B6 + 1, 0, none⟩ = some (.int .i64 A) := held_cell hh 0
    have j1 : (on u0).cell? ⟨B6 + 1, 1, none⟩ = some (.int .i64 B) := held_cell hh 1
    have l0 : (on u0).frozen? ⟨B6 + 1, 0, none⟩ = false := held_free hh 0
    have l1 : (on u0).frozen? ⟨B6 + 1, 1, none⟩ = false := held_free hh 1
    have hq : Below w.heap.size w (on u0) := u0.b
    clear hQ7 hB7 d00''''' d01''''' d02''''' d03''''' d04''''' d05''''' d06''''' d07''''' d08''''' d10''''' d11''''' g00''''' g01''''' g02''''' g10''''' g11''''' g12''''' g20''''' g21''''' g22''''' B200'''' B201'''' B202'''' B300''' B301''' B302''' B400'' B401'' B402'' B600' B601' B602' B610' B611' B700 B701 
    obtain ⟨rfl, rfl, rfl⟩ | ⟨rfl, rfl, rfl⟩ | ⟨rfl, rfl, rfl⟩ | ⟨rfl, rfl, rfl⟩ := hi
    · go_wp2_with fail
      go_region_with (first | (go_at_call 41; with_reducible refine (OF0 _).mono ?_; rintro e wx ⟨rfl, hx⟩; obtain ⟨ux, rfl⟩ := after hx; clear hx) | (go_at_call 29; with_reducible refine (P0 _ (hS' _ (by repeat first | (with_reducible exact hq) | (with_reducible refine below_drew ?_) | (with_reducible refine below_on ?_ _) | (with_reducible refine below_alloc ?_ _) | (with_reducible refine below_set ?_ (by simp; try omega) _)))).mono ?_; rintro e wx ⟨rfl, hx⟩; obtain ⟨ux, rfl⟩ := after hx; clear hx))
      all_goals go_wp2_with fail
      all_goals (
        have hbx : Below (on u0).heap.size (on u0) (on ux) := by repeat first | (with_reducible exact Below.refl _ _) | (with_reducible refine below_on ?_ _) | (with_reducible refine below_drew ?_)
        have fr : ∀ (b i : Nat) v, b ≠ B6 + 1 → (on u0).cell? ⟨b, i, none⟩ = some v → (((on ux).setCell ⟨B6 + 1, 0, none⟩ (.int .i64 U1)).setCell ⟨B6 + 1, 1, none⟩ (.int .i64 V1)).cell? ⟨b, i, none⟩ = some v := fun b i v hb hv => by
          rw [World.cell?_setCell_far _ _ _ _ (Ne.symm hb), World.cell?_setCell_far _ _ _ _ (Ne.symm hb)]
          exact (hbx.cell (World.block_lt_of_cell? _ _ hv)).trans hv
        have hhx : (on ux).heap[B6 + 1]? = _ := (hbx.block _ (held_lt hh)).trans hh
        exact ⟨⟨0 + 1, U1, V1, rfl, .inr (.inl ⟨rfl, rfl, rfl⟩), ⟨_, below_set (below_set (hq.trans (hbx.mono hq.size)) (by show w.heap.size ≤ B6 + 1; omega) _) (by show w.heap.size ≤ B6 + 1; omega) _⟩, rfl, held_set (held_set hhx 0 _) 1 _, fr _ _ _ (by omega) k0, fr _ _ _ (by omega) k1, fr _ _ _ (by omega) k2, fr _ _ _ (by omega) k3, fr _ _ _ (by omega) k4, fr _ _ _ (by omega) k5, fr _ _ _ (by omega) k6, fr _ _ _ (by omega) k7, fr _ _ _ (by omega) k8, fr _ _ _ (by omega) k9, fr _ _ _ (by omega) k10⟩, by simp [intOf]⟩)
    · go_wp2_with fail
      go_region_with (first | (go_at_call 41; with_reducible refine (OF1 _).mono ?_; rintro e wx ⟨rfl, hx⟩; obtain ⟨ux, rfl⟩ := after hx; clear hx) | (go_at_call 29; with_reducible refine (P1 _ (hS' _ (by repeat first | (with_reducible exact hq) | (with_reducible refine below_drew ?_) | (with_reducible refine below_on ?_ _) | (with_reducible refine below_alloc ?_ _) | (with_reducible refine below_set ?_ (by simp; try omega) _)))).mono ?_; rintro e wx ⟨rfl, hx⟩; obtain ⟨ux, rfl⟩ := after hx; clear hx))
      all_goals go_wp2_with fail
      all_goals (
        have hbx : Below (on u0).heap.size (on u0) (on ux) := by repeat first | (with_reducible exact Below.refl _ _) | (with_reducible refine below_on ?_ _) | (with_reducible refine below_drew ?_)
        have fr : ∀ (b i : Nat) v, b ≠ B6 + 1 → (on u0).cell? ⟨b, i, none⟩ = some v → (((on ux).setCell ⟨B6 + 1, 0, none⟩ (.int .i64 U2)).setCell ⟨B6 + 1, 1, none⟩ (.int .i64 V2)).cell? ⟨b, i, none⟩ = some v := fun b i v hb hv => by
          rw [World.cell?_setCell_far _ _ _ _ (Ne.symm hb), World.cell?_setCell_far _ _ _ _ (Ne.symm hb)]
          exact (hbx.cell (World.block_lt_of_cell? _ _ hv)).trans hv
        have hhx : (on ux).heap[B6 + 1]? = _ := (hbx.block _ (held_lt hh)).trans hh
        exact ⟨⟨1 + 1, U2, V2, rfl, .inr (.inr (.inl ⟨rfl, rfl, rfl⟩)), ⟨_, below_set (below_set (hq.trans (hbx.mono hq.size)) (by show w.heap.size ≤ B6 + 1; omega) _) (by show w.heap.size ≤ B6 + 1; omega) _⟩, rfl, held_set (held_set hhx 0 _) 1 _, fr _ _ _ (by omega) k0, fr _ _ _ (by omega) k1, fr _ _ _ (by omega) k2, fr _ _ _ (by omega) k3, fr _ _ _ (by omega) k4, fr _ _ _ (by omega) k5, fr _ _ _ (by omega) k6, fr _ _ _ (by omega) k7, fr _ _ _ (by omega) k8, fr _ _ _ (by omega) k9, fr _ _ _ (by omega) k10⟩, by simp [intOf]⟩)
    · go_wp2_with fail
      go_region_with (first | (go_at_call 41; with_reducible refine (OF2 _).mono ?_; rintro e wx ⟨rfl, hx⟩; obtain ⟨ux, rfl⟩ := after hx; clear hx) | (go_at_call 29; with_reducible refine (P2 _ (hS' _ (by repeat first | (with_reducible exact hq) | (with_reducible refine below_drew ?_) | (with_reducible refine below_on ?_ _) | (with_reducible refine below_alloc ?_ _) | (with_reducible refine below_set ?_ (by simp; try omega) _)))).mono ?_; rintro e wx ⟨rfl, hx⟩; obtain ⟨ux, rfl⟩ := after hx; clear hx))
      all_goals go_wp2_with fail
      all_goals (
        have hbx : Below (on u0).heap.size (on u0) (on ux) := by repeat first | (with_reducible exact Below.refl _ _) | (with_reducible refine below_on ?_ _) | (with_reducible refine below_drew ?_)
        have fr : ∀ (b i : Nat) v, b ≠ B6 + 1 → (on u0).cell? ⟨b, i, none⟩ = some v → (((on ux).setCell ⟨B6 + 1, 0, none⟩ (.int .i64 U3)).setCell ⟨B6 + 1, 1, none⟩ (.int .i64 V3)).cell? ⟨b, i, none⟩ = some v := fun b i v hb hv => by
          rw [World.cell?_setCell_far _ _ _ _ (Ne.symm hb), World.cell?_setCell_far _ _ _ _ (Ne.symm hb)]
          exact (hbx.cell (World.block_lt_of_cell? _ _ hv)).trans hv
        have hhx : (on ux).heap[B6 + 1]? = _ := (hbx.block _ (held_lt hh)).trans hh
        exact ⟨⟨2 + 1, U3, V3, rfl, .inr (.inr (.inr (⟨rfl, rfl, rfl⟩))), ⟨_, below_set (below_set (hq.trans (hbx.mono hq.size)) (by show w.heap.size ≤ B6 + 1; omega) _) (by show w.heap.size ≤ B6 + 1; omega) _⟩, rfl, held_set (held_set hhx 0 _) 1 _, fr _ _ _ (by omega) k0, fr _ _ _ (by omega) k1, fr _ _ _ (by omega) k2, fr _ _ _ (by omega) k3, fr _ _ _ (by omega) k4, fr _ _ _ (by omega) k5, fr _ _ _ (by omega) k6, fr _ _ _ (by omega) k7, fr _ _ _ (by omega) k8, fr _ _ _ (by omega) k9, fr _ _ _ (by omega) k10⟩, by simp [intOf]⟩)
    · go_wp2_with (first | (go_at_call 28; with_reducible refine (lives2_ok _ (hS' _ (by repeat first | (with_reducible exact hq) | (with_reducible refine below_on ?_ _) | (with_reducible refine below_alloc ?_ _) | (with_reducible refine below_set ?_ (by simp; try omega) _)))).mono ?_; rintro e wx ⟨rfl, hx⟩; obtain ⟨ux, rfl⟩ := after hx; clear hx) | fail)
      go_ret
      exact ⟨rfl, (by repeat first | (with_reducible exact hq) | (with_reducible refine below_on ?_ _) | (with_reducible refine below_alloc ?_ _) | (with_reducible refine below_set ?_ (by simp; try omega) _))⟩

end Go.Proofs.YtbcmfenekpllhaaDoor
