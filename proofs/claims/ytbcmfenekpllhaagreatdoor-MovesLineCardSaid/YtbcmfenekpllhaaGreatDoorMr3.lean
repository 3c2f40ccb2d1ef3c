/-
  Says: what Then, Inverse and Of of the reference of moves give.
-/
import Derived.Test.YtbcmfenekpllhaaGreatDoorMr2
import Derived.Test.YtbcmfenekpllhaaGreatDoorRfA
import Derived.Test.YtbcmfenekpllhaaGreatDoorMvz
import Derived.Deep.RegionHeld3
import Derived.RowKit3
set_option linter.unusedVariables false
set_option linter.unusedSimpArgs false
namespace Go.Proofs.YtbcmfenekpllhaaGreatDoor
open Go Go.RowKit

attribute [local go_sem] World.cell?_alloc_some frozen?_alloc_cells fz0 fz1 fz2 fz3 fz4 fz5

theorem rth_fac (s t X Y U V : Int) (a1 : 0 ≤ s) (a2 : s ≤ 7) (a3 : 0 ≤ t) (a4 : t ≤ 7) :
    mvx t (mvx s 0 0 + 2 * X) (mvy s 0 0 + 2 * Y) + 2 * U = 2 * (mvx t X Y + U) ∧ mvy t (mvx s 0 0 + 2 * X) (mvy s 0 0 + 2 * Y) + 2 * V = 2 * (mvy t X Y + V) ∧
    mvx t (mvx s 2 0 + 2 * X) (mvy s 2 0 + 2 * Y) + 2 * U = mvx (mulT s t) 2 0 + 2 * (mvx t X Y + U) ∧ mvy t (mvx s 2 0 + 2 * X) (mvy s 2 0 + 2 * Y) + 2 * V = mvy (mulT s t) 2 0 + 2 * (mvy t X Y + V) ∧
    mvx t (mvx s 0 2 + 2 * X) (mvy s 0 2 + 2 * Y) + 2 * U = mvx (mulT s t) 0 2 + 2 * (mvx t X Y + U) ∧ mvy t (mvx s 0 2 + 2 * X) (mvy s 0 2 + 2 * Y) + 2 * V = mvy (mulT s t) 0 2 + 2 * (mvy t X Y + V) := by
  simp only [mvx_add _ _ _ _ _ a3 a4, mvy_add _ _ _ _ _ a3 a4, mvx_comp s t _ _ a1 a2 a3 a4, mvy_comp s t _ _ a1 a2 a3 a4, mvx_two _ _ _ a3 a4, mvy_two _ _ _ a3 a4]
  have z := mulT_range s t a1 a2 a3 a4
  rw [mvx_zero _ z.1 z.2, mvy_zero _ z.1 z.2]
  refine ⟨?_, ?_, ?_, ?_, ?_, ?_⟩ <;> omega
theorem mulT_ne (s i : Int) (a1 : 0 ≤ s) (a2 : s ≤ 7) (b1 : 0 ≤ i) (b2 : i ≤ 7) (h : i ≠ invT s) : mulT s i ≠ 0 := by
  revert h
  obtain rfl | rfl | rfl | rfl | rfl | rfl | rfl | rfl : s = 0 ∨ s = 1 ∨ s = 2 ∨ s = 3 ∨ s = 4 ∨ s = 5 ∨ s = 6 ∨ s = 7 := by omega
  · rcases (by omega : i = 0 ∨ i = 1 ∨ i = 2 ∨ i = 3 ∨ i = 4 ∨ i = 5 ∨ i = 6 ∨ i = 7) with rfl | rfl | rfl | rfl | rfl | rfl | rfl | rfl <;> decide
  · rcases (by omega : i = 0 ∨ i = 1 ∨ i = 2 ∨ i = 3 ∨ i = 4 ∨ i = 5 ∨ i = 6 ∨ i = 7) with rfl | rfl | rfl | rfl | rfl | rfl | rfl | rfl <;> decide
  · rcases (by omega : i = 0 ∨ i = 1 ∨ i = 2 ∨ i = 3 ∨ i = 4 ∨ i = 5 ∨ i = 6 ∨ i = 7) with rfl | rfl | rfl | rfl | rfl | rfl | rfl | rfl <;> decide
  · rcases (by omega : i = 0 ∨ i = 1 ∨ i = 2 ∨ i = 3 ∨ i = 4 ∨ i = 5 ∨ i = 6 ∨ i = 7) with rfl | rfl | rfl | rfl | rfl | rfl | rfl | rfl <;> decide
  · rcases (by omega : i = 0 ∨ i = 1 ∨ i = 2 ∨ i = 3 ∨ i = 4 ∨ i = 5 ∨ i = 6 ∨ i = 7) with rfl | rfl | rfl | rfl | rfl | rfl | rfl | rfl <;> decide
  · rcases (by omega : i = 0 ∨ i = 1 ∨ i = 2 ∨ i = 3 ∨ i = 4 ∨ i = 5 ∨ i = 6 ∨ i = 7) with rfl | rfl | rfl | rfl | rfl | rfl | rfl | rfl <;> decide
  · rcases (by omega : i = 0 ∨ i = 1 ∨ i = 2 ∨ i = 3 ∨ i = 4 ∨ i = 5 ∨ i = 6 ∨ i = 7) with rfl | rfl | rfl | rfl | rfl | rfl | rfl | rfl <;> decide
  · rcases (by omega : i = 0 ∨ i = 1 ∨ i = 2 ∨ i = 3 ∨ i = 4 ∨ i = 5 ∨ i = 6 ∨ i = 7) with rfl | rfl | rfl | rfl | rfl | rfl | rfl | rfl <;> decide

set_option maxRecDepth 100000 in
set_option maxHeartbeats 2000000 in
theorem rthen_any (s X Y t U V : Int) (w : World) (a1 : 0 ≤ s) (a2 : s ≤ 7) (a3 : 0 ≤ t) (a4 : t ≤ 7) (bX1 : -50000 ≤ X) (bX2 : X ≤ 50000) (bY1 : -50000 ≤ Y) (bY2 : Y ≤ 50000) (bU1 : -50000 ≤ U) (bU2 : U ≤ 50000) (bV1 : -50000 ≤ V) (bV2 : V ≤ 50000) : Calls Tryz.prog 10 #[mv s X Y, mv t U V] w fun e w' => e = .returned (mv (mulT s t) (mvx t X Y + U) (mvy t X Y + V)) ∧ Below w.heap.size w w' := by
  have r0x := mvx_range 2 s 0 0 a1 a2 (by omega) (by omega) (by omega) (by omega)
  have r0y := mvy_range 2 s 0 0 a1 a2 (by omega) (by omega) (by omega) (by omega)
  have r1x := mvx_range 2 s 2 0 a1 a2 (by omega) (by omega) (by omega) (by omega)
  have r1y := mvy_range 2 s 2 0 a1 a2 (by omega) (by omega) (by omega) (by omega)
  have r2x := mvx_range 2 s 0 2 a1 a2 (by omega) (by omega) (by omega) (by omega)
  have r2y := mvy_range 2 s 0 2 a1 a2 (by omega) (by omega) (by omega) (by omega)
  have TD : ∀ W, Calls Tryz.prog 39 #[pt (mvx t (mvx s 0 0 + 2 * X) (mvy s 0 0 + 2 * Y) + 2 * U) (mvy t (mvx s 0 0 + 2 * X) (mvy s 0 0 + 2 * Y) + 2 * V), pt (mvx t (mvx s 2 0 + 2 * X) (mvy s 2 0 + 2 * Y) + 2 * U) (mvy t (mvx s 2 0 + 2 * X) (mvy s 2 0 + 2 * Y) + 2 * V), pt (mvx t (mvx s 0 2 + 2 * X) (mvy s 0 2 + 2 * Y) + 2 * U) (mvy t (mvx s 0 2 + 2 * X) (mvy s 0 2 + 2 * Y) + 2 * V)] W fun e w' => e = .returned (mv (mulT s t) (mvx t X Y + U) (mvy t X Y + V)) ∧ Below W.heap.size W w' := fun W => by
    obtain ⟨e0, e1, e2, e3, e4, e5⟩ := rth_fac s t X Y U V a1 a2 a3 a4
    have z := mulT_range s t a1 a2 a3 a4
    have y1 := mvx_range 50000 t X Y a3 a4 (by omega) (by omega) (by omega) (by omega)
    have y2 := mvy_range 50000 t X Y a3 a4 (by omega) (by omega) (by omega) (by omega)
    rw [e0, e1, e2, e3, e4, e5]
    exact told_any _ _ _ W z.1 z.2 (by omega) (by omega) (by omega) (by omega)
  go_enter Tryz.func10, Tryz.ntmps10
  go_wp2_with fail
  refine region_tail 16 (by kernel_rfl) (by kernel_rfl) ?_
  simp only [List.take_succ_cons, List.take_zero, List.drop_succ_cons, List.drop_zero]
  repeat (first
    | (refine wpLex_plain (by rfl) (by rfl) (by rfl) (fun K hK => ?_); go_big_quiet_op; refine hK _ ?_; clear hK K)
    | (refine wpLex_call (by rfl) (by rfl) (fun K hK => ?_); go_simp; apply Exists.intro; refine ⟨fun _ => ?_, hK _ ?_⟩; ((first | (go_at_call 37; with_reducible exact Calls.laterL (rpoint_any s X Y _ _ _ a1 a2 (by omega) (by omega) (by omega) (by omega) (by omega) (by omega) (by omega) (by omega))) | (go_at_call 37; with_reducible exact Calls.laterL (rpoint_any t U V _ _ _ a3 a4 (by omega) (by omega) (by omega) (by omega) (by omega) (by omega) (by omega) (by omega))) | (go_at_call 39; with_reducible exact Calls.laterL (TD _)))); clear hK K)
    | (refine wpLex_new (by rfl) ?_; simp only [Act.put, List.setIfInBounds_toArray, List.set_cons_zero, List.set_cons_succ]))
  refine wpLex_nil ?_
  intro u9
  clear TD
  go_wp2
  exact bodyPost_ret (v := mv (mulT s t) (mvx t X Y + U) (mvy t X Y + V)) (by simp [results, Tryz.results10, go_sem]) rfl ⟨rfl, (by repeat first | (with_reducible exact Below.refl _ _) | (with_reducible refine below_on ?_ _) | (with_reducible refine below_alloc ?_ _) | (with_reducible refine below_set ?_ (by simp; try omega) _))⟩

set_option maxRecDepth 100000 in
set_option maxHeartbeats 2000000 in
theorem rinv_any (s X Y : Int) (w : World) (a1 : 0 ≤ s) (a2 : s ≤ 7) (bX1 : -50000 ≤ X) (bX2 : X ≤ 50000) (bY1 : -50000 ≤ Y) (bY2 : Y ≤ 50000) : Calls Tryz.prog 11 #[mv s X Y] w fun e w' => e = .returned (mv (invT s) (-(mvx (invT s) X Y)) (-(mvy (invT s) X Y))) ∧ Below w.heap.size w w' := by
  have hr := invT_range s a1 a2
  have PT : ∀ (i : Int) W, 0 ≤ i → i ≤ 7 → Calls Tryz.prog 37 #[mv i 0 0, pt X Y] W fun e w' => e = .returned (pt (mvx i X Y) (mvy i X Y)) ∧ Below W.heap.size W w' := fun i W h1 h2 => by
    have := rpoint_any i 0 0 X Y W h1 h2 (by omega) (by omega) (by omega) (by omega) (by omega) (by omega) (by omega) (by omega)
    rwa [Int.mul_zero, Int.add_zero, Int.add_zero] at this
  have TH : ∀ (i : Int) W, 0 ≤ i → i ≤ 7 → Calls Tryz.prog 10 #[mv s X Y, mv i (-(mvx i X Y)) (-(mvy i X Y))] W fun e w' => e = .returned (mv (mulT s i) 0 0) ∧ Below W.heap.size W w' := fun i W h1 h2 => by
    have y1 := mvx_range 50000 i X Y h1 h2 (by omega) (by omega) (by omega) (by omega)
    have y2 := mvy_range 50000 i X Y h1 h2 (by omega) (by omega) (by omega) (by omega)
    have := rthen_any s X Y i (-(mvx i X Y)) (-(mvy i X Y)) W a1 a2 h1 h2 (by omega) (by omega) (by omega) (by omega) (by omega) (by omega) (by omega) (by omega)
    rwa [show mvx i X Y + -(mvx i X Y) = 0 by omega, show mvy i X Y + -(mvy i X Y) = 0 by omega] at this
  go_enter Tryz.func11, Tryz.ntmps11
  go_wp2_with fail
  have hB : Below w.heap.size w ((w.alloc (.cells #[.int .u8 s, .int .i64 X, .int .i64 Y] 23)).alloc (.cells #[.int .u8 0, .int .i64 0, .int .i64 0] 23)) := (by repeat first | (with_reducible exact Below.refl _ _) | (with_reducible refine below_on ?_ _) | (with_reducible refine below_alloc ?_ _) | (with_reducible refine below_set ?_ (by simp; try omega) _))
  have c0 : ((w.alloc (.cells #[.int .u8 s, .int .i64 X, .int .i64 Y] 23)).alloc (.cells #[.int .u8 0, .int .i64 0, .int .i64 0] 23)).cell? ⟨w.heap.size, 0, none⟩ = some (.int .u8 s) := by simp [go_sem]
  have c1 : ((w.alloc (.cells #[.int .u8 s, .int .i64 X, .int .i64 Y] 23)).alloc (.cells #[.int .u8 0, .int .i64 0, .int .i64 0] 23)).cell? ⟨w.heap.size, 1, none⟩ = some (.int .i64 X) := by simp [go_sem]
  have c2 : ((w.alloc (.cells #[.int .u8 s, .int .i64 X, .int .i64 Y] 23)).alloc (.cells #[.int .u8 0, .int .i64 0, .int .i64 0] 23)).cell? ⟨w.heap.size, 2, none⟩ = some (.int .i64 Y) := by simp [go_sem]
  have d0 : ((w.alloc (.cells #[.int .u8 s, .int .i64 X, .int .i64 Y] 23)).alloc (.cells #[.int .u8 0, .int .i64 0, .int .i64 0] 23)).cell? ⟨w.heap.size + 1, 0, none⟩ = some (.int .u8 0) := by simp [go_sem]
  have f0 : ((w.alloc (.cells #[.int .u8 s, .int .i64 X, .int .i64 Y] 23)).alloc (.cells #[.int .u8 0, .int .i64 0, .int .i64 0] 23)).frozen? ⟨w.heap.size + 1, 0, none⟩ = false := by simp [go_sem]
  have d1 : ((w.alloc (.cells #[.int .u8 s, .int .i64 X, .int .i64 Y] 23)).alloc (.cells #[.int .u8 0, .int .i64 0, .int .i64 0] 23)).cell? ⟨w.heap.size + 1, 1, none⟩ = some (.int .i64 0) := by simp [go_sem]
  have f1 : ((w.alloc (.cells #[.int .u8 s, .int .i64 X, .int .i64 Y] 23)).alloc (.cells #[.int .u8 0, .int .i64 0, .int .i64 0] 23)).frozen? ⟨w.heap.size + 1, 1, none⟩ = false := by simp [go_sem]
  have d2 : ((w.alloc (.cells #[.int .u8 s, .int .i64 X, .int .i64 Y] 23)).alloc (.cells #[.int .u8 0, .int .i64 0, .int .i64 0] 23)).cell? ⟨w.heap.size + 1, 2, none⟩ = some (.int .i64 0) := by simp [go_sem]
  have f2 : ((w.alloc (.cells #[.int .u8 s, .int .i64 X, .int .i64 Y] 23)).alloc (.cells #[.int .u8 0, .int .i64 0, .int .i64 0] 23)).frozen? ⟨w.heap.size + 1, 2, none⟩ = false := by simp [go_sem]
  generalize ((w.alloc (.cells #[.int .u8 s, .int .i64 X, .int .i64 Y] 23)).alloc (.cells #[.int .u8 0, .int .i64 0, .int .i64 0] 23)) = Wb at *
  go_loopw [3] (fun iv wr => ∃ i : Int, iv = .int .u8 i ∧ 0 ≤ i ∧ i ≤ invT s ∧ ∃ u : Later Wb, wr = on u) (fun iv _ => (invT s - intOf iv).toNat)
  case atStart => exact ⟨0, rfl, by omega, by omega, ⟨_, Below.refl _ _⟩, rfl⟩
  case round =>
    obtain ⟨i, rfl, hi1, hi2, u0, rfl⟩ := hrel
    have hi3 : i ≤ 7 := by omega
    have y1 := mvx_range 50000 i X Y hi1 hi3 (by omega) (by omega) (by omega) (by omega)
    have y2 := mvy_range 50000 i X Y hi1 hi3 (by omega) (by omega) (by omega) (by omega)
    by_cases hi : i = invT s
    · have m0 : mulT s i = 0 := by rw [hi]; exact (mulT_inv s a1 a2).1
      have HI : Hid (i = invT s) := hi
      clear hi
      go_wp2_with (first | (go_at_call 37; with_reducible refine (PT i _ hi1 hi3).mono ?_; rintro e wx ⟨rfl, hx⟩; obtain ⟨ux, rfl⟩ := after hx; clear hx) | fail)
      have hR : Below Wb.heap.size Wb (((on ux).alloc (.cells #[.int .i64 (mvx i X Y), .int .i64 (mvy i X Y)] 47)).alloc (.cells #[.int .u8 i, .int .i64 (-(mvx i X Y)), .int .i64 (-(mvy i X Y))] 23)) := by repeat first | (with_reducible exact Below.refl _ _) | (with_reducible refine below_on ?_ _) | (with_reducible refine below_alloc ?_ _)
      have d0' : (((on ux).alloc (.cells #[.int .i64 (mvx i X Y), .int .i64 (mvy i X Y)] 47)).alloc (.cells #[.int .u8 i, .int .i64 (-(mvx i X Y)), .int .i64 (-(mvy i X Y))] 23)).cell? ⟨w.heap.size + 1, 0, none⟩ = _ := (hR.cell (World.block_lt_of_cell? _ _ d0)).trans d0
      have f0' : (((on ux).alloc (.cells #[.int .i64 (mvx i X Y), .int .i64 (mvy i X Y)] 47)).alloc (.cells #[.int .u8 i, .int .i64 (-(mvx i X Y)), .int .i64 (-(mvy i X Y))] 23)).frozen? ⟨w.heap.size + 1, 0, none⟩ = _ := (hR.frozen (World.block_lt_of_cell? _ _ d0)).trans f0
      have d1' : (((on ux).alloc (.cells #[.int .i64 (mvx i X Y), .int .i64 (mvy i X Y)] 47)).alloc (.cells #[.int .u8 i, .int .i64 (-(mvx i X Y)), .int .i64 (-(mvy i X Y))] 23)).cell? ⟨w.heap.size + 1, 1, none⟩ = _ := (hR.cell (World.block_lt_of_cell? _ _ d1)).trans d1
      have f1' : (((on ux).alloc (.cells #[.int .i64 (mvx i X Y), .int .i64 (mvy i X Y)] 47)).alloc (.cells #[.int .u8 i, .int .i64 (-(mvx i X Y)), .int .i64 (-(mvy i X Y))] 23)).frozen? ⟨w.heap.size + 1, 1, none⟩ = _ := (hR.frozen (World.block_lt_of_cell? _ _ d1)).trans f1
      have d2' : (((on ux).alloc (.cells #[.int .i64 (mvx i X Y), .int .i64 (mvy i X Y)] 47)).alloc (.cells #[.int .u8 i, .int .i64 (-(mvx i X Y)), .int .i64 (-(mvy i X Y))] 23)).cell? ⟨w.heap.size + 1, 2, none⟩ = _ := (hR.cell (World.block_lt_of_cell? _ _ d2)).trans d2
      have f2' : (((on ux).alloc (.cells #[.int .i64 (mvx i X Y), .int .i64 (mvy i X Y)] 47)).alloc (.cells #[.int .u8 i, .int .i64 (-(mvx i X Y)), .int .i64 (-(mvy i X Y))] 23)).frozen? ⟨w.heap.size + 1, 2, none⟩ = _ := (hR.frozen (World.block_lt_of_cell? _ _ d2)).trans f2
      have n0 : (((on ux).alloc (.cells #[.int .i64 (mvx i X Y), .int .i64 (mvy i X Y)] 47)).alloc (.cells #[.int .u8 i, .int .i64 (-(mvx i X Y)), .int .i64 (-(mvy i X Y))] 23)).cell? ⟨(on ux).heap.size + 1, 0, none⟩ = some (.int .u8 i) := by simp [go_sem]
      have n1 : (((on ux).alloc (.cells #[.int .i64 (mvx i X Y), .int .i64 (mvy i X Y)] 47)).alloc (.cells #[.int .u8 i, .int .i64 (-(mvx i X Y)), .int .i64 (-(mvy i X Y))] 23)).cell? ⟨(on ux).heap.size + 1, 1, none⟩ = some (.int .i64 (-(mvx i X Y))) := by simp [go_sem]
      have n2 : (((on ux).alloc (.cells #[.int .i64 (mvx i X Y), .int .i64 (mvy i X Y)] 47)).alloc (.cells #[.int .u8 i, .int .i64 (-(mvx i X Y)), .int .i64 (-(mvy i X Y))] 23)).cell? ⟨(on ux).heap.size + 1, 2, none⟩ = some (.int .i64 (-(mvy i X Y))) := by simp [go_sem]
      have hB2 : Below w.heap.size w (((on ux).alloc (.cells #[.int .i64 (mvx i X Y), .int .i64 (mvy i X Y)] 47)).alloc (.cells #[.int .u8 i, .int .i64 (-(mvx i X Y)), .int .i64 (-(mvy i X Y))] 23)) := by repeat first | (with_reducible exact hB) | (with_reducible refine below_on ?_ _) | (with_reducible refine below_alloc ?_ _)
      clear hR
      generalize (((on ux).alloc (.cells #[.int .i64 (mvx i X Y), .int .i64 (mvy i X Y)] 47)).alloc (.cells #[.int .u8 i, .int .i64 (-(mvx i X Y)), .int .i64 (-(mvy i X Y))] 23)) = Wn at *
      generalize (on ux).heap.size = Bn at *
      clear ux
      go_wp2_with (first | (go_at_call 10; with_reducible refine (TH i _ hi1 hi3).mono ?_; rintro e wx ⟨rfl, hx⟩; obtain ⟨ux, rfl⟩ := after hx; clear hx) | fail)
      have bw := hB2
      have hi := HI.out
      clear PT TH
      subst hi
      exact bodyPost_ret (v := mv (invT s) (-(mvx (invT s) X Y)) (-(mvy (invT s) X Y))) (by simp [results, Tryz.results11, go_sem, d0', d1', d2']) rfl ⟨rfl, (by repeat first | (with_reducible exact bw) | (with_reducible refine below_on ?_ _) | (with_reducible refine below_alloc ?_ _) | (with_reducible refine below_set ?_ (by simp; try omega) _))⟩
    · have m0 : (mulT s i == 0) = false := eqf (mulT_ne s i a1 a2 hi1 hi3 hi)
      go_wp2_with (first | (go_at_call 37; with_reducible refine (PT i _ hi1 hi3).mono ?_; rintro e wx ⟨rfl, hx⟩; obtain ⟨ux, rfl⟩ := after hx; clear hx) | (go_at_call 10; with_reducible refine (TH i _ hi1 hi3).mono ?_; rintro e wx ⟨rfl, hx⟩; obtain ⟨ux, rfl⟩ := after hx; clear hx) | fail)
      exact ⟨⟨i + 1, rfl, by omega, by omega, after (by repeat first | (with_reducible exact Below.refl _ _) | (with_reducible refine below_on ?_ _) | (with_reducible refine below_alloc ?_ _))⟩, by simp [intOf]; omega⟩

set_option maxRecDepth 100000 in
set_option maxHeartbeats 2000000 in
theorem rof_1 (c : Int) (w : World) (h3 : -4096 ≤ c) (h4 : c ≤ 4096) : Calls Tryz.prog 12 #[ln 1 c] w fun e w' => e = .returned (mv 4 (2 * c) (0)) ∧ Below w.heap.size w w' := by
  have R0 : ∀ W, Calls Tryz.prog 40 #[ln 1 c, pt 0 0] W fun e w' => e = .returned (pt (2 * (2 * c)) (0)) ∧ Below W.heap.size W w' := fun W => by
    have := rreflect_1 c 0 0 W (by omega) (by omega) (by omega) (by omega) h3 h4
    refine this.mono fun e w' h => ⟨h.1.trans ?_, h.2⟩
    skip
    congr 4 <;> omega
  have R1 : ∀ W, Calls Tryz.prog 40 #[ln 1 c, pt 2 0] W fun e w' => e = .returned (pt (mvx 4 2 0 + 2 * (2 * c)) (mvy 4 2 0)) ∧ Below W.heap.size W w' := fun W => by
    have := rreflect_1 c 2 0 W (by omega) (by omega) (by omega) (by omega) h3 h4
    refine this.mono fun e w' h => ⟨h.1.trans ?_, h.2⟩
    rw [mvx4, mvy4]
    congr 4 <;> omega
  have R2 : ∀ W, Calls Tryz.prog 40 #[ln 1 c, pt 0 2] W fun e w' => e = .returned (pt (mvx 4 0 2 + 2 * (2 * c)) (mvy 4 0 2)) ∧ Below W.heap.size W w' := fun W => by
    have := rreflect_1 c 0 2 W (by omega) (by omega) (by omega) (by omega) h3 h4
    refine this.mono fun e w' h => ⟨h.1.trans ?_, h.2⟩
    rw [mvx4, mvy4]
    congr 4 <;> omega
  have TD : ∀ W, Calls Tryz.prog 39 #[pt (2 * (2 * c)) (0), pt (mvx 4 2 0 + 2 * (2 * c)) (mvy 4 2 0), pt (mvx 4 0 2 + 2 * (2 * c)) (mvy 4 0 2)] W fun e w' => e = .returned (mv 4 (2 * c) (0)) ∧ Below W.heap.size W w' := fun W => by
    have := told_any 4 (2 * c) (0) W (by omega) (by omega) (by omega) (by omega) (by omega) (by omega)
    simp only [Int.mul_zero, Int.add_zero] at this
    exact this
  go_enter Tryz.func12, Tryz.ntmps12
  go_wp2_with fail
  refine region_tail 10 (by kernel_rfl) (by kernel_rfl) ?_
  simp only [List.take_succ_cons, List.take_zero, List.drop_succ_cons, List.drop_zero]
  repeat (first
    | (refine wpLex_plain (by rfl) (by rfl) (by rfl) (fun K hK => ?_); go_big_quiet_op; refine hK _ ?_; clear hK K)
    | (refine wpLex_call (by rfl) (by rfl) (fun K hK => ?_); go_simp; apply Exists.intro; refine ⟨fun _ => ?_, hK _ ?_⟩; ((first | (go_at_call 40; with_reducible exact Calls.laterL (R0 _)) | (go_at_call 40; with_reducible exact Calls.laterL (R1 _)) | (go_at_call 40; with_reducible exact Calls.laterL (R2 _)) | (go_at_call 39; with_reducible exact Calls.laterL (TD _)))); clear hK K)
    | (refine wpLex_new (by rfl) ?_; simp only [Act.put, List.setIfInBounds_toArray, List.set_cons_zero, List.set_cons_succ]))
  refine wpLex_nil ?_
  intro u9
  clear R0 R1 R2 TD
  go_wp2
  exact bodyPost_ret (v := mv 4 (2 * c) (0)) (by simp [results, Tryz.results12, go_sem]) rfl ⟨rfl, (by repeat first | (with_reducible exact Below.refl _ _) | (with_reducible refine below_on ?_ _) | (with_reducible refine below_alloc ?_ _) | (with_reducible refine below_set ?_ (by simp; try omega) _))⟩

set_option maxRecDepth 100000 in
set_option maxHeartbeats 2000000 in
theorem rof_2 (c : Int) (w : World) (h3 : -4096 ≤ c) (h4 : c ≤ 4096) : Calls Tryz.prog 12 #[ln 2 c] w fun e w' => e = .returned (mv 6 (0) (2 * c)) ∧ Below w.heap.size w w' := by
  have R0 : ∀ W, Calls Tryz.prog 40 #[ln 2 c, pt 0 0] W fun e w' => e = .returned (pt (0) (2 * (2 * c))) ∧ Below W.heap.size W w' := fun W => by
    have := rreflect_2 c 0 0 W (by omega) (by omega) (by omega) (by omega) h3 h4
    refine this.mono fun e w' h => ⟨h.1.trans ?_, h.2⟩
    skip
    congr 4 <;> omega
  have R1 : ∀ W, Calls Tryz.prog 40 #[ln 2 c, pt 2 0] W fun e w' => e = .returned (pt (mvx 6 2 0) (mvy 6 2 0 + 2 * (2 * c))) ∧ Below W.heap.size W w' := fun W => by
    have := rreflect_2 c 2 0 W (by omega) (by omega) (by omega) (by omega) h3 h4
    refine this.mono fun e w' h => ⟨h.1.trans ?_, h.2⟩
    rw [mvx6, mvy6]
    congr 4 <;> omega
  have R2 : ∀ W, Calls Tryz.prog 40 #[ln 2 c, pt 0 2] W fun e w' => e = .returned (pt (mvx 6 0 2) (mvy 6 0 2 + 2 * (2 * c))) ∧ Below W.heap.size W w' := fun W => by
    have := rreflect_2 c 0 2 W (by omega) (by omega) (by omega) (by omega) h3 h4
    refine this.mono fun e w' h => ⟨h.1.trans ?_, h.2⟩
    rw [mvx6, mvy6]
    congr 4 <;> omega
  have TD : ∀ W, Calls Tryz.prog 39 #[pt (0) (2 * (2 * c)), pt (mvx 6 2 0) (mvy 6 2 0 + 2 * (2 * c)), pt (mvx 6 0 2) (mvy 6 0 2 + 2 * (2 * c))] W fun e w' => e = .returned (mv 6 (0) (2 * c)) ∧ Below W.heap.size W w' := fun W => by
    have := told_any 6 (0) (2 * c) W (by omega) (by omega) (by omega) (by omega) (by omega) (by omega)
    simp only [Int.mul_zero, Int.add_zero] at this
    exact this
  go_enter Tryz.func12, Tryz.ntmps12
  go_wp2_with fail
  refine region_tail 10 (by kernel_rfl) (by kernel_rfl) ?_
  simp only [List.take_succ_cons, List.take_zero, List.drop_succ_cons, List.drop_zero]
  repeat (first
    | (refine wpLex_plain (by rfl) (by rfl) (by rfl) (fun K hK => ?_); go_big_quiet_op; refine hK _ ?_; clear hK K)
    | (refine wpLex_call (by rfl) (by rfl) (fun K hK => ?_); go_simp; apply Exists.intro; refine ⟨fun _ => ?_, hK _ ?_⟩; ((first | (go_at_call 40; with_reducible exact Calls.laterL (R0 _)) | (go_at_call 40; with_reducible exact Calls.laterL (R1 _)) | (go_at_call 40; with_reducible exact Calls.laterL (R2 _)) | (go_at_call 39; with_reducible exact Calls.laterL (TD _)))); clear hK K)
    | (refine wpLex_new (by rfl) ?_; simp only [Act.put, List.setIfInBounds_toArray, List.set_cons_zero, List.set_cons_succ]))
  refine wpLex_nil ?_
  intro u9
  clear R0 R1 R2 TD
  go_wp2
  exact bodyPost_ret (v := mv 6 (0) (2 * c)) (by simp [results, Tryz.results12, go_sem]) rfl ⟨rfl, (by repeat first | (with_reducible exact Below.refl _ _) | (with_reducible refine below_on ?_ _) | (with_reducible refine below_alloc ?_ _) | (with_reducible refine below_set ?_ (by simp; try omega) _))⟩

set_option maxRecDepth 100000 in
set_option maxHeartbeats 2000000 in
theorem rof_3 (c : Int) (w : World) (h3 : -4096 ≤ c) (h4 : c ≤ 4096) : Calls Tryz.prog 12 #[ln 3 c] w fun e w' => e = .returned (mv 5 (c) (c)) ∧ Below w.heap.size w w' := by
  have R0 : ∀ W, Calls Tryz.prog 40 #[ln 3 c, pt 0 0] W fun e w' => e = .returned (pt (2 * (c)) (2 * (c))) ∧ Below W.heap.size W w' := fun W => by
    have := rreflect_3 c 0 0 W (by omega) (by omega) (by omega) (by omega) h3 h4
    refine this.mono fun e w' h => ⟨h.1.trans ?_, h.2⟩
    skip
    congr 4 <;> omega
  have R1 : ∀ W, Calls Tryz.prog 40 #[ln 3 c, pt 2 0] W fun e w' => e = .returned (pt (mvx 5 2 0 + 2 * (c)) (mvy 5 2 0 + 2 * (c))) ∧ Below W.heap.size W w' := fun W => by
    have := rreflect_3 c 2 0 W (by omega) (by omega) (by omega) (by omega) h3 h4
    refine this.mono fun e w' h => ⟨h.1.trans ?_, h.2⟩
    rw [mvx5, mvy5]
    congr 4 <;> omega
  have R2 : ∀ W, Calls Tryz.prog 40 #[ln 3 c, pt 0 2] W fun e w' => e = .returned (pt (mvx 5 0 2 + 2 * (c)) (mvy 5 0 2 + 2 * (c))) ∧ Below W.heap.size W w' := fun W => by
    have := rreflect_3 c 0 2 W (by omega) (by omega) (by omega) (by omega) h3 h4
    refine this.mono fun e w' h => ⟨h.1.trans ?_, h.2⟩
    rw [mvx5, mvy5]
    congr 4 <;> omega
  have TD : ∀ W, Calls Tryz.prog 39 #[pt (2 * (c)) (2 * (c)), pt (mvx 5 2 0 + 2 * (c)) (mvy 5 2 0 + 2 * (c)), pt (mvx 5 0 2 + 2 * (c)) (mvy 5 0 2 + 2 * (c))] W fun e w' => e = .returned (mv 5 (c) (c)) ∧ Below W.heap.size W w' := fun W => by
    have := told_any 5 (c) (c) W (by omega) (by omega) (by omega) (by omega) (by omega) (by omega)
    skip
    exact this
  go_enter Tryz.func12, Tryz.ntmps12
  go_wp2_with fail
  refine region_tail 10 (by kernel_rfl) (by kernel_rfl) ?_
  simp only [List.take_succ_cons, List.take_zero, List.drop_succ_cons, List.drop_zero]
  repeat (first
    | (refine wpLex_plain (by rfl) (by rfl) (by rfl) (fun K hK => ?_); go_big_quiet_op; refine hK _ ?_; clear hK K)
    | (refine wpLex_call (by rfl) (by rfl) (fun K hK => ?_); go_simp; apply Exists.intro; refine ⟨fun _ => ?_, hK _ ?_⟩; ((first | (go_at_call 40; with_reducible exact Calls.laterL (R0 _)) | (go_at_call 40; with_reducible exact Calls.laterL (R1 _)) | (go_at_call 40; with_reducible exact Calls.laterL (R2 _)) | (go_at_call 39; with_reducible exact Calls.laterL (TD _)))); clear hK K)
    | (refine wpLex_new (by rfl) ?_; simp only [Act.put, List.setIfInBounds_toArray, List.set_cons_zero, List.set_cons_succ]))
  refine wpLex_nil ?_
  intro u9
  clear R0 R1 R2 TD
  go_wp2
  exact bodyPost_ret (v := mv 5 (c) (c)) (by simp [results, Tryz.results12, go_sem]) rfl ⟨rfl, (by repeat first | (with_reducible exact Below.refl _ _) | (with_reducible refine below_on ?_ _) | (with_reducible refine below_alloc ?_ _) | (with_reducible refine below_set ?_ (by simp; try omega) _))⟩

set_option maxRecDepth 100000 in
set_option maxHeartbeats 2000000 in
theorem rof_4 (c : Int) (w : World) (h3 : -4096 ≤ c) (h4 : c ≤ 4096) : Calls Tryz.prog 12 #[ln 4 c] w fun e w' => e = .returned (mv 7 (-c) (c)) ∧ Below w.heap.size w w' := by
  have R0 : ∀ W, Calls Tryz.prog 40 #[ln 4 c, pt 0 0] W fun e w' => e = .returned (pt (2 * (-c)) (2 * (c))) ∧ Below W.heap.size W w' := fun W => by
    have := rreflect_4 c 0 0 W (by omega) (by omega) (by omega) (by omega) h3 h4
    refine this.mono fun e w' h => ⟨h.1.trans ?_, h.2⟩
    skip
    congr 4 <;> omega
  have R1 : ∀ W, Calls Tryz.prog 40 #[ln 4 c, pt 2 0] W fun e w' => e = .returned (pt (mvx 7 2 0 + 2 * (-c)) (mvy 7 2 0 + 2 * (c))) ∧ Below W.heap.size W w' := fun W => by
    have := rreflect_4 c 2 0 W (by omega) (by omega) (by omega) (by omega) h3 h4
    refine this.mono fun e w' h => ⟨h.1.trans ?_, h.2⟩
    rw [mvx7, mvy7]
    congr 4 <;> omega
  have R2 : ∀ W, Calls Tryz.prog 40 #[ln 4 c, pt 0 2] W fun e w' => e = .returned (pt (mvx 7 0 2 + 2 * (-c)) (mvy 7 0 2 + 2 * (c))) ∧ Below W.heap.size W w' := fun W => by
    have := rreflect_4 c 0 2 W (by omega) (by omega) (by omega) (by omega) h3 h4
    refine this.mono fun e w' h => ⟨h.1.trans ?_, h.2⟩
    rw [mvx7, mvy7]
    congr 4 <;> omega
  have TD : ∀ W, Calls Tryz.prog 39 #[pt (2 * (-c)) (2 * (c)), pt (mvx 7 2 0 + 2 * (-c)) (mvy 7 2 0 + 2 * (c)), pt (mvx 7 0 2 + 2 * (-c)) (mvy 7 0 2 + 2 * (c))] W fun e w' => e = .returned (mv 7 (-c) (c)) ∧ Below W.heap.size W w' := fun W => by
    have := told_any 7 (-c) (c) W (by omega) (by omega) (by omega) (by omega) (by omega) (by omega)
    skip
    exact this
  go_enter Tryz.func12, Tryz.ntmps12
  go_wp2_with fail
  refine region_tail 10 (by kernel_rfl) (by kernel_rfl) ?_
  simp only [List.take_succ_cons, List.take_zero, List.drop_succ_cons, List.drop_zero]
  repeat (first
    | (refine wpLex_plain (by rfl) (by rfl) (by rfl) (fun K hK => ?_); go_big_quiet_op; refine hK _ ?_; clear hK K)
    | (refine wpLex_call (by rfl) (by rfl) (fun K hK => ?_); go_simp; apply Exists.intro; refine ⟨fun _ => ?_, hK _ ?_⟩; ((first | (go_at_call 40; with_reducible exact Calls.laterL (R0 _)) | (go_at_call 40; with_reducible exact Calls.laterL (R1 _)) | (go_at_call 40; with_reducible exact Calls.laterL (R2 _)) | (go_at_call 39; with_reducible exact Calls.laterL (TD _)))); clear hK K)
    | (refine wpLex_new (by rfl) ?_; simp only [Act.put, List.setIfInBounds_toArray, List.set_cons_zero, List.set_cons_succ]))
  refine wpLex_nil ?_
  intro u9
  clear R0 R1 R2 TD
  go_wp2
  exact bodyPost_ret (v := mv 7 (-c) (c)) (by simp [results, Tryz.results12, go_sem]) rfl ⟨rfl, (by repeat first | (with_reducible exact Below.refl _ _) | (with_reducible refine below_on ?_ _) | (with_reducible refine below_alloc ?_ _) | (with_reducible refine below_set ?_ (by simp; try omega) _))⟩

end Go.Proofs.YtbcmfenekpllhaaGreatDoor
