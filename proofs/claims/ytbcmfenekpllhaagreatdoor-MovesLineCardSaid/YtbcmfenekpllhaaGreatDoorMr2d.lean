/-
  Says: what Told of the reference of moves gives for some of the turns.
-/
import Derived.Test.YtbcmfenekpllhaaGreatDoorMr2a
import Derived.Deep.RegionHeld3
set_option linter.unusedVariables false
set_option linter.unusedSimpArgs false
namespace Go.Proofs.YtbcmfenekpllhaaGreatDoor
open Go Go.RowKit

attribute [local go_sem] World.cell?_alloc_some frozen?_alloc_cells fz0 fz1 fz2 fz3 fz4 fz5

set_option maxRecDepth 100000 in
set_option maxHeartbeats 2000000 in
theorem told_4 (X Y : Int) (w : World) (b1 : -100000 ≤ X) (b2 : X ≤ 100000) (b3 : -100000 ≤ Y) (b4 : Y ≤ 100000) : Calls Tryz.prog 39 #[pt (2 * X) (2 * Y), pt (-2 + 2 * X) (2 * Y), pt (2 * X) (2 + 2 * Y)] w fun e w' => e = .returned (mv 4 X Y) ∧ Below w.heap.size w w' := by
  have t1 : (2 * X).tdiv 2 = X := td2 rfl
  have t2 : (2 * Y).tdiv 2 = Y := td2 rfl
  have q0 : (-2 + 2 * X == 2 * X) = false := eqf (by omega)
  have q1 : (-2 + 2 * Y == 2 * Y) = false := eqf (by omega)
  have q2 : (-2 + 2 * Y == 2 + 2 * Y) = false := eqf (by omega)
  have q3 : (2 * X == -2 + 2 * X) = false := eqf (by omega)
  have q4 : (2 * Y == 2 + 2 * Y) = false := eqf (by omega)
  have q5 : (2 + 2 * X == -2 + 2 * X) = false := eqf (by omega)
  have q6 : (2 + 2 * X == 2 * X) = false := eqf (by omega)
  have q7 : (2 + 2 * Y == 2 * Y) = false := eqf (by omega)
  go_enter Tryz.func39, Tryz.ntmps39
  go_wp2_with fail
  have hB : Below w.heap.size w ((((w.alloc (.cells #[.int .i64 (2 * X), .int .i64 (2 * Y)] 47)).alloc (.cells #[.int .i64 (-2 + 2 * X), .int .i64 (2 * Y)] 47)).alloc (.cells #[.int .i64 (2 * X), .int .i64 (2 + 2 * Y)] 47)).alloc (.cells #[.int .u8 0, .int .i64 0, .int .i64 0] 23)) := (by repeat first | (with_reducible exact Below.refl _ _) | (with_reducible refine below_on ?_ _) | (with_reducible refine below_alloc ?_ _) | (with_reducible refine below_set ?_ (by simp; try omega) _))
  have c00 : ((((w.alloc (.cells #[.int .i64 (2 * X), .int .i64 (2 * Y)] 47)).alloc (.cells #[.int .i64 (-2 + 2 * X), .int .i64 (2 * Y)] 47)).alloc (.cells #[.int .i64 (2 * X), .int .i64 (2 + 2 * Y)] 47)).alloc (.cells #[.int .u8 0, .int .i64 0, .int .i64 0] 23)).cell? ⟨w.heap.size, 0, none⟩ = some (.int .i64 (2 * X)) := by simp [go_sem]
  have c01 : ((((w.alloc (.cells #[.int .i64 (2 * X), .int .i64 (2 * Y)] 47)).alloc (.cells #[.int .i64 (-2 + 2 * X), .int .i64 (2 * Y)] 47)).alloc (.cells #[.int .i64 (2 * X), .int .i64 (2 + 2 * Y)] 47)).alloc (.cells #[.int .u8 0, .int .i64 0, .int .i64 0] 23)).cell? ⟨w.heap.size, 1, none⟩ = some (.int .i64 (2 * Y)) := by simp [go_sem]
  have c10 : ((((w.alloc (.cells #[.int .i64 (2 * X), .int .i64 (2 * Y)] 47)).alloc (.cells #[.int .i64 (-2 + 2 * X), .int .i64 (2 * Y)] 47)).alloc (.cells #[.int .i64 (2 * X), .int .i64 (2 + 2 * Y)] 47)).alloc (.cells #[.int .u8 0, .int .i64 0, .int .i64 0] 23)).cell? ⟨w.heap.size + 1, 0, none⟩ = some (.int .i64 (-2 + 2 * X)) := by simp [go_sem]
  have c11 : ((((w.alloc (.cells #[.int .i64 (2 * X), .int .i64 (2 * Y)] 47)).alloc (.cells #[.int .i64 (-2 + 2 * X), .int .i64 (2 * Y)] 47)).alloc (.cells #[.int .i64 (2 * X), .int .i64 (2 + 2 * Y)] 47)).alloc (.cells #[.int .u8 0, .int .i64 0, .int .i64 0] 23)).cell? ⟨w.heap.size + 1, 1, none⟩ = some (.int .i64 (2 * Y)) := by simp [go_sem]
  have c20 : ((((w.alloc (.cells #[.int .i64 (2 * X), .int .i64 (2 * Y)] 47)).alloc (.cells #[.int .i64 (-2 + 2 * X), .int .i64 (2 * Y)] 47)).alloc (.cells #[.int .i64 (2 * X), .int .i64 (2 + 2 * Y)] 47)).alloc (.cells #[.int .u8 0, .int .i64 0, .int .i64 0] 23)).cell? ⟨w.heap.size + 1 + 1, 0, none⟩ = some (.int .i64 (2 * X)) := by simp [go_sem]
  have c21 : ((((w.alloc (.cells #[.int .i64 (2 * X), .int .i64 (2 * Y)] 47)).alloc (.cells #[.int .i64 (-2 + 2 * X), .int .i64 (2 * Y)] 47)).alloc (.cells #[.int .i64 (2 * X), .int .i64 (2 + 2 * Y)] 47)).alloc (.cells #[.int .u8 0, .int .i64 0, .int .i64 0] 23)).cell? ⟨w.heap.size + 1 + 1, 1, none⟩ = some (.int .i64 (2 + 2 * Y)) := by simp [go_sem]
  have c30 : ((((w.alloc (.cells #[.int .i64 (2 * X), .int .i64 (2 * Y)] 47)).alloc (.cells #[.int .i64 (-2 + 2 * X), .int .i64 (2 * Y)] 47)).alloc (.cells #[.int .i64 (2 * X), .int .i64 (2 + 2 * Y)] 47)).alloc (.cells #[.int .u8 0, .int .i64 0, .int .i64 0] 23)).cell? ⟨w.heap.size + 1 + 1 + 1, 0, none⟩ = some (.int .u8 0) := by simp [go_sem]
  have c31 : ((((w.alloc (.cells #[.int .i64 (2 * X), .int .i64 (2 * Y)] 47)).alloc (.cells #[.int .i64 (-2 + 2 * X), .int .i64 (2 * Y)] 47)).alloc (.cells #[.int .i64 (2 * X), .int .i64 (2 + 2 * Y)] 47)).alloc (.cells #[.int .u8 0, .int .i64 0, .int .i64 0] 23)).cell? ⟨w.heap.size + 1 + 1 + 1, 1, none⟩ = some (.int .i64 0) := by simp [go_sem]
  have c32 : ((((w.alloc (.cells #[.int .i64 (2 * X), .int .i64 (2 * Y)] 47)).alloc (.cells #[.int .i64 (-2 + 2 * X), .int .i64 (2 * Y)] 47)).alloc (.cells #[.int .i64 (2 * X), .int .i64 (2 + 2 * Y)] 47)).alloc (.cells #[.int .u8 0, .int .i64 0, .int .i64 0] 23)).cell? ⟨w.heap.size + 1 + 1 + 1, 2, none⟩ = some (.int .i64 0) := by simp [go_sem]
  have f0 : ((((w.alloc (.cells #[.int .i64 (2 * X), .int .i64 (2 * Y)] 47)).alloc (.cells #[.int .i64 (-2 + 2 * X), .int .i64 (2 * Y)] 47)).alloc (.cells #[.int .i64 (2 * X), .int .i64 (2 + 2 * Y)] 47)).alloc (.cells #[.int .u8 0, .int .i64 0, .int .i64 0] 23)).frozen? ⟨w.heap.size + 1 + 1 + 1, 0, none⟩ = false := by simp [go_sem]
  have f1 : ((((w.alloc (.cells #[.int .i64 (2 * X), .int .i64 (2 * Y)] 47)).alloc (.cells #[.int .i64 (-2 + 2 * X), .int .i64 (2 * Y)] 47)).alloc (.cells #[.int .i64 (2 * X), .int .i64 (2 + 2 * Y)] 47)).alloc (.cells #[.int .u8 0, .int .i64 0, .int .i64 0] 23)).frozen? ⟨w.heap.size + 1 + 1 + 1, 1, none⟩ = false := by simp [go_sem]
  have f2 : ((((w.alloc (.cells #[.int .i64 (2 * X), .int .i64 (2 * Y)] 47)).alloc (.cells #[.int .i64 (-2 + 2 * X), .int .i64 (2 * Y)] 47)).alloc (.cells #[.int .i64 (2 * X), .int .i64 (2 + 2 * Y)] 47)).alloc (.cells #[.int .u8 0, .int .i64 0, .int .i64 0] 23)).frozen? ⟨w.heap.size + 1 + 1 + 1, 2, none⟩ = false := by simp [go_sem]
  generalize ((((w.alloc (.cells #[.int .i64 (2 * X), .int .i64 (2 * Y)] 47)).alloc (.cells #[.int .i64 (-2 + 2 * X), .int .i64 (2 * Y)] 47)).alloc (.cells #[.int .i64 (2 * X), .int .i64 (2 + 2 * Y)] 47)).alloc (.cells #[.int .u8 0, .int .i64 0, .int .i64 0] 23)) = Wb at *
  go_loopw [7] (fun iv wr => ∃ i : Int, iv = .int .u8 i ∧ 0 ≤ i ∧ i ≤ 4 ∧ ∃ u : Later Wb, wr = on u) (fun iv _ => (4 - intOf iv).toNat)
  case atStart => exact ⟨0, rfl, by omega, by omega, ⟨_, Below.refl _ _⟩, rfl⟩
  case round =>
    obtain ⟨i, rfl, hi1, hi2, u0, rfl⟩ := hrel
    have d00 : ∀ o, ((on u0).alloc o).cell? ⟨w.heap.size, 0, none⟩ = some (.int .i64 (2 * X)) := al1 (by simp [go_sem, c00])
    have d01 : ∀ o, ((on u0).alloc o).cell? ⟨w.heap.size, 1, none⟩ = some (.int .i64 (2 * Y)) := al1 (by simp [go_sem, c01])
    have d10 : ∀ o, ((on u0).alloc o).cell? ⟨w.heap.size + 1, 0, none⟩ = some (.int .i64 (-2 + 2 * X)) := al1 (by simp [go_sem, c10])
    have d11 : ∀ o, ((on u0).alloc o).cell? ⟨w.heap.size + 1, 1, none⟩ = some (.int .i64 (2 * Y)) := al1 (by simp [go_sem, c11])
    have d20 : ∀ o, ((on u0).alloc o).cell? ⟨w.heap.size + 1 + 1, 0, none⟩ = some (.int .i64 (2 * X)) := al1 (by simp [go_sem, c20])
    have d21 : ∀ o, ((on u0).alloc o).cell? ⟨w.heap.size + 1 + 1, 1, none⟩ = some (.int .i64 (2 + 2 * Y)) := al1 (by simp [go_sem, c21])
    have d30 : ∀ o, ((on u0).alloc o).cell? ⟨w.heap.size + 1 + 1 + 1, 0, none⟩ = some (.int .u8 0) := al1 (by simp [go_sem, c30])
    have d31 : ∀ o, ((on u0).alloc o).cell? ⟨w.heap.size + 1 + 1 + 1, 1, none⟩ = some (.int .i64 0) := al1 (by simp [go_sem, c31])
    have d32 : ∀ o, ((on u0).alloc o).cell? ⟨w.heap.size + 1 + 1 + 1, 2, none⟩ = some (.int .i64 0) := al1 (by simp [go_sem, c32])
    obtain rfl | rfl | rfl | rfl | rfl : i = 0 ∨ i = 1 ∨ i = 2 ∨ i = 3 ∨ i = 4 := by omega
    · go_wp2_with fail
      refine region_later (by kernel_rfl) (by kernel_rfl) ?_
      repeat (go_big_quiet_step ((first | (go_at_call 37; with_reducible exact Calls.later (rp00 X Y _ b1 b2 b3 b4)) | (go_at_call 37; with_reducible exact Calls.later (rp01 X Y _ b1 b2 b3 b4)) | (go_at_call 37; with_reducible exact Calls.later (rp02 X Y _ b1 b2 b3 b4)))))
      refine wpQuiet_nil ?_
      rintro _ ⟨u3, rfl⟩
      go_wp2_with fail
      exact ⟨⟨0 + 1, rfl, by omega, by omega, after (by repeat first | (with_reducible exact Below.refl _ _) | (with_reducible refine below_on ?_ _) | (with_reducible refine below_alloc ?_ _))⟩, by simp [intOf]⟩
    · go_wp2_with fail
      refine region_later (by kernel_rfl) (by kernel_rfl) ?_
      repeat (go_big_quiet_step ((first | (go_at_call 37; with_reducible exact Calls.later (rp10 X Y _ b1 b2 b3 b4)) | (go_at_call 37; with_reducible exact Calls.later (rp11 X Y _ b1 b2 b3 b4)) | (go_at_call 37; with_reducible exact Calls.later (rp12 X Y _ b1 b2 b3 b4)))))
      refine wpQuiet_nil ?_
      rintro _ ⟨u3, rfl⟩
      go_wp2_with fail
      exact ⟨⟨1 + 1, rfl, by omega, by omega, after (by repeat first | (with_reducible exact Below.refl _ _) | (with_reducible refine below_on ?_ _) | (with_reducible refine below_alloc ?_ _))⟩, by simp [intOf]⟩
    · go_wp2_with fail
      refine region_later (by kernel_rfl) (by kernel_rfl) ?_
      repeat (go_big_quiet_step ((first | (go_at_call 37; with_reducible exact Calls.later (rp20 X Y _ b1 b2 b3 b4)) | (go_at_call 37; with_reducible exact Calls.later (rp21 X Y _ b1 b2 b3 b4)) | (go_at_call 37; with_reducible exact Calls.later (rp22 X Y _ b1 b2 b3 b4)))))
      refine wpQuiet_nil ?_
      rintro _ ⟨u3, rfl⟩
      go_wp2_with fail
      exact ⟨⟨2 + 1, rfl, by omega, by omega, after (by repeat first | (with_reducible exact Below.refl _ _) | (with_reducible refine below_on ?_ _) | (with_reducible refine below_alloc ?_ _))⟩, by simp [intOf]⟩
    · go_wp2_with fail
      refine region_later (by kernel_rfl) (by kernel_rfl) ?_
      repeat (go_big_quiet_step ((first | (go_at_call 37; with_reducible exact Calls.later (rp30 X Y _ b1 b2 b3 b4)) | (go_at_call 37; with_reducible exact Calls.later (rp31 X Y _ b1 b2 b3 b4)) | (go_at_call 37; with_reducible exact Calls.later (rp32 X Y _ b1 b2 b3 b4)))))
      refine wpQuiet_nil ?_
      rintro _ ⟨u3, rfl⟩
      go_wp2_with fail
      exact ⟨⟨3 + 1, rfl, by omega, by omega, after (by repeat first | (with_reducible exact Below.refl _ _) | (with_reducible refine below_on ?_ _) | (with_reducible refine below_alloc ?_ _))⟩, by simp [intOf]⟩
    · go_wp2_with fail
      refine region_later (by kernel_rfl) (by kernel_rfl) ?_
      repeat (go_big_quiet_step ((first | (go_at_call 37; with_reducible exact Calls.later (rp40 X Y _ b1 b2 b3 b4)) | (go_at_call 37; with_reducible exact Calls.later (rp41 X Y _ b1 b2 b3 b4)) | (go_at_call 37; with_reducible exact Calls.later (rp42 X Y _ b1 b2 b3 b4)))))
      refine wpQuiet_nil ?_
      rintro _ ⟨u3, rfl⟩
      go_wp2_with fail
      have bw := hB
      exact bodyPost_ret (v := mv 4 X Y) (by simp [results, Tryz.results39, go_sem, d30, d31, d32]) rfl ⟨rfl, (by repeat first | (with_reducible exact bw) | (with_reducible refine below_on ?_ _) | (with_reducible refine below_alloc ?_ _) | (with_reducible refine below_set ?_ (by simp; try omega) _))⟩

set_option maxRecDepth 100000 in
set_option maxHeartbeats 2000000 in
theorem told_3 (X Y : Int) (w : World) (b1 : -100000 ≤ X) (b2 : X ≤ 100000) (b3 : -100000 ≤ Y) (b4 : Y ≤ 100000) : Calls Tryz.prog 39 #[pt (2 * X) (2 * Y), pt (2 * X) (-2 + 2 * Y), pt (2 + 2 * X) (2 * Y)] w fun e w' => e = .returned (mv 3 X Y) ∧ Below w.heap.size w w' := by
  have t1 : (2 * X).tdiv 2 = X := td2 rfl
  have t2 : (2 * Y).tdiv 2 = Y := td2 rfl
  have q0 : (-2 + 2 * X == 2 * X) = false := eqf (by omega)
  have q1 : (-2 + 2 * X == 2 + 2 * X) = false := eqf (by omega)
  have q2 : (-2 + 2 * Y == 2 * Y) = false := eqf (by omega)
  have q3 : (2 * X == 2 + 2 * X) = false := eqf (by omega)
  have q4 : (2 * Y == -2 + 2 * Y) = false := eqf (by omega)
  have q5 : (2 + 2 * X == 2 * X) = false := eqf (by omega)
  have q6 : (2 + 2 * Y == -2 + 2 * Y) = false := eqf (by omega)
  have q7 : (2 + 2 * Y == 2 * Y) = false := eqf (by omega)
  go_enter Tryz.func39, Tryz.ntmps39
  go_wp2_with fail
  have hB : Below w.heap.size w ((((w.alloc (.cells #[.int .i64 (2 * X), .int .i64 (2 * Y)] 47)).alloc (.cells #[.int .i64 (2 * X), .int .i64 (-2 + 2 * Y)] 47)).alloc (.cells #[.int .i64 (2 + 2 * X), .int .i64 (2 * Y)] 47)).alloc (.cells #[.int .u8 0, .int .i64 0, .int .i64 0] 23)) := (by repeat first | (with_reducible exact Below.refl _ _) | (with_reducible refine below_on ?_ _) | (with_reducible refine below_alloc ?_ _) | (with_reducible refine below_set ?_ (by simp; try omega) _))
  have c00 : ((((w.alloc (.cells #[.int .i64 (2 * X), .int .i64 (2 * Y)] 47)).alloc (.cells #[.int .i64 (2 * X), .int .i64 (-2 + 2 * Y)] 47)).alloc (.cells #[.int .i64 (2 + 2 * X), .int .i64 (2 * Y)] 47)).alloc (.cells #[.int .u8 0, .int .i64 0, .int .i64 0] 23)).cell? ⟨w.heap.size, 0, none⟩ = some (.int .i64 (2 * X)) := by simp [go_sem]
  have c01 : ((((w.alloc (.cells #[.int .i64 (2 * X), .int .i64 (2 * Y)] 47)).alloc (.cells #[.int .i64 (2 * X), .int .i64 (-2 + 2 * Y)] 47)).alloc (.cells #[.int .i64 (2 + 2 * X), .int .i64 (2 * Y)] 47)).alloc (.cells #[.int .u8 0, .int .i64 0, .int .i64 0] 23)).cell? ⟨w.heap.size, 1, none⟩ = some (.int .i64 (2 * Y)) := by simp [go_sem]
  have c10 : ((((w.alloc (.cells #[.int .i64 (2 * X), .int .i64 (2 * Y)] 47)).alloc (.cells #[.int .i64 (2 * X), .int .i64 (-2 + 2 * Y)] 47)).alloc (.cells #[.int .i64 (2 + 2 * X), .int .i64 (2 * Y)] 47)).alloc (.cells #[.int .u8 0, .int .i64 0, .int .i64 0] 23)).cell? ⟨w.heap.size + 1, 0, none⟩ = some (.int .i64 (2 * X)) := by simp [go_sem]
  have c11 : ((((w.alloc (.cells #[.int .i64 (2 * X), .int .i64 (2 * Y)] 47)).alloc (.cells #[.int .i64 (2 * X), .int .i64 (-2 + 2 * Y)] 47)).alloc (.cells #[.int .i64 (2 + 2 * X), .int .i64 (2 * Y)] 47)).alloc (.cells #[.int .u8 0, .int .i64 0, .int .i64 0] 23)).cell? ⟨w.heap.size + 1, 1, none⟩ = some (.int .i64 (-2 + 2 * Y)) := by simp [go_sem]
  have c20 : ((((w.alloc (.cells #[.int .i64 (2 * X), .int .i64 (2 * Y)] 47)).alloc (.cells #[.int .i64 (2 * X), .int .i64 (-2 + 2 * Y)] 47)).alloc (.cells #[.int .i64 (2 + 2 * X), .int .i64 (2 * Y)] 47)).alloc (.cells #[.int .u8 0, .int .i64 0, .int .i64 0] 23)).cell? ⟨w.heap.size + 1 + 1, 0, none⟩ = some (.int .i64 (2 + 2 * X)) := by simp [go_sem]
  have c21 : ((((w.alloc (.cells #[.int .i64 (2 * X), .int .i64 (2 * Y)] 47)).alloc (.cells #[.int .i64 (2 * X), .int .i64 (-2 + 2 * Y)] 47)).alloc (.cells #[.int .i64 (2 + 2 * X), .int .i64 (2 * Y)] 47)).alloc (.cells #[.int .u8 0, .int .i64 0, .int .i64 0] 23)).cell? ⟨w.heap.size + 1 + 1, 1, none⟩ = some (.int .i64 (2 * Y)) := by simp [go_sem]
  have c30 : ((((w.alloc (.cells #[.int .i64 (2 * X), .int .i64 (2 * Y)] 47)).alloc (.cells #[.int .i64 (2 * X), .int .i64 (-2 + 2 * Y)] 47)).alloc (.cells #[.int .i64 (2 + 2 * X), .int .i64 (2 * Y)] 47)).alloc (.cells #[.int .u8 0, .int .i64 0, .int .i64 0] 23)).cell? ⟨w.heap.size + 1 + 1 + 1, 0, none⟩ = some (.int .u8 0) := by simp [go_sem]
  have c31 : ((((w.alloc (.cells #[.int .i64 (2 * X), .int .i64 (2 * Y)] 47)).alloc (.cells #[.int .i64 (2 * X), .int .i64 (-2 + 2 * Y)] 47)).alloc (.cells #[.int .i64 (2 + 2 * X), .int .i64 (2 * Y)] 47)).alloc (.cells #[.int .u8 0, .int .i64 0, .int .i64 0] 23)).cell? ⟨w.heap.size + 1 + 1 + 1, 1, none⟩ = some (.int .i64 0) := by simp [go_sem]
  have c32 : ((((w.alloc (.cells #[.int .i64 (2 * X), .int .i64 (2 * Y)] 47)).alloc (.cells #[.int .i64 (2 * X), .int .i64 (-2 + 2 * Y)] 47)).alloc (.cells #[.int .i64 (2 + 2 * X), .int .i64 (2 * Y)] 47)).alloc (.cells #[.int .u8 0, .int .i64 0, .int .i64 0] 23)).cell? ⟨w.heap.size + 1 + 1 + 1, 2, none⟩ = some (.int .i64 0) := by simp [go_sem]
  have f0 : ((((w.alloc (.cells #[.int .i64 (2 * X), .int .i64 (2 * Y)] 47)).alloc (.cells #[.int .i64 (2 * X), .int .i64 (-2 + 2 * Y)] 47)).alloc (.cells #[.int .i64 (2 + 2 * X), .int .i64 (2 * Y)] 47)).alloc (.cells #[.int .u8 0, .int .i64 0, .int .i64 0] 23)).frozen? ⟨w.heap.size + 1 + 1 + 1, 0, none⟩ = false := by simp [go_sem]
  have f1 : ((((w.alloc (.cells #[.int .i64 (2 * X), .int .i64 (2 * Y)] 47)).alloc (.cells #[.int .i64 (2 * X), .int .i64 (-2 + 2 * Y)] 47)).alloc (.cells #[.int .i64 (2 + 2 * X), .int .i64 (2 * Y)] 47)).alloc (.cells #[.int .u8 0, .int .i64 0, .int .i64 0] 23)).frozen? ⟨w.heap.size + 1 + 1 + 1, 1, none⟩ = false := by simp [go_sem]
  have f2 : ((((w.alloc (.cells #[.int .i64 (2 * X), .int .i64 (2 * Y)] 47)).alloc (.cells #[.int .i64 (2 * X), .int .i64 (-2 + 2 * Y)] 47)).alloc (.cells #[.int .i64 (2 + 2 * X), .int .i64 (2 * Y)] 47)).alloc (.cells #[.int .u8 0, .int .i64 0, .int .i64 0] 23)).frozen? ⟨w.heap.size + 1 + 1 + 1, 2, none⟩ = false := by simp [go_sem]
  generalize ((((w.alloc (.cells #[.int .i64 (2 * X), .int .i64 (2 * Y)] 47)).alloc (.cells #[.int .i64 (2 * X), .int .i64 (-2 + 2 * Y)] 47)).alloc (.cells #[.int .i64 (2 + 2 * X), .int .i64 (2 * Y)] 47)).alloc (.cells #[.int .u8 0, .int .i64 0, .int .i64 0] 23)) = Wb at *
  go_loopw [7] (fun iv wr => ∃ i : Int, iv = .int .u8 i ∧ 0 ≤ i ∧ i ≤ 3 ∧ ∃ u : Later Wb, wr = on u) (fun iv _ => (3 - intOf iv).toNat)
  case atStart => exact ⟨0, rfl, by omega, by omega, ⟨_, Below.refl _ _⟩, rfl⟩
  case round =>
    obtain ⟨i, rfl, hi1, hi2, u0, rfl⟩ := hrel
    have d00 : ∀ o, ((on u0).alloc o).cell? ⟨w.heap.size, 0, none⟩ = some (.int .i64 (2 * X)) := al1 (by simp [go_sem, c00])
    have d01 : ∀ o, ((on u0).alloc o).cell? ⟨w.heap.size, 1, none⟩ = some (.int .i64 (2 * Y)) := al1 (by simp [go_sem, c01])
    have d10 : ∀ o, ((on u0).alloc o).cell? ⟨w.heap.size + 1, 0, none⟩ = some (.int .i64 (2 * X)) := al1 (by simp [go_sem, c10])
    have d11 : ∀ o, ((on u0).alloc o).cell? ⟨w.heap.size + 1, 1, none⟩ = some (.int .i64 (-2 + 2 * Y)) := al1 (by simp [go_sem, c11])
    have d20 : ∀ o, ((on u0).alloc o).cell? ⟨w.heap.size + 1 + 1, 0, none⟩ = some (.int .i64 (2 + 2 * X)) := al1 (by simp [go_sem, c20])
    have d21 : ∀ o, ((on u0).alloc o).cell? ⟨w.heap.size + 1 + 1, 1, none⟩ = some (.int .i64 (2 * Y)) := al1 (by simp [go_sem, c21])
    have d30 : ∀ o, ((on u0).alloc o).cell? ⟨w.heap.size + 1 + 1 + 1, 0, none⟩ = some (.int .u8 0) := al1 (by simp [go_sem, c30])
    have d31 : ∀ o, ((on u0).alloc o).cell? ⟨w.heap.size + 1 + 1 + 1, 1, none⟩ = some (.int .i64 0) := al1 (by simp [go_sem, c31])
    have d32 : ∀ o, ((on u0).alloc o).cell? ⟨w.heap.size + 1 + 1 + 1, 2, none⟩ = some (.int .i64 0) := al1 (by simp [go_sem, c32])
    obtain rfl | rfl | rfl | rfl : i = 0 ∨ i = 1 ∨ i = 2 ∨ i = 3 := by omega
    · go_wp2_with fail
      refine region_later (by kernel_rfl) (by kernel_rfl) ?_
      repeat (go_big_quiet_step ((first | (go_at_call 37; with_reducible exact Calls.later (rp00 X Y _ b1 b2 b3 b4)) | (go_at_call 37; with_reducible exact Calls.later (rp01 X Y _ b1 b2 b3 b4)) | (go_at_call 37; with_reducible exact Calls.later (rp02 X Y _ b1 b2 b3 b4)))))
      refine wpQuiet_nil ?_
      rintro _ ⟨u3, rfl⟩
      go_wp2_with fail
      exact ⟨⟨0 + 1, rfl, by omega, by omega, after (by repeat first | (with_reducible exact Below.refl _ _) | (with_reducible refine below_on ?_ _) | (with_reducible refine below_alloc ?_ _))⟩, by simp [intOf]⟩
    · go_wp2_with fail
      refine region_later (by kernel_rfl) (by kernel_rfl) ?_
      repeat (go_big_quiet_step ((first | (go_at_call 37; with_reducible exact Calls.later (rp10 X Y _ b1 b2 b3 b4)) | (go_at_call 37; with_reducible exact Calls.later (rp11 X Y _ b1 b2 b3 b4)) | (go_at_call 37; with_reducible exact Calls.later (rp12 X Y _ b1 b2 b3 b4)))))
      refine wpQuiet_nil ?_
      rintro _ ⟨u3, rfl⟩
      go_wp2_with fail
      exact ⟨⟨1 + 1, rfl, by omega, by omega, after (by repeat first | (with_reducible exact Below.refl _ _) | (with_reducible refine below_on ?_ _) | (with_reducible refine below_alloc ?_ _))⟩, by simp [intOf]⟩
    · go_wp2_with fail
      refine region_later (by kernel_rfl) (by kernel_rfl) ?_
      repeat (go_big_quiet_step ((first | (go_at_call 37; with_reducible exact Calls.later (rp20 X Y _ b1 b2 b3 b4)) | (go_at_call 37; with_reducible exact Calls.later (rp21 X Y _ b1 b2 b3 b4)) | (go_at_call 37; with_reducible exact Calls.later (rp22 X Y _ b1 b2 b3 b4)))))
      refine wpQuiet_nil ?_
      rintro _ ⟨u3, rfl⟩
      go_wp2_with fail
      exact ⟨⟨2 + 1, rfl, by omega, by omega, after (by repeat first | (with_reducible exact Below.refl _ _) | (with_reducible refine below_on ?_ _) | (with_reducible refine below_alloc ?_ _))⟩, by simp [intOf]⟩
    · go_wp2_with fail
      refine region_later (by kernel_rfl) (by kernel_rfl) ?_
      repeat (go_big_quiet_step ((first | (go_at_call 37; with_reducible exact Calls.later (rp30 X Y _ b1 b2 b3 b4)) | (go_at_call 37; with_reducible exact Calls.later (rp31 X Y _ b1 b2 b3 b4)) | (go_at_call 37; with_reducible exact Calls.later (rp32 X Y _ b1 b2 b3 b4)))))
      refine wpQuiet_nil ?_
      rintro _ ⟨u3, rfl⟩
      go_wp2_with fail
      have bw := hB
      exact bodyPost_ret (v := mv 3 X Y) (by simp [results, Tryz.results39, go_sem, d30, d31, d32]) rfl ⟨rfl, (by repeat first | (with_reducible exact bw) | (with_reducible refine below_on ?_ _) | (with_reducible refine below_alloc ?_ _) | (with_reducible refine below_set ?_ (by simp; try omega) _))⟩

end Go.Proofs.YtbcmfenekpllhaaGreatDoor
