/-
  Says: what Line of the reference of moves gives.
-/
import Derived.Test.YtbcmfenekpllhaaGreatDoorMv7a
import Derived.Test.YtbcmfenekpllhaaGreatDoorMr1
import Derived.Test.YtbcmfenekpllhaaGreatDoorRfO
import Derived.Test.YtbcmfenekpllhaaGreatDoorMvz
import Derived.Deep.RegionHeld3
import Derived.RowKit3
set_option linter.unusedVariables false
set_option linter.unusedSimpArgs false
namespace Go.Proofs.YtbcmfenekpllhaaGreatDoor
open Go Go.RowKit

attribute [local go_sem] World.cell?_alloc_some frozen?_alloc_cells fz0 fz1 fz2 fz3 fz4 fz5

set_option maxRecDepth 100000 in
set_option maxHeartbeats 2000000 in
theorem rline_1 (t X Y k c o1 o2 o3 o4 ax ay bx by_ C : Int) (w : World)
    (ON : ∀ W, Calls Tryz.prog 36 #[ln k c] W fun e w' => e = .returned (.tuple #[pt o1 o2, pt o3 o4]) ∧ Below W.heap.size W w')
    (PA : ∀ W, Calls Tryz.prog 37 #[mv t X Y, pt o1 o2] W fun e w' => e = .returned (pt ax ay) ∧ Below W.heap.size W w')
    (PB : ∀ W, Calls Tryz.prog 37 #[mv t X Y, pt o3 o4] W fun e w' => e = .returned (pt bx by_) ∧ Below W.heap.size W w')
    (a1 : -200000 ≤ ax) (a2 : ax ≤ 200000) (a3 : -200000 ≤ ay) (a4 : ay ≤ 200000) (b1 : -200000 ≤ bx) (b2 : bx ≤ 200000) (b3 : -200000 ≤ by_) (b4 : by_ ≤ 200000)
    (h1 : bx = ax) (h2 : by_ ≠ ay) (h3 : bx + by_ ≠ ax + ay) (h4 : by_ - bx ≠ ay - ax) (hC : ax = 2 * C) :
    Calls Tryz.prog 9 #[mv t X Y, ln k c] w fun e w' => e = .returned (ln 1 C) ∧ Below w.heap.size w w' := by
  have zk1 : (ax == bx) = true := eqt (by omega)
  have zk2 : (ay == by_) = false := eqf (by omega)
  have zk3 : (ax + ay == bx + by_) = false := eqf (by omega)
  have zk4 : (-ax + ay == -bx + by_) = false := eqf (by omega)
  have td : (ax).tdiv 2 = C := td2 (by omega)
  have C1 : -200000 ≤ C := by omega
  have C2 : C ≤ 200000 := by omega
  clear h1 h2 h3 h4 hC
  go_enter Tryz.func9, Tryz.ntmps9
  go_wp2_with (first | (go_at_call 36; with_reducible refine (ON _).mono ?_; rintro e wx ⟨rfl, hx⟩; obtain ⟨ux, rfl⟩ := after hx; clear hx) | fail)
  have hR : Below (((w.alloc (.cells #[.int .u8 t, .int .i64 X, .int .i64 Y] 23)).alloc (.cells #[.int .u8 k, .int .i64 c] 26)).alloc (.cells #[.int .u8 0, .int .i64 0] 26)).heap.size (((w.alloc (.cells #[.int .u8 t, .int .i64 X, .int .i64 Y] 23)).alloc (.cells #[.int .u8 k, .int .i64 c] 26)).alloc (.cells #[.int .u8 0, .int .i64 0] 26)) (((on ux).alloc (.cells #[.int .i64 (o1), .int .i64 (o2)] 47)).alloc (.cells #[.int .i64 (o3), .int .i64 (o4)] 47)) := by repeat first | (with_reducible exact Below.refl _ _) | (with_reducible refine below_on ?_ _) | (with_reducible refine below_alloc ?_ _)
  have c0 : (((on ux).alloc (.cells #[.int .i64 (o1), .int .i64 (o2)] 47)).alloc (.cells #[.int .i64 (o3), .int .i64 (o4)] 47)).cell? ⟨w.heap.size, 0, none⟩ = some (.int .u8 t) := by rw [hR.cell (p := ⟨w.heap.size, 0, none⟩) (by simp [World.size_alloc] <;> omega)]; simp [go_sem]
  have f0 : (((on ux).alloc (.cells #[.int .i64 (o1), .int .i64 (o2)] 47)).alloc (.cells #[.int .i64 (o3), .int .i64 (o4)] 47)).frozen? ⟨w.heap.size, 0, none⟩ = false := by rw [hR.frozen (p := ⟨w.heap.size, 0, none⟩) (by simp [World.size_alloc] <;> omega)]; simp [go_sem]
  have c1 : (((on ux).alloc (.cells #[.int .i64 (o1), .int .i64 (o2)] 47)).alloc (.cells #[.int .i64 (o3), .int .i64 (o4)] 47)).cell? ⟨w.heap.size, 1, none⟩ = some (.int .i64 X) := by rw [hR.cell (p := ⟨w.heap.size, 1, none⟩) (by simp [World.size_alloc] <;> omega)]; simp [go_sem]
  have f1 : (((on ux).alloc (.cells #[.int .i64 (o1), .int .i64 (o2)] 47)).alloc (.cells #[.int .i64 (o3), .int .i64 (o4)] 47)).frozen? ⟨w.heap.size, 1, none⟩ = false := by rw [hR.frozen (p := ⟨w.heap.size, 1, none⟩) (by simp [World.size_alloc] <;> omega)]; simp [go_sem]
  have c2 : (((on ux).alloc (.cells #[.int .i64 (o1), .int .i64 (o2)] 47)).alloc (.cells #[.int .i64 (o3), .int .i64 (o4)] 47)).cell? ⟨w.heap.size, 2, none⟩ = some (.int .i64 Y) := by rw [hR.cell (p := ⟨w.heap.size, 2, none⟩) (by simp [World.size_alloc] <;> omega)]; simp [go_sem]
  have f2 : (((on ux).alloc (.cells #[.int .i64 (o1), .int .i64 (o2)] 47)).alloc (.cells #[.int .i64 (o3), .int .i64 (o4)] 47)).frozen? ⟨w.heap.size, 2, none⟩ = false := by rw [hR.frozen (p := ⟨w.heap.size, 2, none⟩) (by simp [World.size_alloc] <;> omega)]; simp [go_sem]
  have c3 : (((on ux).alloc (.cells #[.int .i64 (o1), .int .i64 (o2)] 47)).alloc (.cells #[.int .i64 (o3), .int .i64 (o4)] 47)).cell? ⟨w.heap.size + 1 + 1, 0, none⟩ = some (.int .u8 0) := by rw [hR.cell (p := ⟨w.heap.size + 1 + 1, 0, none⟩) (by simp [World.size_alloc] <;> omega)]; simp [go_sem]
  have f3 : (((on ux).alloc (.cells #[.int .i64 (o1), .int .i64 (o2)] 47)).alloc (.cells #[.int .i64 (o3), .int .i64 (o4)] 47)).frozen? ⟨w.heap.size + 1 + 1, 0, none⟩ = false := by rw [hR.frozen (p := ⟨w.heap.size + 1 + 1, 0, none⟩) (by simp [World.size_alloc] <;> omega)]; simp [go_sem]
  have c4 : (((on ux).alloc (.cells #[.int .i64 (o1), .int .i64 (o2)] 47)).alloc (.cells #[.int .i64 (o3), .int .i64 (o4)] 47)).cell? ⟨w.heap.size + 1 + 1, 1, none⟩ = some (.int .i64 0) := by rw [hR.cell (p := ⟨w.heap.size + 1 + 1, 1, none⟩) (by simp [World.size_alloc] <;> omega)]; simp [go_sem]
  have f4 : (((on ux).alloc (.cells #[.int .i64 (o1), .int .i64 (o2)] 47)).alloc (.cells #[.int .i64 (o3), .int .i64 (o4)] 47)).frozen? ⟨w.heap.size + 1 + 1, 1, none⟩ = false := by rw [hR.frozen (p := ⟨w.heap.size + 1 + 1, 1, none⟩) (by simp [World.size_alloc] <;> omega)]; simp [go_sem]
  have c5 : (((on ux).alloc (.cells #[.int .i64 (o1), .int .i64 (o2)] 47)).alloc (.cells #[.int .i64 (o3), .int .i64 (o4)] 47)).cell? ⟨(on ux).heap.size, 0, none⟩ = some (.int .i64 (o1)) := by simp [go_sem]
  have f5 : (((on ux).alloc (.cells #[.int .i64 (o1), .int .i64 (o2)] 47)).alloc (.cells #[.int .i64 (o3), .int .i64 (o4)] 47)).frozen? ⟨(on ux).heap.size, 0, none⟩ = false := by simp [go_sem]
  have c6 : (((on ux).alloc (.cells #[.int .i64 (o1), .int .i64 (o2)] 47)).alloc (.cells #[.int .i64 (o3), .int .i64 (o4)] 47)).cell? ⟨(on ux).heap.size, 1, none⟩ = some (.int .i64 (o2)) := by simp [go_sem]
  have f6 : (((on ux).alloc (.cells #[.int .i64 (o1), .int .i64 (o2)] 47)).alloc (.cells #[.int .i64 (o3), .int .i64 (o4)] 47)).frozen? ⟨(on ux).heap.size, 1, none⟩ = false := by simp [go_sem]
  have c7 : (((on ux).alloc (.cells #[.int .i64 (o1), .int .i64 (o2)] 47)).alloc (.cells #[.int .i64 (o3), .int .i64 (o4)] 47)).cell? ⟨(on ux).heap.size + 1, 0, none⟩ = some (.int .i64 (o3)) := by simp [go_sem]
  have f7 : (((on ux).alloc (.cells #[.int .i64 (o1), .int .i64 (o2)] 47)).alloc (.cells #[.int .i64 (o3), .int .i64 (o4)] 47)).frozen? ⟨(on ux).heap.size + 1, 0, none⟩ = false := by simp [go_sem]
  have c8 : (((on ux).alloc (.cells #[.int .i64 (o1), .int .i64 (o2)] 47)).alloc (.cells #[.int .i64 (o3), .int .i64 (o4)] 47)).cell? ⟨(on ux).heap.size + 1, 1, none⟩ = some (.int .i64 (o4)) := by simp [go_sem]
  have f8 : (((on ux).alloc (.cells #[.int .i64 (o1), .int .i64 (o2)] 47)).alloc (.cells #[.int .i64 (o3), .int .i64 (o4)] 47)).frozen? ⟨(on ux).heap.size + 1, 1, none⟩ = false := by simp [go_sem]
  have hZ : Below (((w.alloc (.cells #[.int .u8 t, .int .i64 X, .int .i64 Y] 23)).alloc (.cells #[.int .u8 k, .int .i64 c] 26)).alloc (.cells #[.int .u8 0, .int .i64 0] 26)).heap.size (((w.alloc (.cells #[.int .u8 t, .int .i64 X, .int .i64 Y] 23)).alloc (.cells #[.int .u8 k, .int .i64 c] 26)).alloc (.cells #[.int .u8 0, .int .i64 0] 26)) (on ux) := by repeat first | (with_reducible exact Below.refl _ _) | (with_reducible refine below_on ?_ _) | (with_reducible refine below_alloc ?_ _)
  have z0 : w.heap.size < (on ux).heap.size := Nat.lt_of_lt_of_le (show w.heap.size < (((w.alloc (.cells #[.int .u8 t, .int .i64 X, .int .i64 Y] 23)).alloc (.cells #[.int .u8 k, .int .i64 c] 26)).alloc (.cells #[.int .u8 0, .int .i64 0] 26)).heap.size by simp [World.size_alloc] <;> omega) hZ.size
  have z1 : w.heap.size + 1 + 1 < (on ux).heap.size := Nat.lt_of_lt_of_le (show w.heap.size + 1 + 1 < (((w.alloc (.cells #[.int .u8 t, .int .i64 X, .int .i64 Y] 23)).alloc (.cells #[.int .u8 k, .int .i64 c] 26)).alloc (.cells #[.int .u8 0, .int .i64 0] 26)).heap.size by simp [World.size_alloc] <;> omega) hZ.size
  clear hZ
  have hB : Below w.heap.size w (((on ux).alloc (.cells #[.int .i64 (o1), .int .i64 (o2)] 47)).alloc (.cells #[.int .i64 (o3), .int .i64 (o4)] 47)) := by repeat first | (with_reducible exact Below.refl _ _) | (with_reducible refine below_on ?_ _) | (with_reducible refine below_alloc ?_ _)
  clear hR
  generalize (((on ux).alloc (.cells #[.int .i64 (o1), .int .i64 (o2)] 47)).alloc (.cells #[.int .i64 (o3), .int .i64 (o4)] 47)) = Wn at *
  generalize (on ux).heap.size = Bn at *
  clear ux
  refine region_free2 8 6 7 47 7 8 47 _ _ (by kernel_rfl) (by kernel_rfl) (by decide) (by kernel_rfl) alloc26 (by kernel_rfl) alloc26 ?_
  simp only [List.take_succ_cons, List.take_zero, List.drop_succ_cons, List.drop_zero]
  repeat (first
    | (refine wpLex_plain (by rfl) (by rfl) (by rfl) (fun K hK => ?_); go_big_quiet_op; refine hK _ ?_; clear hK K)
    | (refine wpLex_call (by rfl) (by rfl) (fun K hK => ?_); go_simp; apply Exists.intro; refine ⟨fun _ => ?_, hK _ ?_⟩; ((first | (go_at_call 37; with_reducible exact Calls.laterL (PA _)) | (go_at_call 37; with_reducible exact Calls.laterL (PB _)))); clear hK K)
    | (refine wpLex_new (by rfl) ?_; simp only [Act.put, List.setIfInBounds_toArray, List.set_cons_zero, List.set_cons_succ]))
  refine wpLex_nil ?_
  intro q q2 u hb hk hb2 hk2 hne
  simp only [Act.put, List.setIfInBounds_toArray, List.set_cons_zero, List.set_cons_succ]
  have hne2 : q2 ≠ q := Ne.symm hne
  have e0 : (on u).cell? ⟨q, 0, none⟩ = some (.int .i64 0) := held_cell hk 0
  have e1 : (on u).cell? ⟨q, 1, none⟩ = some (.int .i64 0) := held_cell hk 1
  have g0 : (on u).frozen? ⟨q, 0, none⟩ = false := held_free hk 0
  have g1 : (on u).frozen? ⟨q, 1, none⟩ = false := held_free hk 1
  have e2 : ∀ v v', (((on u).setCell ⟨q, 0, none⟩ v).setCell ⟨q, 1, none⟩ v').cell? ⟨q2, 0, none⟩ = some (.int .i64 0) := fun v v' => held_cell (held_set_other (held_set_other hk2 hne2 _ _) hne2 _ _) 0
  have e3 : ∀ v v', (((on u).setCell ⟨q, 0, none⟩ v).setCell ⟨q, 1, none⟩ v').cell? ⟨q2, 1, none⟩ = some (.int .i64 0) := fun v v' => held_cell (held_set_other (held_set_other hk2 hne2 _ _) hne2 _ _) 1
  have g2 : (on u).frozen? ⟨q2, 0, none⟩ = false := held_free hk2 0
  have g3 : (on u).frozen? ⟨q2, 1, none⟩ = false := held_free hk2 1
  obtain ⟨v, hv, hl1, hl2'⟩ := stored22 hb hk hb2 hk2 hne (.int .i64 ax) (.int .i64 ay) (.int .i64 bx) (.int .i64 by_)
  have x0 : (on v).cell? ⟨q, 0, none⟩ = some (.int .i64 ax) := held_cell hl1 0
  have x1 : (on v).cell? ⟨q, 1, none⟩ = some (.int .i64 ay) := held_cell hl1 1
  have y0 : (on v).cell? ⟨q2, 0, none⟩ = some (.int .i64 bx) := held_cell hl2' 0
  have y1 : (on v).cell? ⟨q2, 1, none⟩ = some (.int .i64 by_) := held_cell hl2' 1
  have R0 : (on v).cell? ⟨w.heap.size + 1 + 1, 0, none⟩ = some (.int .u8 0) := by simp [go_sem, c3]
  have R1 : (on v).cell? ⟨w.heap.size + 1 + 1, 1, none⟩ = some (.int .i64 0) := by simp [go_sem, c4]
  have F0 : (on v).frozen? ⟨w.heap.size + 1 + 1, 0, none⟩ = false := by simp [go_sem, c3, f3]
  have F1 : (on v).frozen? ⟨w.heap.size + 1 + 1, 1, none⟩ = false := by simp [go_sem, c4, f4]
  have hB3 : Below w.heap.size w (on v) := below_on hB v
  go_wp2_with fail
  clear hb hb2 hk hk2 hne hne2 e0 e1 e2 e3 g0 g1 g2 g3 hl1 hl2' c0 f0 c1 f1 c2 f2 c3 f3 c4 f4 c5 f5 c6 f6 c7 f7 c8 f8 hB hv PA PB ON
  generalize on v = Wc at *
  clear v
  go_loopw [10] (fun iv wr => ∃ i s0 s1 : Int, iv = .int .u8 i ∧ ((i = 1 ∧ s0 = 0 ∧ 0 = s1) ∨ (i = 2 ∧ s0 = 1 ∧ C = s1) ∨ (i = 3 ∧ s0 = 1 ∧ C = s1) ∨ (i = 4 ∧ s0 = 1 ∧ C = s1) ∨ (i = 5 ∧ s0 = 1 ∧ C = s1)) ∧ ∃ u : Later Wc, wr = on u ∧ (on u).heap[Wc.heap.size]? = some (.cells #[.int .u8 s0, .int .i64 s1] 26)) (fun iv _ => (5 - intOf iv).toNat)
  case atStart => exact ⟨1, 0, 0, rfl, by omega, ⟨_, below_alloc (Below.refl _ _) _⟩, rfl, (MapKept.heap_alloc _ _).1⟩
  case round =>
    obtain ⟨i, s0, s1, rfl, hp, u0, rfl, hh⟩ := hrel
    have n0 : (on u0).cell? ⟨Wc.heap.size, 0, none⟩ = some (.int .u8 s0) := held_cell hh 0
    have n1 : (on u0).cell? ⟨Wc.heap.size, 1, none⟩ = some (.int .i64 s1) := held_cell hh 1
    have nf0 : (on u0).frozen? ⟨Wc.heap.size, 0, none⟩ = false := held_free hh 0
    have nf1 : (on u0).frozen? ⟨Wc.heap.size, 1, none⟩ = false := held_free hh 1
    obtain ⟨rfl, rfl, rfl⟩ | ⟨rfl, rfl, rfl⟩ | ⟨rfl, rfl, rfl⟩ | ⟨rfl, rfl, rfl⟩ | ⟨rfl, rfl, rfl⟩ := hp
    · go_wp2_with (first | (go_at_call 38; with_reducible refine (across_1 _).mono ?_; rintro e wx ⟨rfl, rfl⟩) | fail)
      obtain ⟨u1, hu, hh1⟩ := stored2 (Nat.le_refl _) hh (.int .u8 1) (.int .i64 C)
      first
        | exact ⟨⟨1 + 1, 1, C, rfl, by omega, u1, hu, hh1⟩, by simp [intOf]⟩
        | (refine ⟨?_, by simp [intOf]⟩
           repeat apply Exists.intro
           refine And.intro ?_ rfl
           exact ⟨1 + 1, 1, C, rfl, by omega, u1, hu, hh1⟩)
    · go_wp2_with (first | (go_at_call 38; with_reducible refine (across_2 _).mono ?_; rintro e wx ⟨rfl, rfl⟩) | fail)
      first
        | exact ⟨⟨2 + 1, 1, C, rfl, by omega, u0, rfl, hh⟩, by simp [intOf]⟩
        | (refine ⟨?_, by simp [intOf]⟩
           repeat apply Exists.intro
           refine And.intro ?_ rfl
           exact ⟨2 + 1, 1, C, rfl, by omega, u0, rfl, hh⟩)
    · go_wp2_with (first | (go_at_call 38; with_reducible refine (across_3 _).mono ?_; rintro e wx ⟨rfl, rfl⟩) | fail)
      first
        | exact ⟨⟨3 + 1, 1, C, rfl, by omega, u0, rfl, hh⟩, by simp [intOf]⟩
        | (refine ⟨?_, by simp [intOf]⟩
           repeat apply Exists.intro
           refine And.intro ?_ rfl
           exact ⟨3 + 1, 1, C, rfl, by omega, u0, rfl, hh⟩)
    · go_wp2_with (first | (go_at_call 38; with_reducible refine (across_4 _).mono ?_; rintro e wx ⟨rfl, rfl⟩) | fail)
      first
        | exact ⟨⟨4 + 1, 1, C, rfl, by omega, u0, rfl, hh⟩, by simp [intOf]⟩
        | (refine ⟨?_, by simp [intOf]⟩
           repeat apply Exists.intro
           refine And.intro ?_ rfl
           exact ⟨4 + 1, 1, C, rfl, by omega, u0, rfl, hh⟩)
    · have hB4 : Below w.heap.size w (on u0) := below_on hB3 u0
      go_wp2_with fail
      exact bodyPost_ret (v := ln 1 C) (by simp [results, Tryz.results9, go_sem, R0, R1]) rfl ⟨rfl, (by repeat first | (with_reducible exact hB4) | (with_reducible refine below_on ?_ _) | (with_reducible refine below_alloc ?_ _) | (with_reducible refine below_set ?_ (by simp; try omega) _))⟩

set_option maxRecDepth 100000 in
set_option maxHeartbeats 2000000 in
theorem rline_2 (t X Y k c o1 o2 o3 o4 ax ay bx by_ C : Int) (w : World)
    (ON : ∀ W, Calls Tryz.prog 36 #[ln k c] W fun e w' => e = .returned (.tuple #[pt o1 o2, pt o3 o4]) ∧ Below W.heap.size W w')
    (PA : ∀ W, Calls Tryz.prog 37 #[mv t X Y, pt o1 o2] W fun e w' => e = .returned (pt ax ay) ∧ Below W.heap.size W w')
    (PB : ∀ W, Calls Tryz.prog 37 #[mv t X Y, pt o3 o4] W fun e w' => e = .returned (pt bx by_) ∧ Below W.heap.size W w')
    (a1 : -200000 ≤ ax) (a2 : ax ≤ 200000) (a3 : -200000 ≤ ay) (a4 : ay ≤ 200000) (b1 : -200000 ≤ bx) (b2 : bx ≤ 200000) (b3 : -200000 ≤ by_) (b4 : by_ ≤ 200000)
    (h1 : bx ≠ ax) (h2 : by_ = ay) (h3 : bx + by_ ≠ ax + ay) (h4 : by_ - bx ≠ ay - ax) (hC : ay = 2 * C) :
    Calls Tryz.prog 9 #[mv t X Y, ln k c] w fun e w' => e = .returned (ln 2 C) ∧ Below w.heap.size w w' := by
  have zk1 : (ax == bx) = false := eqf (by omega)
  have zk2 : (ay == by_) = true := eqt (by omega)
  have zk3 : (ax + ay == bx + by_) = false := eqf (by omega)
  have zk4 : (-ax + ay == -bx + by_) = false := eqf (by omega)
  have td : (ay).tdiv 2 = C := td2 (by omega)
  have C1 : -200000 ≤ C := by omega
  have C2 : C ≤ 200000 := by omega
  clear h1 h2 h3 h4 hC
  go_enter Tryz.func9, Tryz.ntmps9
  go_wp2_with (first | (go_at_call 36; with_reducible refine (ON _).mono ?_; rintro e wx ⟨rfl, hx⟩; obtain ⟨ux, rfl⟩ := after hx; clear hx) | fail)
  have hR : Below (((w.alloc (.cells #[.int .u8 t, .int .i64 X, .int .i64 Y] 23)).alloc (.cells #[.int .u8 k, .int .i64 c] 26)).alloc (.cells #[.int .u8 0, .int .i64 0] 26)).heap.size (((w.alloc (.cells #[.int .u8 t, .int .i64 X, .int .i64 Y] 23)).alloc (.cells #[.int .u8 k, .int .i64 c] 26)).alloc (.cells #[.int .u8 0, .int .i64 0] 26)) (((on ux).alloc (.cells #[.int .i64 (o1), .int .i64 (o2)] 47)).alloc (.cells #[.int .i64 (o3), .int .i64 (o4)] 47)) := by repeat first | (with_reducible exact Below.refl _ _) | (with_reducible refine below_on ?_ _) | (with_reducible refine below_alloc ?_ _)
  have c0 : (((on ux).alloc (.cells #[.int .i64 (o1), .int .i64 (o2)] 47)).alloc (.cells #[.int .i64 (o3), .int .i64 (o4)] 47)).cell? ⟨w.heap.size, 0, none⟩ = some (.int .u8 t) := by rw [hR.cell (p := ⟨w.heap.size, 0, none⟩) (by simp [World.size_alloc] <;> omega)]; simp [go_sem]
  have f0 : (((on ux).alloc (.cells #[.int .i64 (o1), .int .i64 (o2)] 47)).alloc (.cells #[.int .i64 (o3), .int .i64 (o4)] 47)).frozen? ⟨w.heap.size, 0, none⟩ = false := by rw [hR.frozen (p := ⟨w.heap.size, 0, none⟩) (by simp [World.size_alloc] <;> omega)]; simp [go_sem]
  have c1 : (((on ux).alloc (.cells #[.int .i64 (o1), .int .i64 (o2)] 47)).alloc (.cells #[.int .i64 (o3), .int .i64 (o4)] 47)).cell? ⟨w.heap.size, 1, none⟩ = some (.int .i64 X) := by rw [hR.cell (p := ⟨w.heap.size, 1, none⟩) (by simp [World.size_alloc] <;> omega)]; simp [go_sem]
  have f1 : (((on ux).alloc (.cells #[.int .i64 (o1), .int .i64 (o2)] 47)).alloc (.cells #[.int .i64 (o3), .int .i64 (o4)] 47)).frozen? ⟨w.heap.size, 1, none⟩ = false := by rw [hR.frozen (p := ⟨w.heap.size, 1, none⟩) (by simp [World.size_alloc] <;> omega)]; simp [go_sem]
  have c2 : (((on ux).alloc (.cells #[.int .i64 (o1), .int .i64 (o2)] 47)).alloc (.cells #[.int .i64 (o3), .int .i64 (o4)] 47)).cell? ⟨w.heap.size, 2, none⟩ = some (.int .i64 Y) := by rw [hR.cell (p := ⟨w.heap.size, 2, none⟩) (by simp [World.size_alloc] <;> omega)]; simp [go_sem]
  have f2 : (((on ux).alloc (.cells #[.int .i64 (o1), .int .i64 (o2)] 47)).alloc (.cells #[.int .i64 (o3), .int .i64 (o4)] 47)).frozen? ⟨w.heap.size, 2, none⟩ = false := by rw [hR.frozen (p := ⟨w.heap.size, 2, none⟩) (by simp [World.size_alloc] <;> omega)]; simp [go_sem]
  have c3 : (((on ux).alloc (.cells #[.int .i64 (o1), .int .i64 (o2)] 47)).alloc (.cells #[.int .i64 (o3), .int .i64 (o4)] 47)).cell? ⟨w.heap.size + 1 + 1, 0, none⟩ = some (.int .u8 0) := by rw [hR.cell (p := ⟨w.heap.size + 1 + 1, 0, none⟩) (by simp [World.size_alloc] <;> omega)]; simp [go_sem]
  have f3 : (((on ux).alloc (.cells #[.int .i64 (o1), .int .i64 (o2)] 47)).alloc (.cells #[.int .i64 (o3), .int .i64 (o4)] 47)).frozen? ⟨w.heap.size + 1 + 1, 0, none⟩ = false := by rw [hR.frozen (p := ⟨w.heap.size + 1 + 1, 0, none⟩) (by simp [World.size_alloc] <;> omega)]; simp [go_sem]
  have c4 : (((on ux).alloc (.cells #[.int .i64 (o1), .int .i64 (o2)] 47)).alloc (.cells #[.int .i64 (o3), .int .i64 (o4)] 47)).cell? ⟨w.heap.size + 1 + 1, 1, none⟩ = some (.int .i64 0) := by rw [hR.cell (p := ⟨w.heap.size + 1 + 1, 1, none⟩) (by simp [World.size_alloc] <;> omega)]; simp [go_sem]
  have f4 : (((on ux).alloc (.cells #[.int .i64 (o1), .int .i64 (o2)] 47)).alloc (.cells #[.int .i64 (o3), .int .i64 (o4)] 47)).frozen? ⟨w.heap.size + 1 + 1, 1, none⟩ = false := by rw [hR.frozen (p := ⟨w.heap.size + 1 + 1, 1, none⟩) (by simp [World.size_alloc] <;> omega)]; simp [go_sem]
  have c5 : (((on ux).alloc (.cells #[.int .i64 (o1), .int .i64 (o2)] 47)).alloc (.cells #[.int .i64 (o3), .int .i64 (o4)] 47)).cell? ⟨(on ux).heap.size, 0, none⟩ = some (.int .i64 (o1)) := by simp [go_sem]
  have f5 : (((on ux).alloc (.cells #[.int .i64 (o1), .int .i64 (o2)] 47)).alloc (.cells #[.int .i64 (o3), .int .i64 (o4)] 47)).frozen? ⟨(on ux).heap.size, 0, none⟩ = false := by simp [go_sem]
  have c6 : (((on ux).alloc (.cells #[.int .i64 (o1), .int .i64 (o2)] 47)).alloc (.cells #[.int .i64 (o3), .int .i64 (o4)] 47)).cell? ⟨(on ux).heap.size, 1, none⟩ = some (.int .i64 (o2)) := by simp [go_sem]
  have f6 : (((on ux).alloc (.cells #[.int .i64 (o1), .int .i64 (o2)] 47)).alloc (.cells #[.int .i64 (o3), .int .i64 (o4)] 47)).frozen? ⟨(on ux).heap.size, 1, none⟩ = false := by simp [go_sem]
  have c7 : (((on ux).alloc (.cells #[.int .i64 (o1), .int .i64 (o2)] 47)).alloc (.cells #[.int .i64 (o3), .int .i64 (o4)] 47)).cell? ⟨(on ux).heap.size + 1, 0, none⟩ = some (.int .i64 (o3)) := by simp [go_sem]
  have f7 : (((on ux).alloc (.cells #[.int .i64 (o1), .int .i64 (o2)] 47)).alloc (.cells #[.int .i64 (o3), .int .i64 (o4)] 47)).frozen? ⟨(on ux).heap.size + 1, 0, none⟩ = false := by simp [go_sem]
  have c8 : (((on ux).alloc (.cells #[.int .i64 (o1), .int .i64 (o2)] 47)).alloc (.cells #[.int .i64 (o3), .int .i64 (o4)] 47)).cell? ⟨(on ux).heap.size + 1, 1, none⟩ = some (.int .i64 (o4)) := by simp [go_sem]
  have f8 : (((on ux).alloc (.cells #[.int .i64 (o1), .int .i64 (o2)] 47)).alloc (.cells #[.int .i64 (o3), .int .i64 (o4)] 47)).frozen? ⟨(on ux).heap.size + 1, 1, none⟩ = false := by simp [go_sem]
  have hZ : Below (((w.alloc (.cells #[.int .u8 t, .int .i64 X, .int .i64 Y] 23)).alloc (.cells #[.int .u8 k, .int .i64 c] 26)).alloc (.cells #[.int .u8 0, .int .i64 0] 26)).heap.size (((w.alloc (.cells #[.int .u8 t, .int .i64 X, .int .i64 Y] 23)).alloc (.cells #[.int .u8 k, .int .i64 c] 26)).alloc (.cells #[.int .u8 0, .int .i64 0] 26)) (on ux) := by repeat first | (with_reducible exact Below.refl _ _) | (with_reducible refine below_on ?_ _) | (with_reducible refine below_alloc ?_ _)
  have z0 : w.heap.size < (on ux).heap.size := Nat.lt_of_lt_of_le (show w.heap.size < (((w.alloc (.cells #[.int .u8 t, .int .i64 X, .int .i64 Y] 23)).alloc (.cells #[.int .u8 k, .int .i64 c] 26)).alloc (.cells #[.int .u8 0, .int .i64 0] 26)).heap.size by simp [World.size_alloc] <;> omega) hZ.size
  have z1 : w.heap.size + 1 + 1 < (on ux).heap.size := Nat.lt_of_lt_of_le (show w.heap.size + 1 + 1 < (((w.alloc (.cells #[.int .u8 t, .int .i64 X, .int .i64 Y] 23)).alloc (.cells #[.int .u8 k, .int .i64 c] 26)).alloc (.cells #[.int .u8 0, .int .i64 0] 26)).heap.size by simp [World.size_alloc] <;> omega) hZ.size
  clear hZ
  have hB : Below w.heap.size w (((on ux).alloc (.cells #[.int .i64 (o1), .int .i64 (o2)] 47)).alloc (.cells #[.int .i64 (o3), .int .i64 (o4)] 47)) := by repeat first | (with_reducible exact Below.refl _ _) | (with_reducible refine below_on ?_ _) | (with_reducible refine below_alloc ?_ _)
  clear hR
  generalize (((on ux).alloc (.cells #[.int .i64 (o1), .int .i64 (o2)] 47)).alloc (.cells #[.int .i64 (o3), .int .i64 (o4)] 47)) = Wn at *
  generalize (on ux).heap.size = Bn at *
  clear ux
  refine region_free2 8 6 7 47 7 8 47 _ _ (by kernel_rfl) (by kernel_rfl) (by decide) (by kernel_rfl) alloc26 (by kernel_rfl) alloc26 ?_
  simp only [List.take_succ_cons, List.take_zero, List.drop_succ_cons, List.drop_zero]
  repeat (first
    | (refine wpLex_plain (by rfl) (by rfl) (by rfl) (fun K hK => ?_); go_big_quiet_op; refine hK _ ?_; clear hK K)
    | (refine wpLex_call (by rfl) (by rfl) (fun K hK => ?_); go_simp; apply Exists.intro; refine ⟨fun _ => ?_, hK _ ?_⟩; ((first | (go_at_call 37; with_reducible exact Calls.laterL (PA _)) | (go_at_call 37; with_reducible exact Calls.laterL (PB _)))); clear hK K)
    | (refine wpLex_new (by rfl) ?_; simp only [Act.put, List.setIfInBounds_toArray, List.set_cons_zero, List.set_cons_succ]))
  refine wpLex_nil ?_
  intro q q2 u hb hk hb2 hk2 hne
  simp only [Act.put, List.setIfInBounds_toArray, List.set_cons_zero, List.set_cons_succ]
  have hne2 : q2 ≠ q := Ne.symm hne
  have e0 : (on u).cell? ⟨q, 0, none⟩ = some (.int .i64 0) := held_cell hk 0
  have e1 : (on u).cell? ⟨q, 1, none⟩ = some (.int .i64 0) := held_cell hk 1
  have g0 : (on u).frozen? ⟨q, 0, none⟩ = false := held_free hk 0
  have g1 : (on u).frozen? ⟨q, 1, none⟩ = false := held_free hk 1
  have e2 : ∀ v v', (((on u).setCell ⟨q, 0, none⟩ v).setCell ⟨q, 1, none⟩ v').cell? ⟨q2, 0, none⟩ = some (.int .i64 0) := fun v v' => held_cell (held_set_other (held_set_other hk2 hne2 _ _) hne2 _ _) 0
  have e3 : ∀ v v', (((on u).setCell ⟨q, 0, none⟩ v).setCell ⟨q, 1, none⟩ v').cell? ⟨q2, 1, none⟩ = some (.int .i64 0) := fun v v' => held_cell (held_set_other (held_set_other hk2 hne2 _ _) hne2 _ _) 1
  have g2 : (on u).frozen? ⟨q2, 0, none⟩ = false := held_free hk2 0
  have g3 : (on u).frozen? ⟨q2, 1, none⟩ = false := held_free hk2 1
  obtain ⟨v, hv, hl1, hl2'⟩ := stored22 hb hk hb2 hk2 hne (.int .i64 ax) (.int .i64 ay) (.int .i64 bx) (.int .i64 by_)
  have x0 : (on v).cell? ⟨q, 0, none⟩ = some (.int .i64 ax) := held_cell hl1 0
  have x1 : (on v).cell? ⟨q, 1, none⟩ = some (.int .i64 ay) := held_cell hl1 1
  have y0 : (on v).cell? ⟨q2, 0, none⟩ = some (.int .i64 bx) := held_cell hl2' 0
  have y1 : (on v).cell? ⟨q2, 1, none⟩ = some (.int .i64 by_) := held_cell hl2' 1
  have R0 : (on v).cell? ⟨w.heap.size + 1 + 1, 0, none⟩ = some (.int .u8 0) := by simp [go_sem, c3]
  have R1 : (on v).cell? ⟨w.heap.size + 1 + 1, 1, none⟩ = some (.int .i64 0) := by simp [go_sem, c4]
  have F0 : (on v).frozen? ⟨w.heap.size + 1 + 1, 0, none⟩ = false := by simp [go_sem, c3, f3]
  have F1 : (on v).frozen? ⟨w.heap.size + 1 + 1, 1, none⟩ = false := by simp [go_sem, c4, f4]
  have hB3 : Below w.heap.size w (on v) := below_on hB v
  go_wp2_with fail
  clear hb hb2 hk hk2 hne hne2 e0 e1 e2 e3 g0 g1 g2 g3 hl1 hl2' c0 f0 c1 f1 c2 f2 c3 f3 c4 f4 c5 f5 c6 f6 c7 f7 c8 f8 hB hv PA PB ON
  generalize on v = Wc at *
  clear v
  go_loopw [10] (fun iv wr => ∃ i s0 s1 : Int, iv = .int .u8 i ∧ ((i = 1 ∧ s0 = 0 ∧ 0 = s1) ∨ (i = 2 ∧ s0 = 0 ∧ 0 = s1) ∨ (i = 3 ∧ s0 = 2 ∧ C = s1) ∨ (i = 4 ∧ s0 = 2 ∧ C = s1) ∨ (i = 5 ∧ s0 = 2 ∧ C = s1)) ∧ ∃ u : Later Wc, wr = on u ∧ (on u).heap[Wc.heap.size]? = some (.cells #[.int .u8 s0, .int .i64 s1] 26)) (fun iv _ => (5 - intOf iv).toNat)
  case atStart => exact ⟨1, 0, 0, rfl, by omega, ⟨_, below_alloc (Below.refl _ _) _⟩, rfl, (MapKept.heap_alloc _ _).1⟩
  case round =>
    obtain ⟨i, s0, s1, rfl, hp, u0, rfl, hh⟩ := hrel
    have n0 : (on u0).cell? ⟨Wc.heap.size, 0, none⟩ = some (.int .u8 s0) := held_cell hh 0
    have n1 : (on u0).cell? ⟨Wc.heap.size, 1, none⟩ = some (.int .i64 s1) := held_cell hh 1
    have nf0 : (on u0).frozen? ⟨Wc.heap.size, 0, none⟩ = false := held_free hh 0
    have nf1 : (on u0).frozen? ⟨Wc.heap.size, 1, none⟩ = false := held_free hh 1
    obtain ⟨rfl, rfl, rfl⟩ | ⟨rfl, rfl, rfl⟩ | ⟨rfl, rfl, rfl⟩ | ⟨rfl, rfl, rfl⟩ | ⟨rfl, rfl, rfl⟩ := hp
    · go_wp2_with (first | (go_at_call 38; with_reducible refine (across_1 _).mono ?_; rintro e wx ⟨rfl, rfl⟩) | fail)
      first
        | exact ⟨⟨1 + 1, 0, 0, rfl, by omega, u0, rfl, hh⟩, by simp [intOf]⟩
        | (refine ⟨?_, by simp [intOf]⟩
           repeat apply Exists.intro
           refine And.intro ?_ rfl
           exact ⟨1 + 1, 0, 0, rfl, by omega, u0, rfl, hh⟩)
    · go_wp2_with (first | (go_at_call 38; with_reducible refine (across_2 _).mono ?_; rintro e wx ⟨rfl, rfl⟩) | fail)
      obtain ⟨u1, hu, hh1⟩ := stored2 (Nat.le_refl _) hh (.int .u8 2) (.int .i64 C)
      first
        | exact ⟨⟨2 + 1, 2, C, rfl, by omega, u1, hu, hh1⟩, by simp [intOf]⟩
        | (refine ⟨?_, by simp [intOf]⟩
           repeat apply Exists.intro
           refine And.intro ?_ rfl
           exact ⟨2 + 1, 2, C, rfl, by omega, u1, hu, hh1⟩)
    · go_wp2_with (first | (go_at_call 38; with_reducible refine (across_3 _).mono ?_; rintro e wx ⟨rfl, rfl⟩) | fail)
      first
        | exact ⟨⟨3 + 1, 2, C, rfl, by omega, u0, rfl, hh⟩, by simp [intOf]⟩
        | (refine ⟨?_, by simp [intOf]⟩
           repeat apply Exists.intro
           refine And.intro ?_ rfl
           exact ⟨3 + 1, 2, C, rfl, by omega, u0, rfl, hh⟩)
    · go_wp2_with (first | (go_at_call 38; with_reducible refine (across_4 _).mono ?_; rintro e wx ⟨rfl, rfl⟩) | fail)
      first
        | exact ⟨⟨4 + 1, 2, C, rfl, by omega, u0, rfl, hh⟩, by simp [intOf]⟩
        | (refine ⟨?_, by simp [intOf]⟩
           repeat apply Exists.intro
           refine And.intro ?_ rfl
           exact ⟨4 + 1, 2, C, rfl, by omega, u0, rfl, hh⟩)
    · have hB4 : Below w.heap.size w (on u0) := below_on hB3 u0
      go_wp2_with fail
      exact bodyPost_ret (v := ln 2 C) (by simp [results, Tryz.results9, go_sem, R0, R1]) rfl ⟨rfl, (by repeat first | (with_reducible exact hB4) | (with_reducible refine below_on ?_ _) | (with_reducible refine below_alloc ?_ _) | (with_reducible refine below_set ?_ (by simp; try omega) _))⟩

set_option maxRecDepth 100000 in
set_option maxHeartbeats 2000000 in
theorem rline_3 (t X Y k c o1 o2 o3 o4 ax ay bx by_ C : Int) (w : World)
    (ON : ∀ W, Calls Tryz.prog 36 #[ln k c] W fun e w' => e = .returned (.tuple #[pt o1 o2, pt o3 o4]) ∧ Below W.heap.size W w')
    (PA : ∀ W, Calls Tryz.prog 37 #[mv t X Y, pt o1 o2] W fun e w' => e = .returned (pt ax ay) ∧ Below W.heap.size W w')
    (PB : ∀ W, Calls Tryz.prog 37 #[mv t X Y, pt o3 o4] W fun e w' => e = .returned (pt bx by_) ∧ Below W.heap.size W w')
    (a1 : -200000 ≤ ax) (a2 : ax ≤ 200000) (a3 : -200000 ≤ ay) (a4 : ay ≤ 200000) (b1 : -200000 ≤ bx) (b2 : bx ≤ 200000) (b3 : -200000 ≤ by_) (b4 : by_ ≤ 200000)
    (h1 : bx ≠ ax) (h2 : by_ ≠ ay) (h3 : bx + by_ = ax + ay) (h4 : by_ - bx ≠ ay - ax) (hC : ax + ay = 2 * C) :
    Calls Tryz.prog 9 #[mv t X Y, ln k c] w fun e w' => e = .returned (ln 3 C) ∧ Below w.heap.size w w' := by
  have zk1 : (ax == bx) = false := eqf (by omega)
  have zk2 : (ay == by_) = false := eqf (by omega)
  have zk3 : (ax + ay == bx + by_) = true := eqt (by omega)
  have zk4 : (-ax + ay == -bx + by_) = false := eqf (by omega)
  have td : (ax + ay).tdiv 2 = C := td2 (by omega)
  have C1 : -200000 ≤ C := by omega
  have C2 : C ≤ 200000 := by omega
  clear h1 h2 h3 h4 hC
  go_enter Tryz.func9, Tryz.ntmps9
  go_wp2_with (first | (go_at_call 36; with_reducible refine (ON _).mono ?_; rintro e wx ⟨rfl, hx⟩; obtain ⟨ux, rfl⟩ := after hx; clear hx) | fail)
  have hR : Below (((w.alloc (.cells #[.int .u8 t, .int .i64 X, .int .i64 Y] 23)).alloc (.cells #[.int .u8 k, .int .i64 c] 26)).alloc (.cells #[.int .u8 0, .int .i64 0] 26)).heap.size (((w.alloc (.cells #[.int .u8 t, .int .i64 X, .int .i64 Y] 23)).alloc (.cells #[.int .u8 k, .int .i64 c] 26)).alloc (.cells #[.int .u8 0, .int .i64 0] 26)) (((on ux).alloc (.cells #[.int .i64 (o1), .int .i64 (o2)] 47)).alloc (.cells #[.int .i64 (o3), .int .i64 (o4)] 47)) := by repeat first | (with_reducible exact Below.refl _ _) | (with_reducible refine below_on ?_ _) | (with_reducible refine below_alloc ?_ _)
  have c0 : (((on ux).alloc (.cells #[.int .i64 (o1), .int .i64 (o2)] 47)).alloc (.cells #[.int .i64 (o3), .int .i64 (o4)] 47)).cell? ⟨w.heap.size, 0, none⟩ = some (.int .u8 t) := by rw [hR.cell (p := ⟨w.heap.size, 0, none⟩) (by simp [World.size_alloc] <;> omega)]; simp [go_sem]
  have f0 : (((on ux).alloc (.cells #[.int .i64 (o1), .int .i64 (o2)] 47)).alloc (.cells #[.int .i64 (o3), .int .i64 (o4)] 47)).frozen? ⟨w.heap.size, 0, none⟩ = false := by rw [hR.frozen (p := ⟨w.heap.size, 0, none⟩) (by simp [World.size_alloc] <;> omega)]; simp [go_sem]
  have c1 : (((on ux).alloc (.cells #[.int .i64 (o1), .int .i64 (o2)] 47)).alloc (.cells #[.int .i64 (o3), .int .i64 (o4)] 47)).cell? ⟨w.heap.size, 1, none⟩ = some (.int .i64 X) := by rw [hR.cell (p := ⟨w.heap.size, 1, none⟩) (by simp [World.size_alloc] <;> omega)]; simp [go_sem]
  have f1 : (((on ux).alloc (.cells #[.int .i64 (o1), .int .i64 (o2)] 47)).alloc (.cells #[.int .i64 (o3), .int .i64 (o4)] 47)).frozen? ⟨w.heap.size, 1, none⟩ = false := by rw [hR.frozen (p := ⟨w.heap.size, 1, none⟩) (by simp [World.size_alloc] <;> omega)]; simp [go_sem]
  have c2 : (((on ux).alloc (.cells #[.int .i64 (o1), .int .i64 (o2)] 47)).alloc (.cells #[.int .i64 (o3), .int .i64 (o4)] 47)).cell? ⟨w.heap.size, 2, none⟩ = some (.int .i64 Y) := by rw [hR.cell (p := ⟨w.heap.size, 2, none⟩) (by simp [World.size_alloc] <;> omega)]; simp [go_sem]
  have f2 : (((on ux).alloc (.cells #[.int .i64 (o1), .int .i64 (o2)] 47)).alloc (.cells #[.int .i64 (o3), .int .i64 (o4)] 47)).frozen? ⟨w.heap.size, 2, none⟩ = false := by rw [hR.frozen (p := ⟨w.heap.size, 2, none⟩) (by simp [World.size_alloc] <;> omega)]; simp [go_sem]
  have c3 : (((on ux).alloc (.cells #[.int .i64 (o1), .int .i64 (o2)] 47)).alloc (.cells #[.int .i64 (o3), .int .i64 (o4)] 47)).cell? ⟨w.heap.size + 1 + 1, 0, none⟩ = some (.int .u8 0) := by rw [hR.cell (p := ⟨w.heap.size + 1 + 1, 0, none⟩) (by simp [World.size_alloc] <;> omega)]; simp [go_sem]
  have f3 : (((on ux).alloc (.cells #[.int .i64 (o1), .int .i64 (o2)] 47)).alloc (.cells #[.int .i64 (o3), .int .i64 (o4)] 47)).frozen? ⟨w.heap.size + 1 + 1, 0, none⟩ = false := by rw [hR.frozen (p := ⟨w.heap.size + 1 + 1, 0, none⟩) (by simp [World.size_alloc] <;> omega)]; simp [go_sem]
  have c4 : (((on ux).alloc (.cells #[.int .i64 (o1), .int .i64 (o2)] 47)).alloc (.cells #[.int .i64 (o3), .int .i64 (o4)] 47)).cell? ⟨w.heap.size + 1 + 1, 1, none⟩ = some (.int .i64 0) := by rw [hR.cell (p := ⟨w.heap.size + 1 + 1, 1, none⟩) (by simp [World.size_alloc] <;> omega)]; simp [go_sem]
  have f4 : (((on ux).alloc (.cells #[.int .i64 (o1), .int .i64 (o2)] 47)).alloc (.cells #[.int .i64 (o3), .int .i64 (o4)] 47)).frozen? ⟨w.heap.size + 1 + 1, 1, none⟩ = false := by rw [hR.frozen (p := ⟨w.heap.size + 1 + 1, 1, none⟩) (by simp [World.size_alloc] <;> omega)]; simp [go_sem]
  have c5 : (((on ux).alloc (.cells #[.int .i64 (o1), .int .i64 (o2)] 47)).alloc (.cells #[.int .i64 (o3), .int .i64 (o4)] 47)).cell? ⟨(on ux).heap.size, 0, none⟩ = some (.int .i64 (o1)) := by simp [go_sem]
  have f5 : (((on ux).alloc (.cells #[.int .i64 (o1), .int .i64 (o2)] 47)).alloc (.cells #[.int .i64 (o3), .int .i64 (o4)] 47)).frozen? ⟨(on ux).heap.size, 0, none⟩ = false := by simp [go_sem]
  have c6 : (((on ux).alloc (.cells #[.int .i64 (o1), .int .i64 (o2)] 47)).alloc (.cells #[.int .i64 (o3), .int .i64 (o4)] 47)).cell? ⟨(on ux).heap.size, 1, none⟩ = some (.int .i64 (o2)) := by simp [go_sem]
  have f6 : (((on ux).alloc (.cells #[.int .i64 (o1), .int .i64 (o2)] 47)).alloc (.cells #[.int .i64 (o3), .int .i64 (o4)] 47)).frozen? ⟨(on ux).heap.size, 1, none⟩ = false := by simp [go_sem]
  have c7 : (((on ux).alloc (.cells #[.int .i64 (o1), .int .i64 (o2)] 47)).alloc (.cells #[.int .i64 (o3), .int .i64 (o4)] 47)).cell? ⟨(on ux).heap.size + 1, 0, none⟩ = some (.int .i64 (o3)) := by simp [go_sem]
  have f7 : (((on ux).alloc (.cells #[.int .i64 (o1), .int .i64 (o2)] 47)).alloc (.cells #[.int .i64 (o3), .int .i64 (o4)] 47)).frozen? ⟨(on ux).heap.size + 1, 0, none⟩ = false := by simp [go_sem]
  have c8 : (((on ux).alloc (.cells #[.int .i64 (o1), .int .i64 (o2)] 47)).alloc (.cells #[.int .i64 (o3), .int .i64 (o4)] 47)).cell? ⟨(on ux).heap.size + 1, 1, none⟩ = some (.int .i64 (o4)) := by simp [go_sem]
  have f8 : (((on ux).alloc (.cells #[.int .i64 (o1), .int .i64 (o2)] 47)).alloc (.cells #[.int .i64 (o3), .int .i64 (o4)] 47)).frozen? ⟨(on ux).heap.size + 1, 1, none⟩ = false := by simp [go_sem]
  have hZ : Below (((w.alloc (.cells #[.int .u8 t, .int .i64 X, .int .i64 Y] 23)).alloc (.cells #[.int .u8 k, .int .i64 c] 26)).alloc (.cells #[.int .u8 0, .int .i64 0] 26)).heap.size (((w.alloc (.cells #[.int .u8 t, .int .i64 X, .int .i64 Y] 23)).alloc (.cells #[.int .u8 k, .int .i64 c] 26)).alloc (.cells #[.int .u8 0, .int .i64 0] 26)) (on ux) := by repeat first | (with_reducible exact Below.refl _ _) | (with_reducible refine below_on ?_ _) | (with_reducible refine below_alloc ?_ _)
  have z0 : w.heap.size < (on ux).heap.size := Nat.lt_of_lt_of_le (show w.heap.size < (((w.alloc (.cells #[.int .u8 t, .int .i64 X, .int .i64 Y] 23)).alloc (.cells #[.int .u8 k, .int .i64 c] 26)).alloc (.cells #[.int .u8 0, .int .i64 0] 26)).heap.size by simp [World.size_alloc] <;> omega) hZ.size
  have z1 : w.heap.size + 1 + 1 < (on ux).heap.size := Nat.lt_of_lt_of_le (show w.heap.size + 1 + 1 < (((w.alloc (.cells #[.int .u8 t, .int .i64 X, .int .i64 Y] 23)).alloc (.cells #[.int .u8 k, .int .i64 c] 26)).alloc (.cells #[.int .u8 0, .int .i64 0] 26)).heap.size by simp [World.size_alloc] <;> omega) hZ.size
  clear hZ
  have hB : Below w.heap.size w (((on ux).alloc (.cells #[.int .i64 (o1), .int .i64 (o2)] 47)).alloc (.cells #[.int .i64 (o3), .int .i64 (o4)] 47)) := by repeat first | (with_reducible exact Below.refl _ _) | (with_reducible refine below_on ?_ _) | (with_reducible refine below_alloc ?_ _)
  clear hR
  generalize (((on ux).alloc (.cells #[.int .i64 (o1), .int .i64 (o2)] 47)).alloc (.cells #[.int .i64 (o3), .int .i64 (o4)] 47)) = Wn at *
  generalize (on ux).heap.size = Bn at *
  clear ux
  refine region_free2 8 6 7 47 7 8 47 _ _ (by kernel_rfl) (by kernel_rfl) (by decide) (by kernel_rfl) alloc26 (by kernel_rfl) alloc26 ?_
  simp only [List.take_succ_cons, List.take_zero, List.drop_succ_cons, List.drop_zero]
  repeat (first
    | (refine wpLex_plain (by rfl) (by rfl) (by rfl) (fun K hK => ?_); go_big_quiet_op; refine hK _ ?_; clear hK K)
    | (refine wpLex_call (by rfl) (by rfl) (fun K hK => ?_); go_simp; apply Exists.intro; refine ⟨fun _ => ?_, hK _ ?_⟩; ((first | (go_at_call 37; with_reducible exact Calls.laterL (PA _)) | (go_at_call 37; with_reducible exact Calls.laterL (PB _)))); clear hK K)
    | (refine wpLex_new (by rfl) ?_; simp only [Act.put, List.setIfInBounds_toArray, List.set_cons_zero, List.set_cons_succ]))
  refine wpLex_nil ?_
  intro q q2 u hb hk hb2 hk2 hne
  simp only [Act.put, List.setIfInBounds_toArray, List.set_cons_zero, List.set_cons_succ]
  have hne2 : q2 ≠ q := Ne.symm hne
  have e0 : (on u).cell? ⟨q, 0, none⟩ = some (.int .i64 0) := held_cell hk 0
  have e1 : (on u).cell? ⟨q, 1, none⟩ = some (.int .i64 0) := held_cell hk 1
  have g0 : (on u).frozen? ⟨q, 0, none⟩ = false := held_free hk 0
  have g1 : (on u).frozen? ⟨q, 1, none⟩ = false := held_free hk 1
  have e2 : ∀ v v', (((on u).setCell ⟨q, 0, none⟩ v).setCell ⟨q, 1, none⟩ v').cell? ⟨q2, 0, none⟩ = some (.int .i64 0) := fun v v' => held_cell (held_set_other (held_set_other hk2 hne2 _ _) hne2 _ _) 0
  have e3 : ∀ v v', (((on u).setCell ⟨q, 0, none⟩ v).setCell ⟨q, 1, none⟩ v').cell? ⟨q2, 1, none⟩ = some (.int .i64 0) := fun v v' => held_cell (held_set_other (held_set_other hk2 hne2 _ _) hne2 _ _) 1
  have g2 : (on u).frozen? ⟨q2, 0, none⟩ = false := held_free hk2 0
  have g3 : (on u).frozen? ⟨q2, 1, none⟩ = false := held_free hk2 1
  obtain ⟨v, hv, hl1, hl2'⟩ := stored22 hb hk hb2 hk2 hne (.int .i64 ax) (.int .i64 ay) (.int .i64 bx) (.int .i64 by_)
  have x0 : (on v).cell? ⟨q, 0, none⟩ = some (.int .i64 ax) := held_cell hl1 0
  have x1 : (on v).cell? ⟨q, 1, none⟩ = some (.int .i64 ay) := held_cell hl1 1
  have y0 : (on v).cell? ⟨q2, 0, none⟩ = some (.int .i64 bx) := held_cell hl2' 0
  have y1 : (on v).cell? ⟨q2, 1, none⟩ = some (.int .i64 by_) := held_cell hl2' 1
  have R0 : (on v).cell? ⟨w.heap.size + 1 + 1, 0, none⟩ = some (.int .u8 0) := by simp [go_sem, c3]
  have R1 : (on v).cell? ⟨w.heap.size + 1 + 1, 1, none⟩ = some (.int .i64 0) := by simp [go_sem, c4]
  have F0 : (on v).frozen? ⟨w.heap.size + 1 + 1, 0, none⟩ = false := by simp [go_sem, c3, f3]
  have F1 : (on v).frozen? ⟨w.heap.size + 1 + 1, 1, none⟩ = false := by simp [go_sem, c4, f4]
  have hB3 : Below w.heap.size w (on v) := below_on hB v
  go_wp2_with fail
  clear hb hb2 hk hk2 hne hne2 e0 e1 e2 e3 g0 g1 g2 g3 hl1 hl2' c0 f0 c1 f1 c2 f2 c3 f3 c4 f4 c5 f5 c6 f6 c7 f7 c8 f8 hB hv PA PB ON
  generalize on v = Wc at *
  clear v
  go_loopw [10] (fun iv wr => ∃ i s0 s1 : Int, iv = .int .u8 i ∧ ((i = 1 ∧ s0 = 0 ∧ 0 = s1) ∨ (i = 2 ∧ s0 = 0 ∧ 0 = s1) ∨ (i = 3 ∧ s0 = 0 ∧ 0 = s1) ∨ (i = 4 ∧ s0 = 3 ∧ C = s1) ∨ (i = 5 ∧ s0 = 3 ∧ C = s1)) ∧ ∃ u : Later Wc, wr = on u ∧ (on u).heap[Wc.heap.size]? = some (.cells #[.int .u8 s0, .int .i64 s1] 26)) (fun iv _ => (5 - intOf iv).toNat)
  case atStart => exact ⟨1, 0, 0, rfl, by omega, ⟨_, below_alloc (Below.refl _ _) _⟩, rfl, (MapKept.heap_alloc _ _).1⟩
  case round =>
    obtain ⟨i, s0, s1, rfl, hp, u0, rfl, hh⟩ := hrel
    have n0 : (on u0).cell? ⟨Wc.heap.size, 0, none⟩ = some (.int .u8 s0) := held_cell hh 0
    have n1 : (on u0).cell? ⟨Wc.heap.size, 1, none⟩ = some (.int .i64 s1) := held_cell hh 1
    have nf0 : (on u0).frozen? ⟨Wc.heap.size, 0, none⟩ = false := held_free hh 0
    have nf1 : (on u0).frozen? ⟨Wc.heap.size, 1, none⟩ = false := held_free hh 1
    obtain ⟨rfl, rfl, rfl⟩ | ⟨rfl, rfl, rfl⟩ | ⟨rfl, rfl, rfl⟩ | ⟨rfl, rfl, rfl⟩ | ⟨rfl, rfl, rfl⟩ := hp
    · go_wp2_with (first | (go_at_call 38; with_reducible refine (across_1 _).mono ?_; rintro e wx ⟨rfl, rfl⟩) | fail)
      first
        | exact ⟨⟨1 + 1, 0, 0, rfl, by omega, u0, rfl, hh⟩, by simp [intOf]⟩
        | (refine ⟨?_, by simp [intOf]⟩
           repeat apply Exists.intro
           refine And.intro ?_ rfl
           exact ⟨1 + 1, 0, 0, rfl, by omega, u0, rfl, hh⟩)
    · go_wp2_with (first | (go_at_call 38; with_reducible refine (across_2 _).mono ?_; rintro e wx ⟨rfl, rfl⟩) | fail)
      first
        | exact ⟨⟨2 + 1, 0, 0, rfl, by omega, u0, rfl, hh⟩, by simp [intOf]⟩
        | (refine ⟨?_, by simp [intOf]⟩
           repeat apply Exists.intro
           refine And.intro ?_ rfl
           exact ⟨2 + 1, 0, 0, rfl, by omega, u0, rfl, hh⟩)
    · go_wp2_with (first | (go_at_call 38; with_reducible refine (across_3 _).mono ?_; rintro e wx ⟨rfl, rfl⟩) | fail)
      obtain ⟨u1, hu, hh1⟩ := stored2 (Nat.le_refl _) hh (.int .u8 3) (.int .i64 C)
      first
        | exact ⟨⟨3 + 1, 3, C, rfl, by omega, u1, hu, hh1⟩, by simp [intOf]⟩
        | (refine ⟨?_, by simp [intOf]⟩
           repeat apply Exists.intro
           refine And.intro ?_ rfl
           exact ⟨3 + 1, 3, C, rfl, by omega, u1, hu, hh1⟩)
    · go_wp2_with (first | (go_at_call 38; with_reducible refine (across_4 _).mono ?_; rintro e wx ⟨rfl, rfl⟩) | fail)
      first
        | exact ⟨⟨4 + 1, 3, C, rfl, by omega, u0, rfl, hh⟩, by simp [intOf]⟩
        | (refine ⟨?_, by simp [intOf]⟩
           repeat apply Exists.intro
           refine And.intro ?_ rfl
           exact ⟨4 + 1, 3, C, rfl, by omega, u0, rfl, hh⟩)
    · have hB4 : Below w.heap.size w (on u0) := below_on hB3 u0
      go_wp2_with fail
      exact bodyPost_ret (v := ln 3 C) (by simp [results, Tryz.results9, go_sem, R0, R1]) rfl ⟨rfl, (by repeat first | (with_reducible exact hB4) | (with_reducible refine below_on ?_ _) | (with_reducible refine below_alloc ?_ _) | (with_reducible refine below_set ?_ (by simp; try omega) _))⟩

set_option maxRecDepth 100000 in
set_option maxHeartbeats 2000000 in
theorem rline_4 (t X Y k c o1 o2 o3 o4 ax ay bx by_ C : Int) (w : World)
    (ON : ∀ W, Calls Tryz.prog 36 #[ln k c] W fun e w' => e = .returned (.tuple #[pt o1 o2, pt o3 o4]) ∧ Below W.heap.size W w')
    (PA : ∀ W, Calls Tryz.prog 37 #[mv t X Y, pt o1 o2] W fun e w' => e = .returned (pt ax ay) ∧ Below W.heap.size W w')
    (PB : ∀ W, Calls Tryz.prog 37 #[mv t X Y, pt o3 o4] W fun e w' => e = .returned (pt bx by_) ∧ Below W.heap.size W w')
    (a1 : -200000 ≤ ax) (a2 : ax ≤ 200000) (a3 : -200000 ≤ ay) (a4 : ay ≤ 200000) (b1 : -200000 ≤ bx) (b2 : bx ≤ 200000) (b3 : -200000 ≤ by_) (b4 : by_ ≤ 200000)
    (h1 : bx ≠ ax) (h2 : by_ ≠ ay) (h3 : bx + by_ ≠ ax + ay) (h4 : by_ - bx = ay - ax) (hC : ay - ax = 2 * C) :
    Calls Tryz.prog 9 #[mv t X Y, ln k c] w fun e w' => e = .returned (ln 4 C) ∧ Below w.heap.size w w' := by
  have zk1 : (ax == bx) = false := eqf (by omega)
  have zk2 : (ay == by_) = false := eqf (by omega)
  have zk3 : (ax + ay == bx + by_) = false := eqf (by omega)
  have zk4 : (-ax + ay == -bx + by_) = true := eqt (by omega)
  have td : (-ax + ay).tdiv 2 = C := td2 (by omega)
  have C1 : -200000 ≤ C := by omega
  have C2 : C ≤ 200000 := by omega
  clear h1 h2 h3 h4 hC
  go_enter Tryz.func9, Tryz.ntmps9
  go_wp2_with (first | (go_at_call 36; with_reducible refine (ON _).mono ?_; rintro e wx ⟨rfl, hx⟩; obtain ⟨ux, rfl⟩ := after hx; clear hx) | fail)
  have hR : Below (((w.alloc (.cells #[.int .u8 t, .int .i64 X, .int .i64 Y] 23)).alloc (.cells #[.int .u8 k, .int .i64 c] 26)).alloc (.cells #[.int .u8 0, .int .i64 0] 26)).heap.size (((w.alloc (.cells #[.int .u8 t, .int .i64 X, .int .i64 Y] 23)).alloc (.cells #[.int .u8 k, .int .i64 c] 26)).alloc (.cells #[.int .u8 0, .int .i64 0] 26)) (((on ux).alloc (.cells #[.int .i64 (o1), .int .i64 (o2)] 47)).alloc (.cells #[.int .i64 (o3), .int .i64 (o4)] 47)) := by repeat first | (with_reducible exact Below.refl _ _) | (with_reducible refine below_on ?_ _) | (with_reducible refine below_alloc ?_ _)
  have c0 : (((on ux).alloc (.cells #[.int .i64 (o1), .int .i64 (o2)] 47)).alloc (.cells #[.int .i64 (o3), .int .i64 (o4)] 47)).cell? ⟨w.heap.size, 0, none⟩ = some (.int .u8 t) := by rw [hR.cell (p := ⟨w.heap.size, 0, none⟩) (by simp [World.size_alloc] <;> omega)]; simp [go_sem]
  have f0 : (((on ux).alloc (.cells #[.int .i64 (o1), .int .i64 (o2)] 47)).alloc (.cells #[.int .i64 (o3), .int .i64 (o4)] 47)).frozen? ⟨w.heap.size, 0, none⟩ = false := by rw [hR.frozen (p := ⟨w.heap.size, 0, none⟩) (by simp [World.size_alloc] <;> omega)]; simp [go_sem]
  have c1 : (((on ux).alloc (.cells #[.int .i64 (o1), .int .i64 (o2)] 47)).alloc (.cells #[.int .i64 (o3), .int .i64 (o4)] 47)).cell? ⟨w.heap.size, 1, none⟩ = some (.int .i64 X) := by rw [hR.cell (p := ⟨w.heap.size, 1, none⟩) (by simp [World.size_alloc] <;> omega)]; simp [go_sem]
  have f1 : (((on ux).alloc (.cells #[.int .i64 (o1), .int .i64 (o2)] 47)).alloc (.cells #[.int .i64 (o3), .int .i64 (o4)] 47)).frozen? ⟨w.heap.size, 1, none⟩ = false := by rw [hR.frozen (p := ⟨w.heap.size, 1, none⟩) (by simp [World.size_alloc] <;> omega)]; simp [go_sem]
  have c2 : (((on ux).alloc (.cells #[.int .i64 (o1), .int .i64 (o2)] 47)).alloc (.cells #[.int .i64 (o3), .int .i64 (o4)] 47)).cell? ⟨w.heap.size, 2, none⟩ = some (.int .i64 Y) := by rw [hR.cell (p := ⟨w.heap.size, 2, none⟩) (by simp [World.size_alloc] <;> omega)]; simp [go_sem]
  have f2 : (((on ux).alloc (.cells #[.int .i64 (o1), .int .i64 (o2)] 47)).alloc (.cells #[.int .i64 (o3), .int .i64 (o4)] 47)).frozen? ⟨w.heap.size, 2, none⟩ = false := by rw [hR.frozen (p := ⟨w.heap.size, 2, none⟩) (by simp [World.size_alloc] <;> omega)]; simp [go_sem]
  have c3 : (((on ux).alloc (.cells #[.int .i64 (o1), .int .i64 (o2)] 47)).alloc (.cells #[.int .i64 (o3), .int .i64 (o4)] 47)).cell? ⟨w.heap.size + 1 + 1, 0, none⟩ = some (.int .u8 0) := by rw [hR.cell (p := ⟨w.heap.size + 1 + 1, 0, none⟩) (by simp [World.size_alloc] <;> omega)]; simp [go_sem]
  have f3 : (((on ux).alloc (.cells #[.int .i64 (o1), .int .i64 (o2)] 47)).alloc (.cells #[.int .i64 (o3), .int .i64 (o4)] 47)).frozen? ⟨w.heap.size + 1 + 1, 0, none⟩ = false := by rw [hR.frozen (p := ⟨w.heap.size + 1 + 1, 0, none⟩) (by simp [World.size_alloc] <;> omega)]; simp [go_sem]
  have c4 : (((on ux).alloc (.cells #[.int .i64 (o1), .int .i64 (o2)] 47)).alloc (.cells #[.int .i64 (o3), .int .i64 (o4)] 47)).cell? ⟨w.heap.size + 1 + 1, 1, none⟩ = some (.int .i64 0) := by rw [hR.cell (p := ⟨w.heap.size + 1 + 1, 1, none⟩) (by simp [World.size_alloc] <;> omega)]; simp [go_sem]
  have f4 : (((on ux).alloc (.cells #[.int .i64 (o1), .int .i64 (o2)] 47)).alloc (.cells #[.int .i64 (o3), .int .i64 (o4)] 47)).frozen? ⟨w.heap.size + 1 + 1, 1, none⟩ = false := by rw [hR.frozen (p := ⟨w.heap.size + 1 + 1, 1, none⟩) (by simp [World.size_alloc] <;> omega)]; simp [go_sem]
  have c5 : (((on ux).alloc (.cells #[.int .i64 (o1), .int .i64 (o2)] 47)).alloc (.cells #[.int .i64 (o3), .int .i64 (o4)] 47)).cell? ⟨(on ux).heap.size, 0, none⟩ = some (.int .i64 (o1)) := by simp [go_sem]
  have f5 : (((on ux).alloc (.cells #[.int .i64 (o1), .int .i64 (o2)] 47)).alloc (.cells #[.int .i64 (o3), .int .i64 (o4)] 47)).frozen? ⟨(on ux).heap.size, 0, none⟩ = false := by simp [go_sem]
  have c6 : (((on ux).alloc (.cells #[.int .i64 (o1), .int .i64 (o2)] 47)).alloc (.cells #[.int .i64 (o3), .int .i64 (o4)] 47)).cell? ⟨(on ux).heap.size, 1, none⟩ = some (.int .i64 (o2)) := by simp [go_sem]
  have f6 : (((on ux).alloc (.cells #[.int .i64 (o1), .int .i64 (o2)] 47)).alloc (.cells #[.int .i64 (o3), .int .i64 (o4)] 47)).frozen? ⟨(on ux).heap.size, 1, none⟩ = false := by simp [go_sem]
  have c7 : (((on ux).alloc (.cells #[.int .i64 (o1), .int .i64 (o2)] 47)).alloc (.cells #[.int .i64 (o3), .int .i64 (o4)] 47)).cell? ⟨(on ux).heap.size + 1, 0, none⟩ = some (.int .i64 (o3)) := by simp [go_sem]
  have f7 : (((on ux).alloc (.cells #[.int .i64 (o1), .int .i64 (o2)] 47)).alloc (.cells #[.int .i64 (o3), .int .i64 (o4)] 47)).frozen? ⟨(on ux).heap.size + 1, 0, none⟩ = false := by simp [go_sem]
  have c8 : (((on ux).alloc (.cells #[.int .i64 (o1), .int .i64 (o2)] 47)).alloc (.cells #[.int .i64 (o3), .int .i64 (o4)] 47)).cell? ⟨(on ux).heap.size + 1, 1, none⟩ = some (.int .i64 (o4)) := by simp [go_sem]
  have f8 : (((on ux).alloc (.cells #[.int .i64 (o1), .int .i64 (o2)] 47)).alloc (.cells #[.int .i64 (o3), .int .i64 (o4)] 47)).frozen? ⟨(on ux).heap.size + 1, 1, none⟩ = false := by simp [go_sem]
  have hZ : Below (((w.alloc (.cells #[.int .u8 t, .int .i64 X, .int .i64 Y] 23)).alloc (.cells #[.int .u8 k, .int .i64 c] 26)).alloc (.cells #[.int .u8 0, .int .i64 0] 26)).heap.size (((w.alloc (.cells #[.int .u8 t, .int .i64 X, .int .i64 Y] 23)).alloc (.cells #[.int .u8 k, .int .i64 c] 26)).alloc (.cells #[.int .u8 0, .int .i64 0] 26)) (on ux) := by repeat first | (with_reducible exact Below.refl _ _) | (with_reducible refine below_on ?_ _) | (with_reducible refine below_alloc ?_ _)
  have z0 : w.heap.size < (on ux).heap.size := Nat.lt_of_lt_of_le (show w.heap.size < (((w.alloc (.cells #[.int .u8 t, .int .i64 X, .int .i64 Y] 23)).alloc (.cells #[.int .u8 k, .int .i64 c] 26)).alloc (.cells #[.int .u8 0, .int .i64 0] 26)).heap.size by simp [World.size_alloc] <;> omega) hZ.size
  have z1 : w.heap.size + 1 + 1 < (on ux).heap.size := Nat.lt_of_lt_of_le (show w.heap.size + 1 + 1 < (((w.alloc (.cells #[.int .u8 t, .int .i64 X, .int .i64 Y] 23)).alloc (.cells #[.int .u8 k, .int .i64 c] 26)).alloc (.cells #[.int .u8 0, .int .i64 0] 26)).heap.size by simp [World.size_alloc] <;> omega) hZ.size
  clear hZ
  have hB : Below w.heap.size w (((on ux).alloc (.cells #[.int .i64 (o1), .int .i64 (o2)] 47)).alloc (.cells #[.int .i64 (o3), .int .i64 (o4)] 47)) := by repeat first | (with_reducible exact Below.refl _ _) | (with_reducible refine below_on ?_ _) | (with_reducible refine below_alloc ?_ _)
  clear hR
  generalize (((on ux).alloc (.cells #[.int .i64 (o1), .int .i64 (o2)] 47)).alloc (.cells #[.int .i64 (o3), .int .i64 (o4)] 47)) = Wn at *
  generalize (on ux).heap.size = Bn at *
  clear ux
  refine region_free2 8 6 7 47 7 8 47 _ _ (by kernel_rfl) (by kernel_rfl) (by decide) (by kernel_rfl) alloc26 (by kernel_rfl) alloc26 ?_
  simp only [List.take_succ_cons, List.take_zero, List.drop_succ_cons, List.drop_zero]
  repeat (first
    | (refine wpLex_plain (by rfl) (by rfl) (by rfl) (fun K hK => ?_); go_big_quiet_op; refine hK _ ?_; clear hK K)
    | (refine wpLex_call (by rfl) (by rfl) (fun K hK => ?_); go_simp; apply Exists.intro; refine ⟨fun _ => ?_, hK _ ?_⟩; ((first | (go_at_call 37; with_reducible exact Calls.laterL (PA _)) | (go_at_call 37; with_reducible exact Calls.laterL (PB _)))); clear hK K)
    | (refine wpLex_new (by rfl) ?_; simp only [Act.put, List.setIfInBounds_toArray, List.set_cons_zero, List.set_cons_succ]))
  refine wpLex_nil ?_
  intro q q2 u hb hk hb2 hk2 hne
  simp only [Act.put, List.setIfInBounds_toArray, List.set_cons_zero, List.set_cons_succ]
  have hne2 : q2 ≠ q := Ne.symm hne
  have e0 : (on u).cell? ⟨q, 0, none⟩ = some (.int .i64 0) := held_cell hk 0
  have e1 : (on u).cell? ⟨q, 1, none⟩ = some (.int .i64 0) := held_cell hk 1
  have g0 : (on u).frozen? ⟨q, 0, none⟩ = false := held_free hk 0
  have g1 : (on u).frozen? ⟨q, 1, none⟩ = false := held_free hk 1
  have e2 : ∀ v v', (((on u).setCell ⟨q, 0, none⟩ v).setCell ⟨q, 1, none⟩ v').cell? ⟨q2, 0, none⟩ = some (.int .i64 0) := fun v v' => held_cell (held_set_other (held_set_other hk2 hne2 _ _) hne2 _ _) 0
  have e3 : ∀ v v', (((on u).setCell ⟨q, 0, none⟩ v).setCell ⟨q, 1, none⟩ v').cell? ⟨q2, 1, none⟩ = some (.int .i64 0) := fun v v' => held_cell (held_set_other (held_set_other hk2 hne2 _ _) hne2 _ _) 1
  have g2 : (on u).frozen? ⟨q2, 0, none⟩ = false := held_free hk2 0
  have g3 : (on u).frozen? ⟨q2, 1, none⟩ = false := held_free hk2 1
  obtain ⟨v, hv, hl1, hl2'⟩ := stored22 hb hk hb2 hk2 hne (.int .i64 ax) (.int .i64 ay) (.int .i64 bx) (.int .i64 by_)
  have x0 : (on v).cell? ⟨q, 0, none⟩ = some (.int .i64 ax) := held_cell hl1 0
  have x1 : (on v).cell? ⟨q, 1, none⟩ = some (.int .i64 ay) := held_cell hl1 1
  have y0 : (on v).cell? ⟨q2, 0, none⟩ = some (.int .i64 bx) := held_cell hl2' 0
  have y1 : (on v).cell? ⟨q2, 1, none⟩ = some (.int .i64 by_) := held_cell hl2' 1
  have R0 : (on v).cell? ⟨w.heap.size + 1 + 1, 0, none⟩ = some (.int .u8 0) := by simp [go_sem, c3]
  have R1 : (on v).cell? ⟨w.heap.size + 1 + 1, 1, none⟩ = some (.int .i64 0) := by simp [go_sem, c4]
  have F0 : (on v).frozen? ⟨w.heap.size + 1 + 1, 0, none⟩ = false := by simp [go_sem, c3, f3]
  have F1 : (on v).frozen? ⟨w.heap.size + 1 + 1, 1, none⟩ = false := by simp [go_sem, c4, f4]
  have hB3 : Below w.heap.size w (on v) := below_on hB v
  go_wp2_with fail
  clear hb hb2 hk hk2 hne hne2 e0 e1 e2 e3 g0 g1 g2 g3 hl1 hl2' c0 f0 c1 f1 c2 f2 c3 f3 c4 f4 c5 f5 c6 f6 c7 f7 c8 f8 hB hv PA PB ON
  generalize on v = Wc at *
  clear v
  go_loopw [10] (fun iv wr => ∃ i s0 s1 : Int, iv = .int .u8 i ∧ ((i = 1 ∧ s0 = 0 ∧ 0 = s1) ∨ (i = 2 ∧ s0 = 0 ∧ 0 = s1) ∨ (i = 3 ∧ s0 = 0 ∧ 0 = s1) ∨ (i = 4 ∧ s0 = 0 ∧ 0 = s1) ∨ (i = 5 ∧ s0 = 4 ∧ C = s1)) ∧ ∃ u : Later Wc, wr = on u ∧ (on u).heap[Wc.heap.size]? = some (.cells #[.int .u8 s0, .int .i64 s1] 26)) (fun iv _ => (5 - intOf iv).toNat)
  case atStart => exact ⟨1, 0, 0, rfl, by omega, ⟨_, below_alloc (Below.refl _ _) _⟩, rfl, (MapKept.heap_alloc _ _).1⟩
  case round =>
    obtain ⟨i, s0, s1, rfl, hp, u0, rfl, hh⟩ := hrel
    have n0 : (on u0).cell? ⟨Wc.heap.size, 0, none⟩ = some (.int .u8 s0) := held_cell hh 0
    have n1 : (on u0).cell? ⟨Wc.heap.size, 1, none⟩ = some (.int .i64 s1) := held_cell hh 1
    have nf0 : (on u0).frozen? ⟨Wc.heap.size, 0, none⟩ = false := held_free hh 0
    have nf1 : (on u0).frozen? ⟨Wc.heap.size, 1, none⟩ = false := held_free hh 1
    obtain ⟨rfl, rfl, rfl⟩ | ⟨rfl, rfl, rfl⟩ | ⟨rfl, rfl, rfl⟩ | ⟨rfl, rfl, rfl⟩ | ⟨rfl, rfl, rfl⟩ := hp
    · go_wp2_with (first | (go_at_call 38; with_reducible refine (across_1 _).mono ?_; rintro e wx ⟨rfl, rfl⟩) | fail)
      first
        | exact ⟨⟨1 + 1, 0, 0, rfl, by omega, u0, rfl, hh⟩, by simp [intOf]⟩
        | (refine ⟨?_, by simp [intOf]⟩
           repeat apply Exists.intro
           refine And.intro ?_ rfl
           exact ⟨1 + 1, 0, 0, rfl, by omega, u0, rfl, hh⟩)
    · go_wp2_with (first | (go_at_call 38; with_reducible refine (across_2 _).mono ?_; rintro e wx ⟨rfl, rfl⟩) | fail)
      first
        | exact ⟨⟨2 + 1, 0, 0, rfl, by omega, u0, rfl, hh⟩, by simp [intOf]⟩
        | (refine ⟨?_, by simp [intOf]⟩
           repeat apply Exists.intro
           refine And.intro ?_ rfl
           exact ⟨2 + 1, 0, 0, rfl, by omega, u0, rfl, hh⟩)
    · go_wp2_with (first | (go_at_call 38; with_reducible refine (across_3 _).mono ?_; rintro e wx ⟨rfl, rfl⟩) | fail)
      first
        | exact ⟨⟨3 + 1, 0, 0, rfl, by omega, u0, rfl, hh⟩, by simp [intOf]⟩
        | (refine ⟨?_, by simp [intOf]⟩
           repeat apply Exists.intro
           refine And.intro ?_ rfl
           exact ⟨3 + 1, 0, 0, rfl, by omega, u0, rfl, hh⟩)
    · go_wp2_with (first | (go_at_call 38; with_reducible refine (across_4 _).mono ?_; rintro e wx ⟨rfl, rfl⟩) | fail)
      obtain ⟨u1, hu, hh1⟩ := stored2 (Nat.le_refl _) hh (.int .u8 4) (.int .i64 C)
      first
        | exact ⟨⟨4 + 1, 4, C, rfl, by omega, u1, hu, hh1⟩, by simp [intOf]⟩
        | (refine ⟨?_, by simp [intOf]⟩
           repeat apply Exists.intro
           refine And.intro ?_ rfl
           exact ⟨4 + 1, 4, C, rfl, by omega, u1, hu, hh1⟩)
    · have hB4 : Below w.heap.size w (on u0) := below_on hB3 u0
      go_wp2_with fail
      exact bodyPost_ret (v := ln 4 C) (by simp [results, Tryz.results9, go_sem, R0, R1]) rfl ⟨rfl, (by repeat first | (with_reducible exact hB4) | (with_reducible refine below_on ?_ _) | (with_reducible refine below_alloc ?_ _) | (with_reducible refine below_set ?_ (by simp; try omega) _))⟩

end Go.Proofs.YtbcmfenekpllhaaGreatDoor
