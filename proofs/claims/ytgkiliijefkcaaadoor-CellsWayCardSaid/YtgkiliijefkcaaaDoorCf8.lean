/-
  Says: where moved takes a cell.
-/
import Derived.Test.YtgkiliijefkcaaaDoorCf6
import Derived.Test.YtgkiliijefkcaaaDoorCf7
import Derived.Test.YtgkiliijefkcaaaDoorCm1
set_option linter.unusedVariables false
set_option linter.unusedSimpArgs false
namespace Go.Proofs.YtgkiliijefkcaaaDoor
open Go Go.RowKit

theorem moved_any (t X Y x y q : Int) (w : World) (hL : Lay w) (a1 : 0 ≤ t) (a2 : t ≤ 7) (a3 : -16384 ≤ X) (a4 : X ≤ 16384) (a5 : -16384 ≤ Y) (a6 : Y ≤ 16384) (a7 : (X + Y) % 2 = 0) (x1 : -5000 ≤ x) (x2 : x ≤ 5000) (y1 : -5000 ≤ y) (y2 : y ≤ 5000) (q1 : 0 ≤ q) (q2 : q ≤ 3) : Calls Tryd.prog 53 #[mv t X Y, cl x y q] w fun e w' => e = .returned (cl (imX t X x y) (imY t Y x y) (imQ t q)) ∧ Below w.heap.size w w' := by
  have r1 := imX_range t X x y 5000 a1 a2 a3 a4 x1 x2 y1 y2
  have r2 := imY_range t Y x y 5000 a1 a2 a5 a6 x1 x2 y1 y2
  have rp : ∀ u v : Int, -20000 ≤ u → u ≤ 20000 → -20000 ≤ v → v ≤ 20000 → -65536 ≤ mvx t u v + 2 * X ∧ mvx t u v + 2 * X ≤ 65536 ∧ -65536 ≤ mvy t u v + 2 * Y ∧ mvy t u v + 2 * Y ≤ 65536 := fun u v g1 g2 g3 g4 => by
    have := mvx_range 20000 t u v a1 a2 g1 g2 g3 g4
    have := mvy_range 20000 t u v a1 a2 g1 g2 g3 g4
    omega
  have PO : ∀ u v : Int, -20000 ≤ u → u ≤ 20000 → -20000 ≤ v → v ≤ 20000 → ∀ W, Lay W → Calls Tryd.prog 65 #[mv t X Y, pt u v] W fun e w' => e = .returned (.tuple #[pt (mvx t u v + 2 * X) (mvy t u v + 2 * Y), .int .i64 0]) ∧ Below W.heap.size W w' := fun u v g1 g2 g3 g4 W h =>
    mpoint_ok t X Y u v W h.turns a1 a2 a3 a4 a5 a6 a7 (by omega) (by omega) (by omega) (by omega) (rp u v g1 g2 g3 g4).1 (rp u v g1 g2 g3 g4).2.1 (rp u v g1 g2 g3 g4).2.2.1 (rp u v g1 g2 g3 g4).2.2.2
  obtain rfl | rfl | rfl | rfl : q = 0 ∨ q = 1 ∨ q = 2 ∨ q = 3 := by omega
  · obtain rfl | rfl | rfl | rfl | rfl | rfl | rfl | rfl : t = 0 ∨ t = 1 ∨ t = 2 ∨ t = 3 ∨ t = 4 ∨ t = 5 ∨ t = 6 ∨ t = 7 := by omega
    · obtain ⟨e0, e1, e2, e3, e4, e5⟩ := imc_00 X Y x y
      refine moved_of 0 X Y x y 0 (1 + 2 * x) (1 + 2 * y) (2 * x) (2 * y) (2 + 2 * x) (2 * y) _ _ _ _ _ _ _ _ _ w hL (fun W h => corner_0 x y W h (by omega) (by omega) (by omega) (by omega)) (PO (1 + 2 * x) (1 + 2 * y) (by omega) (by omega) (by omega) (by omega)) (PO (2 * x) (2 * y) (by omega) (by omega) (by omega) (by omega)) (PO (2 + 2 * x) (2 * y) (by omega) (by omega) (by omega) (by omega)) (fun W h => ?_)
      rw [e0, e1, e2, e3, e4, e5]
      exact wc_00 (imX 0 X x y) (imY 0 Y x y) W h (by omega) (by omega) (by omega) (by omega)
    · obtain ⟨e0, e1, e2, e3, e4, e5⟩ := imc_10 X Y x y
      refine moved_of 1 X Y x y 0 (1 + 2 * x) (1 + 2 * y) (2 * x) (2 * y) (2 + 2 * x) (2 * y) _ _ _ _ _ _ _ _ _ w hL (fun W h => corner_0 x y W h (by omega) (by omega) (by omega) (by omega)) (PO (1 + 2 * x) (1 + 2 * y) (by omega) (by omega) (by omega) (by omega)) (PO (2 * x) (2 * y) (by omega) (by omega) (by omega) (by omega)) (PO (2 + 2 * x) (2 * y) (by omega) (by omega) (by omega) (by omega)) (fun W h => ?_)
      rw [e0, e1, e2, e3, e4, e5]
      exact wc_11 (imX 1 X x y) (imY 1 Y x y) W h (by omega) (by omega) (by omega) (by omega)
    · obtain ⟨e0, e1, e2, e3, e4, e5⟩ := imc_20 X Y x y
      refine moved_of 2 X Y x y 0 (1 + 2 * x) (1 + 2 * y) (2 * x) (2 * y) (2 + 2 * x) (2 * y) _ _ _ _ _ _ _ _ _ w hL (fun W h => corner_0 x y W h (by omega) (by omega) (by omega) (by omega)) (PO (1 + 2 * x) (1 + 2 * y) (by omega) (by omega) (by omega) (by omega)) (PO (2 * x) (2 * y) (by omega) (by omega) (by omega) (by omega)) (PO (2 + 2 * x) (2 * y) (by omega) (by omega) (by omega) (by omega)) (fun W h => ?_)
      rw [e0, e1, e2, e3, e4, e5]
      exact wc_20 (imX 2 X x y) (imY 2 Y x y) W h (by omega) (by omega) (by omega) (by omega)
    · obtain ⟨e0, e1, e2, e3, e4, e5⟩ := imc_30 X Y x y
      refine moved_of 3 X Y x y 0 (1 + 2 * x) (1 + 2 * y) (2 * x) (2 * y) (2 + 2 * x) (2 * y) _ _ _ _ _ _ _ _ _ w hL (fun W h => corner_0 x y W h (by omega) (by omega) (by omega) (by omega)) (PO (1 + 2 * x) (1 + 2 * y) (by omega) (by omega) (by omega) (by omega)) (PO (2 * x) (2 * y) (by omega) (by omega) (by omega) (by omega)) (PO (2 + 2 * x) (2 * y) (by omega) (by omega) (by omega) (by omega)) (fun W h => ?_)
      rw [e0, e1, e2, e3, e4, e5]
      exact wc_31 (imX 3 X x y) (imY 3 Y x y) W h (by omega) (by omega) (by omega) (by omega)
    · obtain ⟨e0, e1, e2, e3, e4, e5⟩ := imc_40 X Y x y
      refine moved_of 4 X Y x y 0 (1 + 2 * x) (1 + 2 * y) (2 * x) (2 * y) (2 + 2 * x) (2 * y) _ _ _ _ _ _ _ _ _ w hL (fun W h => corner_0 x y W h (by omega) (by omega) (by omega) (by omega)) (PO (1 + 2 * x) (1 + 2 * y) (by omega) (by omega) (by omega) (by omega)) (PO (2 * x) (2 * y) (by omega) (by omega) (by omega) (by omega)) (PO (2 + 2 * x) (2 * y) (by omega) (by omega) (by omega) (by omega)) (fun W h => ?_)
      rw [e0, e1, e2, e3, e4, e5]
      exact wc_01 (imX 4 X x y) (imY 4 Y x y) W h (by omega) (by omega) (by omega) (by omega)
    · obtain ⟨e0, e1, e2, e3, e4, e5⟩ := imc_50 X Y x y
      refine moved_of 5 X Y x y 0 (1 + 2 * x) (1 + 2 * y) (2 * x) (2 * y) (2 + 2 * x) (2 * y) _ _ _ _ _ _ _ _ _ w hL (fun W h => corner_0 x y W h (by omega) (by omega) (by omega) (by omega)) (PO (1 + 2 * x) (1 + 2 * y) (by omega) (by omega) (by omega) (by omega)) (PO (2 * x) (2 * y) (by omega) (by omega) (by omega) (by omega)) (PO (2 + 2 * x) (2 * y) (by omega) (by omega) (by omega) (by omega)) (fun W h => ?_)
      rw [e0, e1, e2, e3, e4, e5]
      exact wc_10 (imX 5 X x y) (imY 5 Y x y) W h (by omega) (by omega) (by omega) (by omega)
    · obtain ⟨e0, e1, e2, e3, e4, e5⟩ := imc_60 X Y x y
      refine moved_of 6 X Y x y 0 (1 + 2 * x) (1 + 2 * y) (2 * x) (2 * y) (2 + 2 * x) (2 * y) _ _ _ _ _ _ _ _ _ w hL (fun W h => corner_0 x y W h (by omega) (by omega) (by omega) (by omega)) (PO (1 + 2 * x) (1 + 2 * y) (by omega) (by omega) (by omega) (by omega)) (PO (2 * x) (2 * y) (by omega) (by omega) (by omega) (by omega)) (PO (2 + 2 * x) (2 * y) (by omega) (by omega) (by omega) (by omega)) (fun W h => ?_)
      rw [e0, e1, e2, e3, e4, e5]
      exact wc_21 (imX 6 X x y) (imY 6 Y x y) W h (by omega) (by omega) (by omega) (by omega)
    · obtain ⟨e0, e1, e2, e3, e4, e5⟩ := imc_70 X Y x y
      refine moved_of 7 X Y x y 0 (1 + 2 * x) (1 + 2 * y) (2 * x) (2 * y) (2 + 2 * x) (2 * y) _ _ _ _ _ _ _ _ _ w hL (fun W h => corner_0 x y W h (by omega) (by omega) (by omega) (by omega)) (PO (1 + 2 * x) (1 + 2 * y) (by omega) (by omega) (by omega) (by omega)) (PO (2 * x) (2 * y) (by omega) (by omega) (by omega) (by omega)) (PO (2 + 2 * x) (2 * y) (by omega) (by omega) (by omega) (by omega)) (fun W h => ?_)
      rw [e0, e1, e2, e3, e4, e5]
      exact wc_30 (imX 7 X x y) (imY 7 Y x y) W h (by omega) (by omega) (by omega) (by omega)
  · obtain rfl | rfl | rfl | rfl | rfl | rfl | rfl | rfl : t = 0 ∨ t = 1 ∨ t = 2 ∨ t = 3 ∨ t = 4 ∨ t = 5 ∨ t = 6 ∨ t = 7 := by omega
    · obtain ⟨e0, e1, e2, e3, e4, e5⟩ := imc_01 X Y x y
      refine moved_of 0 X Y x y 1 (1 + 2 * x) (1 + 2 * y) (2 + 2 * x) (2 + 2 * y) (2 + 2 * x) (2 * y) _ _ _ _ _ _ _ _ _ w hL (fun W h => corner_1 x y W h (by omega) (by omega) (by omega) (by omega)) (PO (1 + 2 * x) (1 + 2 * y) (by omega) (by omega) (by omega) (by omega)) (PO (2 + 2 * x) (2 + 2 * y) (by omega) (by omega) (by omega) (by omega)) (PO (2 + 2 * x) (2 * y) (by omega) (by omega) (by omega) (by omega)) (fun W h => ?_)
      rw [e0, e1, e2, e3, e4, e5]
      exact wc_10 (imX 0 X x y) (imY 0 Y x y) W h (by omega) (by omega) (by omega) (by omega)
    · obtain ⟨e0, e1, e2, e3, e4, e5⟩ := imc_11 X Y x y
      refine moved_of 1 X Y x y 1 (1 + 2 * x) (1 + 2 * y) (2 + 2 * x) (2 + 2 * y) (2 + 2 * x) (2 * y) _ _ _ _ _ _ _ _ _ w hL (fun W h => corner_1 x y W h (by omega) (by omega) (by omega) (by omega)) (PO (1 + 2 * x) (1 + 2 * y) (by omega) (by omega) (by omega) (by omega)) (PO (2 + 2 * x) (2 + 2 * y) (by omega) (by omega) (by omega) (by omega)) (PO (2 + 2 * x) (2 * y) (by omega) (by omega) (by omega) (by omega)) (fun W h => ?_)
      rw [e0, e1, e2, e3, e4, e5]
      exact wc_21 (imX 1 X x y) (imY 1 Y x y) W h (by omega) (by omega) (by omega) (by omega)
    · obtain ⟨e0, e1, e2, e3, e4, e5⟩ := imc_21 X Y x y
      refine moved_of 2 X Y x y 1 (1 + 2 * x) (1 + 2 * y) (2 + 2 * x) (2 + 2 * y) (2 + 2 * x) (2 * y) _ _ _ _ _ _ _ _ _ w hL (fun W h => corner_1 x y W h (by omega) (by omega) (by omega) (by omega)) (PO (1 + 2 * x) (1 + 2 * y) (by omega) (by omega) (by omega) (by omega)) (PO (2 + 2 * x) (2 + 2 * y) (by omega) (by omega) (by omega) (by omega)) (PO (2 + 2 * x) (2 * y) (by omega) (by omega) (by omega) (by omega)) (fun W h => ?_)
      rw [e0, e1, e2, e3, e4, e5]
      exact wc_30 (imX 2 X x y) (imY 2 Y x y) W h (by omega) (by omega) (by omega) (by omega)
    · obtain ⟨e0, e1, e2, e3, e4, e5⟩ := imc_31 X Y x y
      refine moved_of 3 X Y x y 1 (1 + 2 * x) (1 + 2 * y) (2 + 2 * x) (2 + 2 * y) (2 + 2 * x) (2 * y) _ _ _ _ _ _ _ _ _ w hL (fun W h => corner_1 x y W h (by omega) (by omega) (by omega) (by omega)) (PO (1 + 2 * x) (1 + 2 * y) (by omega) (by omega) (by omega) (by omega)) (PO (2 + 2 * x) (2 + 2 * y) (by omega) (by omega) (by omega) (by omega)) (PO (2 + 2 * x) (2 * y) (by omega) (by omega) (by omega) (by omega)) (fun W h => ?_)
      rw [e0, e1, e2, e3, e4, e5]
      exact wc_01 (imX 3 X x y) (imY 3 Y x y) W h (by omega) (by omega) (by omega) (by omega)
    · obtain ⟨e0, e1, e2, e3, e4, e5⟩ := imc_41 X Y x y
      refine moved_of 4 X Y x y 1 (1 + 2 * x) (1 + 2 * y) (2 + 2 * x) (2 + 2 * y) (2 + 2 * x) (2 * y) _ _ _ _ _ _ _ _ _ w hL (fun W h => corner_1 x y W h (by omega) (by omega) (by omega) (by omega)) (PO (1 + 2 * x) (1 + 2 * y) (by omega) (by omega) (by omega) (by omega)) (PO (2 + 2 * x) (2 + 2 * y) (by omega) (by omega) (by omega) (by omega)) (PO (2 + 2 * x) (2 * y) (by omega) (by omega) (by omega) (by omega)) (fun W h => ?_)
      rw [e0, e1, e2, e3, e4, e5]
      exact wc_31 (imX 4 X x y) (imY 4 Y x y) W h (by omega) (by omega) (by omega) (by omega)
    · obtain ⟨e0, e1, e2, e3, e4, e5⟩ := imc_51 X Y x y
      refine moved_of 5 X Y x y 1 (1 + 2 * x) (1 + 2 * y) (2 + 2 * x) (2 + 2 * y) (2 + 2 * x) (2 * y) _ _ _ _ _ _ _ _ _ w hL (fun W h => corner_1 x y W h (by omega) (by omega) (by omega) (by omega)) (PO (1 + 2 * x) (1 + 2 * y) (by omega) (by omega) (by omega) (by omega)) (PO (2 + 2 * x) (2 + 2 * y) (by omega) (by omega) (by omega) (by omega)) (PO (2 + 2 * x) (2 * y) (by omega) (by omega) (by omega) (by omega)) (fun W h => ?_)
      rw [e0, e1, e2, e3, e4, e5]
      exact wc_00 (imX 5 X x y) (imY 5 Y x y) W h (by omega) (by omega) (by omega) (by omega)
    · obtain ⟨e0, e1, e2, e3, e4, e5⟩ := imc_61 X Y x y
      refine moved_of 6 X Y x y 1 (1 + 2 * x) (1 + 2 * y) (2 + 2 * x) (2 + 2 * y) (2 + 2 * x) (2 * y) _ _ _ _ _ _ _ _ _ w hL (fun W h => corner_1 x y W h (by omega) (by omega) (by omega) (by omega)) (PO (1 + 2 * x) (1 + 2 * y) (by omega) (by omega) (by omega) (by omega)) (PO (2 + 2 * x) (2 + 2 * y) (by omega) (by omega) (by omega) (by omega)) (PO (2 + 2 * x) (2 * y) (by omega) (by omega) (by omega) (by omega)) (fun W h => ?_)
      rw [e0, e1, e2, e3, e4, e5]
      exact wc_11 (imX 6 X x y) (imY 6 Y x y) W h (by omega) (by omega) (by omega) (by omega)
    · obtain ⟨e0, e1, e2, e3, e4, e5⟩ := imc_71 X Y x y
      refine moved_of 7 X Y x y 1 (1 + 2 * x) (1 + 2 * y) (2 + 2 * x) (2 + 2 * y) (2 + 2 * x) (2 * y) _ _ _ _ _ _ _ _ _ w hL (fun W h => corner_1 x y W h (by omega) (by omega) (by omega) (by omega)) (PO (1 + 2 * x) (1 + 2 * y) (by omega) (by omega) (by omega) (by omega)) (PO (2 + 2 * x) (2 + 2 * y) (by omega) (by omega) (by omega) (by omega)) (PO (2 + 2 * x) (2 * y) (by omega) (by omega) (by omega) (by omega)) (fun W h => ?_)
      rw [e0, e1, e2, e3, e4, e5]
      exact wc_20 (imX 7 X x y) (imY 7 Y x y) W h (by omega) (by omega) (by omega) (by omega)
  · obtain rfl | rfl | rfl | rfl | rfl | rfl | rfl | rfl : t = 0 ∨ t = 1 ∨ t = 2 ∨ t = 3 ∨ t = 4 ∨ t = 5 ∨ t = 6 ∨ t = 7 := by omega
    · obtain ⟨e0, e1, e2, e3, e4, e5⟩ := imc_02 X Y x y
      refine moved_of 0 X Y x y 2 (1 + 2 * x) (1 + 2 * y) (2 + 2 * x) (2 + 2 * y) (2 * x) (2 + 2 * y) _ _ _ _ _ _ _ _ _ w hL (fun W h => corner_2 x y W h (by omega) (by omega) (by omega) (by omega)) (PO (1 + 2 * x) (1 + 2 * y) (by omega) (by omega) (by omega) (by omega)) (PO (2 + 2 * x) (2 + 2 * y) (by omega) (by omega) (by omega) (by omega)) (PO (2 * x) (2 + 2 * y) (by omega) (by omega) (by omega) (by omega)) (fun W h => ?_)
      rw [e0, e1, e2, e3, e4, e5]
      exact wc_20 (imX 0 X x y) (imY 0 Y x y) W h (by omega) (by omega) (by omega) (by omega)
    · obtain ⟨e0, e1, e2, e3, e4, e5⟩ := imc_12 X Y x y
      refine moved_of 1 X Y x y 2 (1 + 2 * x) (1 + 2 * y) (2 + 2 * x) (2 + 2 * y) (2 * x) (2 + 2 * y) _ _ _ _ _ _ _ _ _ w hL (fun W h => corner_2 x y W h (by omega) (by omega) (by omega) (by omega)) (PO (1 + 2 * x) (1 + 2 * y) (by omega) (by omega) (by omega) (by omega)) (PO (2 + 2 * x) (2 + 2 * y) (by omega) (by omega) (by omega) (by omega)) (PO (2 * x) (2 + 2 * y) (by omega) (by omega) (by omega) (by omega)) (fun W h => ?_)
      rw [e0, e1, e2, e3, e4, e5]
      exact wc_31 (imX 1 X x y) (imY 1 Y x y) W h (by omega) (by omega) (by omega) (by omega)
    · obtain ⟨e0, e1, e2, e3, e4, e5⟩ := imc_22 X Y x y
      refine moved_of 2 X Y x y 2 (1 + 2 * x) (1 + 2 * y) (2 + 2 * x) (2 + 2 * y) (2 * x) (2 + 2 * y) _ _ _ _ _ _ _ _ _ w hL (fun W h => corner_2 x y W h (by omega) (by omega) (by omega) (by omega)) (PO (1 + 2 * x) (1 + 2 * y) (by omega) (by omega) (by omega) (by omega)) (PO (2 + 2 * x) (2 + 2 * y) (by omega) (by omega) (by omega) (by omega)) (PO (2 * x) (2 + 2 * y) (by omega) (by omega) (by omega) (by omega)) (fun W h => ?_)
      rw [e0, e1, e2, e3, e4, e5]
      exact wc_00 (imX 2 X x y) (imY 2 Y x y) W h (by omega) (by omega) (by omega) (by omega)
    · obtain ⟨e0, e1, e2, e3, e4, e5⟩ := imc_32 X Y x y
      refine moved_of 3 X Y x y 2 (1 + 2 * x) (1 + 2 * y) (2 + 2 * x) (2 + 2 * y) (2 * x) (2 + 2 * y) _ _ _ _ _ _ _ _ _ w hL (fun W h => corner_2 x y W h (by omega) (by omega) (by omega) (by omega)) (PO (1 + 2 * x) (1 + 2 * y) (by omega) (by omega) (by omega) (by omega)) (PO (2 + 2 * x) (2 + 2 * y) (by omega) (by omega) (by omega) (by omega)) (PO (2 * x) (2 + 2 * y) (by omega) (by omega) (by omega) (by omega)) (fun W h => ?_)
      rw [e0, e1, e2, e3, e4, e5]
      exact wc_11 (imX 3 X x y) (imY 3 Y x y) W h (by omega) (by omega) (by omega) (by omega)
    · obtain ⟨e0, e1, e2, e3, e4, e5⟩ := imc_42 X Y x y
      refine moved_of 4 X Y x y 2 (1 + 2 * x) (1 + 2 * y) (2 + 2 * x) (2 + 2 * y) (2 * x) (2 + 2 * y) _ _ _ _ _ _ _ _ _ w hL (fun W h => corner_2 x y W h (by omega) (by omega) (by omega) (by omega)) (PO (1 + 2 * x) (1 + 2 * y) (by omega) (by omega) (by omega) (by omega)) (PO (2 + 2 * x) (2 + 2 * y) (by omega) (by omega) (by omega) (by omega)) (PO (2 * x) (2 + 2 * y) (by omega) (by omega) (by omega) (by omega)) (fun W h => ?_)
      rw [e0, e1, e2, e3, e4, e5]
      exact wc_21 (imX 4 X x y) (imY 4 Y x y) W h (by omega) (by omega) (by omega) (by omega)
    · obtain ⟨e0, e1, e2, e3, e4, e5⟩ := imc_52 X Y x y
      refine moved_of 5 X Y x y 2 (1 + 2 * x) (1 + 2 * y) (2 + 2 * x) (2 + 2 * y) (2 * x) (2 + 2 * y) _ _ _ _ _ _ _ _ _ w hL (fun W h => corner_2 x y W h (by omega) (by omega) (by omega) (by omega)) (PO (1 + 2 * x) (1 + 2 * y) (by omega) (by omega) (by omega) (by omega)) (PO (2 + 2 * x) (2 + 2 * y) (by omega) (by omega) (by omega) (by omega)) (PO (2 * x) (2 + 2 * y) (by omega) (by omega) (by omega) (by omega)) (fun W h => ?_)
      rw [e0, e1, e2, e3, e4, e5]
      exact wc_30 (imX 5 X x y) (imY 5 Y x y) W h (by omega) (by omega) (by omega) (by omega)
    · obtain ⟨e0, e1, e2, e3, e4, e5⟩ := imc_62 X Y x y
      refine moved_of 6 X Y x y 2 (1 + 2 * x) (1 + 2 * y) (2 + 2 * x) (2 + 2 * y) (2 * x) (2 + 2 * y) _ _ _ _ _ _ _ _ _ w hL (fun W h => corner_2 x y W h (by omega) (by omega) (by omega) (by omega)) (PO (1 + 2 * x) (1 + 2 * y) (by omega) (by omega) (by omega) (by omega)) (PO (2 + 2 * x) (2 + 2 * y) (by omega) (by omega) (by omega) (by omega)) (PO (2 * x) (2 + 2 * y) (by omega) (by omega) (by omega) (by omega)) (fun W h => ?_)
      rw [e0, e1, e2, e3, e4, e5]
      exact wc_01 (imX 6 X x y) (imY 6 Y x y) W h (by omega) (by omega) (by omega) (by omega)
    · obtain ⟨e0, e1, e2, e3, e4, e5⟩ := imc_72 X Y x y
      refine moved_of 7 X Y x y 2 (1 + 2 * x) (1 + 2 * y) (2 + 2 * x) (2 + 2 * y) (2 * x) (2 + 2 * y) _ _ _ _ _ _ _ _ _ w hL (fun W h => corner_2 x y W h (by omega) (by omega) (by omega) (by omega)) (PO (1 + 2 * x) (1 + 2 * y) (by omega) (by omega) (by omega) (by omega)) (PO (2 + 2 * x) (2 + 2 * y) (by omega) (by omega) (by omega) (by omega)) (PO (2 * x) (2 + 2 * y) (by omega) (by omega) (by omega) (by omega)) (fun W h => ?_)
      rw [e0, e1, e2, e3, e4, e5]
      exact wc_10 (imX 7 X x y) (imY 7 Y x y) W h (by omega) (by omega) (by omega) (by omega)
  · obtain rfl | rfl | rfl | rfl | rfl | rfl | rfl | rfl : t = 0 ∨ t = 1 ∨ t = 2 ∨ t = 3 ∨ t = 4 ∨ t = 5 ∨ t = 6 ∨ t = 7 := by omega
    · obtain ⟨e0, e1, e2, e3, e4, e5⟩ := imc_03 X Y x y
      refine moved_of 0 X Y x y 3 (1 + 2 * x) (1 + 2 * y) (2 * x) (2 * y) (2 * x) (2 + 2 * y) _ _ _ _ _ _ _ _ _ w hL (fun W h => corner_3 x y W h (by omega) (by omega) (by omega) (by omega)) (PO (1 + 2 * x) (1 + 2 * y) (by omega) (by omega) (by omega) (by omega)) (PO (2 * x) (2 * y) (by omega) (by omega) (by omega) (by omega)) (PO (2 * x) (2 + 2 * y) (by omega) (by omega) (by omega) (by omega)) (fun W h => ?_)
      rw [e0, e1, e2, e3, e4, e5]
      exact wc_30 (imX 0 X x y) (imY 0 Y x y) W h (by omega) (by omega) (by omega) (by omega)
    · obtain ⟨e0, e1, e2, e3, e4, e5⟩ := imc_13 X Y x y
      refine moved_of 1 X Y x y 3 (1 + 2 * x) (1 + 2 * y) (2 * x) (2 * y) (2 * x) (2 + 2 * y) _ _ _ _ _ _ _ _ _ w hL (fun W h => corner_3 x y W h (by omega) (by omega) (by omega) (by omega)) (PO (1 + 2 * x) (1 + 2 * y) (by omega) (by omega) (by omega) (by omega)) (PO (2 * x) (2 * y) (by omega) (by omega) (by omega) (by omega)) (PO (2 * x) (2 + 2 * y) (by omega) (by omega) (by omega) (by omega)) (fun W h => ?_)
      rw [e0, e1, e2, e3, e4, e5]
      exact wc_01 (imX 1 X x y) (imY 1 Y x y) W h (by omega) (by omega) (by omega) (by omega)
    · obtain ⟨e0, e1, e2, e3, e4, e5⟩ := imc_23 X Y x y
      refine moved_of 2 X Y x y 3 (1 + 2 * x) (1 + 2 * y) (2 * x) (2 * y) (2 * x) (2 + 2 * y) _ _ _ _ _ _ _ _ _ w hL (fun W h => corner_3 x y W h (by omega) (by omega) (by omega) (by omega)) (PO (1 + 2 * x) (1 + 2 * y) (by omega) (by omega) (by omega) (by omega)) (PO (2 * x) (2 * y) (by omega) (by omega) (by omega) (by omega)) (PO (2 * x) (2 + 2 * y) (by omega) (by omega) (by omega) (by omega)) (fun W h => ?_)
      rw [e0, e1, e2, e3, e4, e5]
      exact wc_10 (imX 2 X x y) (imY 2 Y x y) W h (by omega) (by omega) (by omega) (by omega)
    · obtain ⟨e0, e1, e2, e3, e4, e5⟩ := imc_33 X Y x y
      refine moved_of 3 X Y x y 3 (1 + 2 * x) (1 + 2 * y) (2 * x) (2 * y) (2 * x) (2 + 2 * y) _ _ _ _ _ _ _ _ _ w hL (fun W h => corner_3 x y W h (by omega) (by omega) (by omega) (by omega)) (PO (1 + 2 * x) (1 + 2 * y) (by omega) (by omega) (by omega) (by omega)) (PO (2 * x) (2 * y) (by omega) (by omega) (by omega) (by omega)) (PO (2 * x) (2 + 2 * y) (by omega) (by omega) (by omega) (by omega)) (fun W h => ?_)
      rw [e0, e1, e2, e3, e4, e5]
      exact wc_21 (imX 3 X x y) (imY 3 Y x y) W h (by omega) (by omega) (by omega) (by omega)
    · obtain ⟨e0, e1, e2, e3, e4, e5⟩ := imc_43 X Y x y
      refine moved_of 4 X Y x y 3 (1 + 2 * x) (1 + 2 * y) (2 * x) (2 * y) (2 * x) (2 + 2 * y) _ _ _ _ _ _ _ _ _ w hL (fun W h => corner_3 x y W h (by omega) (by omega) (by omega) (by omega)) (PO (1 + 2 * x) (1 + 2 * y) (by omega) (by omega) (by omega) (by omega)) (PO (2 * x) (2 * y) (by omega) (by omega) (by omega) (by omega)) (PO (2 * x) (2 + 2 * y) (by omega) (by omega) (by omega) (by omega)) (fun W h => ?_)
      rw [e0, e1, e2, e3, e4, e5]
      exact wc_11 (imX 4 X x y) (imY 4 Y x y) W h (by omega) (by omega) (by omega) (by omega)
    · obtain ⟨e0, e1, e2, e3, e4, e5⟩ := imc_53 X Y x y
      refine moved_of 5 X Y x y 3 (1 + 2 * x) (1 + 2 * y) (2 * x) (2 * y) (2 * x) (2 + 2 * y) _ _ _ _ _ _ _ _ _ w hL (fun W h => corner_3 x y W h (by omega) (by omega) (by omega) (by omega)) (PO (1 + 2 * x) (1 + 2 * y) (by omega) (by omega) (by omega) (by omega)) (PO (2 * x) (2 * y) (by omega) (by omega) (by omega) (by omega)) (PO (2 * x) (2 + 2 * y) (by omega) (by omega) (by omega) (by omega)) (fun W h => ?_)
      rw [e0, e1, e2, e3, e4, e5]
      exact wc_20 (imX 5 X x y) (imY 5 Y x y) W h (by omega) (by omega) (by omega) (by omega)
    · obtain ⟨e0, e1, e2, e3, e4, e5⟩ := imc_63 X Y x y
      refine moved_of 6 X Y x y 3 (1 + 2 * x) (1 + 2 * y) (2 * x) (2 * y) (2 * x) (2 + 2 * y) _ _ _ _ _ _ _ _ _ w hL (fun W h => corner_3 x y W h (by omega) (by omega) (by omega) (by omega)) (PO (1 + 2 * x) (1 + 2 * y) (by omega) (by omega) (by omega) (by omega)) (PO (2 * x) (2 * y) (by omega) (by omega) (by omega) (by omega)) (PO (2 * x) (2 + 2 * y) (by omega) (by omega) (by omega) (by omega)) (fun W h => ?_)
      rw [e0, e1, e2, e3, e4, e5]
      exact wc_31 (imX 6 X x y) (imY 6 Y x y) W h (by omega) (by omega) (by omega) (by omega)
    · obtain ⟨e0, e1, e2, e3, e4, e5⟩ := imc_73 X Y x y
      refine moved_of 7 X Y x y 3 (1 + 2 * x) (1 + 2 * y) (2 * x) (2 * y) (2 * x) (2 + 2 * y) _ _ _ _ _ _ _ _ _ w hL (fun W h => corner_3 x y W h (by omega) (by omega) (by omega) (by omega)) (PO (1 + 2 * x) (1 + 2 * y) (by omega) (by omega) (by omega) (by omega)) (PO (2 * x) (2 * y) (by omega) (by omega) (by omega) (by omega)) (PO (2 * x) (2 + 2 * y) (by omega) (by omega) (by omega) (by omega)) (fun W h => ?_)
      rw [e0, e1, e2, e3, e4, e5]
      exact wc_00 (imX 7 X x y) (imY 7 Y x y) W h (by omega) (by omega) (by omega) (by omega)

end Go.Proofs.YtgkiliijefkcaaaDoor
