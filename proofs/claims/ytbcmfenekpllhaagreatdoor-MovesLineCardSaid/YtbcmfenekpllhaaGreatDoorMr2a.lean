/-
  Says: what Point of the reference of moves gives at three points.
-/
import Derived.Test.YtbcmfenekpllhaaGreatDoorMr1
import Derived.Test.YtbcmfenekpllhaaGreatDoorMvz
import Derived.Deep.RegionHeld3
import Derived.RowKit3
set_option linter.unusedVariables false
set_option linter.unusedSimpArgs false
namespace Go.Proofs.YtbcmfenekpllhaaGreatDoor
open Go Go.RowKit

attribute [local go_sem] World.cell?_alloc_some frozen?_alloc_cells fz0 fz1 fz2 fz3 fz4 fz5
theorem rp00 (X Y : Int) (w : World) (b1 : -100000 ≤ X) (b2 : X ≤ 100000) (b3 : -100000 ≤ Y) (b4 : Y ≤ 100000) : Calls Tryz.prog 37 #[mv 0 X Y, pt 2 0] w fun e w' => e = .returned (pt (2 + 2 * X) (2 * Y)) ∧ Below w.heap.size w w' := by
  have := rpoint_0 X Y 2 0 w (by omega) (by omega) (by omega) (by omega) (by omega) (by omega) (by omega) (by omega)
  rwa [show mvx 0 2 0 + 2 * X = 2 + 2 * X by rw [mvx0] <;> omega, show mvy 0 2 0 + 2 * Y = 2 * Y by rw [mvy0] <;> omega] at this
theorem rp01 (X Y : Int) (w : World) (b1 : -100000 ≤ X) (b2 : X ≤ 100000) (b3 : -100000 ≤ Y) (b4 : Y ≤ 100000) : Calls Tryz.prog 37 #[mv 0 X Y, pt 0 2] w fun e w' => e = .returned (pt (2 * X) (2 + 2 * Y)) ∧ Below w.heap.size w w' := by
  have := rpoint_0 X Y 0 2 w (by omega) (by omega) (by omega) (by omega) (by omega) (by omega) (by omega) (by omega)
  rwa [show mvx 0 0 2 + 2 * X = 2 * X by rw [mvx0] <;> omega, show mvy 0 0 2 + 2 * Y = 2 + 2 * Y by rw [mvy0] <;> omega] at this
theorem rp02 (X Y : Int) (w : World) (b1 : -100000 ≤ X) (b2 : X ≤ 100000) (b3 : -100000 ≤ Y) (b4 : Y ≤ 100000) : Calls Tryz.prog 37 #[mv 0 X Y, pt 0 0] w fun e w' => e = .returned (pt (2 * X) (2 * Y)) ∧ Below w.heap.size w w' := by
  have := rpoint_0 X Y 0 0 w (by omega) (by omega) (by omega) (by omega) (by omega) (by omega) (by omega) (by omega)
  rwa [show mvx 0 0 0 + 2 * X = 2 * X by rw [mvx0] <;> omega, show mvy 0 0 0 + 2 * Y = 2 * Y by rw [mvy0] <;> omega] at this
theorem rp10 (X Y : Int) (w : World) (b1 : -100000 ≤ X) (b2 : X ≤ 100000) (b3 : -100000 ≤ Y) (b4 : Y ≤ 100000) : Calls Tryz.prog 37 #[mv 1 X Y, pt 2 0] w fun e w' => e = .returned (pt (2 * X) (2 + 2 * Y)) ∧ Below w.heap.size w w' := by
  have := rpoint_1 X Y 2 0 w (by omega) (by omega) (by omega) (by omega) (by omega) (by omega) (by omega) (by omega)
  rwa [show mvx 1 2 0 + 2 * X = 2 * X by rw [mvx1] <;> omega, show mvy 1 2 0 + 2 * Y = 2 + 2 * Y by rw [mvy1] <;> omega] at this
theorem rp11 (X Y : Int) (w : World) (b1 : -100000 ≤ X) (b2 : X ≤ 100000) (b3 : -100000 ≤ Y) (b4 : Y ≤ 100000) : Calls Tryz.prog 37 #[mv 1 X Y, pt 0 2] w fun e w' => e = .returned (pt (-2 + 2 * X) (2 * Y)) ∧ Below w.heap.size w w' := by
  have := rpoint_1 X Y 0 2 w (by omega) (by omega) (by omega) (by omega) (by omega) (by omega) (by omega) (by omega)
  rwa [show mvx 1 0 2 + 2 * X = -2 + 2 * X by rw [mvx1] <;> omega, show mvy 1 0 2 + 2 * Y = 2 * Y by rw [mvy1] <;> omega] at this
theorem rp12 (X Y : Int) (w : World) (b1 : -100000 ≤ X) (b2 : X ≤ 100000) (b3 : -100000 ≤ Y) (b4 : Y ≤ 100000) : Calls Tryz.prog 37 #[mv 1 X Y, pt 0 0] w fun e w' => e = .returned (pt (2 * X) (2 * Y)) ∧ Below w.heap.size w w' := by
  have := rpoint_1 X Y 0 0 w (by omega) (by omega) (by omega) (by omega) (by omega) (by omega) (by omega) (by omega)
  rwa [show mvx 1 0 0 + 2 * X = 2 * X by rw [mvx1] <;> omega, show mvy 1 0 0 + 2 * Y = 2 * Y by rw [mvy1] <;> omega] at this
theorem rp20 (X Y : Int) (w : World) (b1 : -100000 ≤ X) (b2 : X ≤ 100000) (b3 : -100000 ≤ Y) (b4 : Y ≤ 100000) : Calls Tryz.prog 37 #[mv 2 X Y, pt 2 0] w fun e w' => e = .returned (pt (-2 + 2 * X) (2 * Y)) ∧ Below w.heap.size w w' := by
  have := rpoint_2 X Y 2 0 w (by omega) (by omega) (by omega) (by omega) (by omega) (by omega) (by omega) (by omega)
  rwa [show mvx 2 2 0 + 2 * X = -2 + 2 * X by rw [mvx2] <;> omega, show mvy 2 2 0 + 2 * Y = 2 * Y by rw [mvy2] <;> omega] at this
theorem rp21 (X Y : Int) (w : World) (b1 : -100000 ≤ X) (b2 : X ≤ 100000) (b3 : -100000 ≤ Y) (b4 : Y ≤ 100000) : Calls Tryz.prog 37 #[mv 2 X Y, pt 0 2] w fun e w' => e = .returned (pt (2 * X) (-2 + 2 * Y)) ∧ Below w.heap.size w w' := by
  have := rpoint_2 X Y 0 2 w (by omega) (by omega) (by omega) (by omega) (by omega) (by omega) (by omega) (by omega)
  rwa [show mvx 2 0 2 + 2 * X = 2 * X by rw [mvx2] <;> omega, show mvy 2 0 2 + 2 * Y = -2 + 2 * Y by rw [mvy2] <;> omega] at this
theorem rp22 (X Y : Int) (w : World) (b1 : -100000 ≤ X) (b2 : X ≤ 100000) (b3 : -100000 ≤ Y) (b4 : Y ≤ 100000) : Calls Tryz.prog 37 #[mv 2 X Y, pt 0 0] w fun e w' => e = .returned (pt (2 * X) (2 * Y)) ∧ Below w.heap.size w w' := by
  have := rpoint_2 X Y 0 0 w (by omega) (by omega) (by omega) (by omega) (by omega) (by omega) (by omega) (by omega)
  rwa [show mvx 2 0 0 + 2 * X = 2 * X by rw [mvx2] <;> omega, show mvy 2 0 0 + 2 * Y = 2 * Y by rw [mvy2] <;> omega] at this
theorem rp30 (X Y : Int) (w : World) (b1 : -100000 ≤ X) (b2 : X ≤ 100000) (b3 : -100000 ≤ Y) (b4 : Y ≤ 100000) : Calls Tryz.prog 37 #[mv 3 X Y, pt 2 0] w fun e w' => e = .returned (pt (2 * X) (-2 + 2 * Y)) ∧ Below w.heap.size w w' := by
  have := rpoint_3 X Y 2 0 w (by omega) (by omega) (by omega) (by omega) (by omega) (by omega) (by omega) (by omega)
  rwa [show mvx 3 2 0 + 2 * X = 2 * X by rw [mvx3] <;> omega, show mvy 3 2 0 + 2 * Y = -2 + 2 * Y by rw [mvy3] <;> omega] at this
theorem rp31 (X Y : Int) (w : World) (b1 : -100000 ≤ X) (b2 : X ≤ 100000) (b3 : -100000 ≤ Y) (b4 : Y ≤ 100000) : Calls Tryz.prog 37 #[mv 3 X Y, pt 0 2] w fun e w' => e = .returned (pt (2 + 2 * X) (2 * Y)) ∧ Below w.heap.size w w' := by
  have := rpoint_3 X Y 0 2 w (by omega) (by omega) (by omega) (by omega) (by omega) (by omega) (by omega) (by omega)
  rwa [show mvx 3 0 2 + 2 * X = 2 + 2 * X by rw [mvx3] <;> omega, show mvy 3 0 2 + 2 * Y = 2 * Y by rw [mvy3] <;> omega] at this
theorem rp32 (X Y : Int) (w : World) (b1 : -100000 ≤ X) (b2 : X ≤ 100000) (b3 : -100000 ≤ Y) (b4 : Y ≤ 100000) : Calls Tryz.prog 37 #[mv 3 X Y, pt 0 0] w fun e w' => e = .returned (pt (2 * X) (2 * Y)) ∧ Below w.heap.size w w' := by
  have := rpoint_3 X Y 0 0 w (by omega) (by omega) (by omega) (by omega) (by omega) (by omega) (by omega) (by omega)
  rwa [show mvx 3 0 0 + 2 * X = 2 * X by rw [mvx3] <;> omega, show mvy 3 0 0 + 2 * Y = 2 * Y by rw [mvy3] <;> omega] at this
theorem rp40 (X Y : Int) (w : World) (b1 : -100000 ≤ X) (b2 : X ≤ 100000) (b3 : -100000 ≤ Y) (b4 : Y ≤ 100000) : Calls Tryz.prog 37 #[mv 4 X Y, pt 2 0] w fun e w' => e = .returned (pt (-2 + 2 * X) (2 * Y)) ∧ Below w.heap.size w w' := by
  have := rpoint_4 X Y 2 0 w (by omega) (by omega) (by omega) (by omega) (by omega) (by omega) (by omega) (by omega)
  rwa [show mvx 4 2 0 + 2 * X = -2 + 2 * X by rw [mvx4] <;> omega, show mvy 4 2 0 + 2 * Y = 2 * Y by rw [mvy4] <;> omega] at this
theorem rp41 (X Y : Int) (w : World) (b1 : -100000 ≤ X) (b2 : X ≤ 100000) (b3 : -100000 ≤ Y) (b4 : Y ≤ 100000) : Calls Tryz.prog 37 #[mv 4 X Y, pt 0 2] w fun e w' => e = .returned (pt (2 * X) (2 + 2 * Y)) ∧ Below w.heap.size w w' := by
  have := rpoint_4 X Y 0 2 w (by omega) (by omega) (by omega) (by omega) (by omega) (by omega) (by omega) (by omega)
  rwa [show mvx 4 0 2 + 2 * X = 2 * X by rw [mvx4] <;> omega, show mvy 4 0 2 + 2 * Y = 2 + 2 * Y by rw [mvy4] <;> omega] at this
theorem rp42 (X Y : Int) (w : World) (b1 : -100000 ≤ X) (b2 : X ≤ 100000) (b3 : -100000 ≤ Y) (b4 : Y ≤ 100000) : Calls Tryz.prog 37 #[mv 4 X Y, pt 0 0] w fun e w' => e = .returned (pt (2 * X) (2 * Y)) ∧ Below w.heap.size w w' := by
  have := rpoint_4 X Y 0 0 w (by omega) (by omega) (by omega) (by omega) (by omega) (by omega) (by omega) (by omega)
  rwa [show mvx 4 0 0 + 2 * X = 2 * X by rw [mvx4] <;> omega, show mvy 4 0 0 + 2 * Y = 2 * Y by rw [mvy4] <;> omega] at this
theorem rp50 (X Y : Int) (w : World) (b1 : -100000 ≤ X) (b2 : X ≤ 100000) (b3 : -100000 ≤ Y) (b4 : Y ≤ 100000) : Calls Tryz.prog 37 #[mv 5 X Y, pt 2 0] w fun e w' => e = .returned (pt (2 * X) (-2 + 2 * Y)) ∧ Below w.heap.size w w' := by
  have := rpoint_5 X Y 2 0 w (by omega) (by omega) (by omega) (by omega) (by omega) (by omega) (by omega) (by omega)
  rwa [show mvx 5 2 0 + 2 * X = 2 * X by rw [mvx5] <;> omega, show mvy 5 2 0 + 2 * Y = -2 + 2 * Y by rw [mvy5] <;> omega] at this
theorem rp51 (X Y : Int) (w : World) (b1 : -100000 ≤ X) (b2 : X ≤ 100000) (b3 : -100000 ≤ Y) (b4 : Y ≤ 100000) : Calls Tryz.prog 37 #[mv 5 X Y, pt 0 2] w fun e w' => e = .returned (pt (-2 + 2 * X) (2 * Y)) ∧ Below w.heap.size w w' := by
  have := rpoint_5 X Y 0 2 w (by omega) (by omega) (by omega) (by omega) (by omega) (by omega) (by omega) (by omega)
  rwa [show mvx 5 0 2 + 2 * X = -2 + 2 * X by rw [mvx5] <;> omega, show mvy 5 0 2 + 2 * Y = 2 * Y by rw [mvy5] <;> omega] at this
theorem rp52 (X Y : Int) (w : World) (b1 : -100000 ≤ X) (b2 : X ≤ 100000) (b3 : -100000 ≤ Y) (b4 : Y ≤ 100000) : Calls Tryz.prog 37 #[mv 5 X Y, pt 0 0] w fun e w' => e = .returned (pt (2 * X) (2 * Y)) ∧ Below w.heap.size w w' := by
  have := rpoint_5 X Y 0 0 w (by omega) (by omega) (by omega) (by omega) (by omega) (by omega) (by omega) (by omega)
  rwa [show mvx 5 0 0 + 2 * X = 2 * X by rw [mvx5] <;> omega, show mvy 5 0 0 + 2 * Y = 2 * Y by rw [mvy5] <;> omega] at this
theorem rp60 (X Y : Int) (w : World) (b1 : -100000 ≤ X) (b2 : X ≤ 100000) (b3 : -100000 ≤ Y) (b4 : Y ≤ 100000) : Calls Tryz.prog 37 #[mv 6 X Y, pt 2 0] w fun e w' => e = .returned (pt (2 + 2 * X) (2 * Y)) ∧ Below w.heap.size w w' := by
  have := rpoint_6 X Y 2 0 w (by omega) (by omega) (by omega) (by omega) (by omega) (by omega) (by omega) (by omega)
  rwa [show mvx 6 2 0 + 2 * X = 2 + 2 * X by rw [mvx6] <;> omega, show mvy 6 2 0 + 2 * Y = 2 * Y by rw [mvy6] <;> omega] at this
theorem rp61 (X Y : Int) (w : World) (b1 : -100000 ≤ X) (b2 : X ≤ 100000) (b3 : -100000 ≤ Y) (b4 : Y ≤ 100000) : Calls Tryz.prog 37 #[mv 6 X Y, pt 0 2] w fun e w' => e = .returned (pt (2 * X) (-2 + 2 * Y)) ∧ Below w.heap.size w w' := by
  have := rpoint_6 X Y 0 2 w (by omega) (by omega) (by omega) (by omega) (by omega) (by omega) (by omega) (by omega)
  rwa [show mvx 6 0 2 + 2 * X = 2 * X by rw [mvx6] <;> omega, show mvy 6 0 2 + 2 * Y = -2 + 2 * Y by rw [mvy6] <;> omega] at this
theorem rp62 (X Y : Int) (w : World) (b1 : -100000 ≤ X) (b2 : X ≤ 100000) (b3 : -100000 ≤ Y) (b4 : Y ≤ 100000) : Calls Tryz.prog 37 #[mv 6 X Y, pt 0 0] w fun e w' => e = .returned (pt (2 * X) (2 * Y)) ∧ Below w.heap.size w w' := by
  have := rpoint_6 X Y 0 0 w (by omega) (by omega) (by omega) (by omega) (by omega) (by omega) (by omega) (by omega)
  rwa [show mvx 6 0 0 + 2 * X = 2 * X by rw [mvx6] <;> omega, show mvy 6 0 0 + 2 * Y = 2 * Y by rw [mvy6] <;> omega] at this
theorem rp70 (X Y : Int) (w : World) (b1 : -100000 ≤ X) (b2 : X ≤ 100000) (b3 : -100000 ≤ Y) (b4 : Y ≤ 100000) : Calls Tryz.prog 37 #[mv 7 X Y, pt 2 0] w fun e w' => e = .returned (pt (2 * X) (2 + 2 * Y)) ∧ Below w.heap.size w w' := by
  have := rpoint_7 X Y 2 0 w (by omega) (by omega) (by omega) (by omega) (by omega) (by omega) (by omega) (by omega)
  rwa [show mvx 7 2 0 + 2 * X = 2 * X by rw [mvx7] <;> omega, show mvy 7 2 0 + 2 * Y = 2 + 2 * Y by rw [mvy7] <;> omega] at this
theorem rp71 (X Y : Int) (w : World) (b1 : -100000 ≤ X) (b2 : X ≤ 100000) (b3 : -100000 ≤ Y) (b4 : Y ≤ 100000) : Calls Tryz.prog 37 #[mv 7 X Y, pt 0 2] w fun e w' => e = .returned (pt (2 + 2 * X) (2 * Y)) ∧ Below w.heap.size w w' := by
  have := rpoint_7 X Y 0 2 w (by omega) (by omega) (by omega) (by omega) (by omega) (by omega) (by omega) (by omega)
  rwa [show mvx 7 0 2 + 2 * X = 2 + 2 * X by rw [mvx7] <;> omega, show mvy 7 0 2 + 2 * Y = 2 * Y by rw [mvy7] <;> omega] at this
theorem rp72 (X Y : Int) (w : World) (b1 : -100000 ≤ X) (b2 : X ≤ 100000) (b3 : -100000 ≤ Y) (b4 : Y ≤ 100000) : Calls Tryz.prog 37 #[mv 7 X Y, pt 0 0] w fun e w' => e = .returned (pt (2 * X) (2 * Y)) ∧ Below w.heap.size w w' := by
  have := rpoint_7 X Y 0 0 w (by omega) (by omega) (by omega) (by omega) (by omega) (by omega) (by omega) (by omega)
  rwa [show mvx 7 0 0 + 2 * X = 2 * X by rw [mvx7] <;> omega, show mvy 7 0 0 + 2 * Y = 2 * Y by rw [mvy7] <;> omega] at this

end Go.Proofs.YtbcmfenekpllhaaGreatDoor
