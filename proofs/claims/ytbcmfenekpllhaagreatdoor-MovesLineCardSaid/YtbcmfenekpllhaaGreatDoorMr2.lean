/-
  Says: what Told of the reference of moves gives for where a move takes three points.
-/
import Derived.Test.YtbcmfenekpllhaaGreatDoorMr2b
import Derived.Test.YtbcmfenekpllhaaGreatDoorMr2c
import Derived.Test.YtbcmfenekpllhaaGreatDoorMr2d
set_option linter.unusedVariables false
set_option linter.unusedSimpArgs false
namespace Go.Proofs.YtbcmfenekpllhaaGreatDoor
open Go Go.RowKit

theorem told_any (r X Y : Int) (w : World) (a1 : 0 ≤ r) (a2 : r ≤ 7) (b1 : -100000 ≤ X) (b2 : X ≤ 100000) (b3 : -100000 ≤ Y) (b4 : Y ≤ 100000) : Calls Tryz.prog 39 #[pt (2 * X) (2 * Y), pt (mvx r 2 0 + 2 * X) (mvy r 2 0 + 2 * Y), pt (mvx r 0 2 + 2 * X) (mvy r 0 2 + 2 * Y)] w fun e w' => e = .returned (mv r X Y) ∧ Below w.heap.size w w' := by
  obtain rfl | rfl | rfl | rfl | rfl | rfl | rfl | rfl : r = 0 ∨ r = 1 ∨ r = 2 ∨ r = 3 ∨ r = 4 ∨ r = 5 ∨ r = 6 ∨ r = 7 := by omega
  · rw [show mvx 0 2 0 + 2 * X = 2 + 2 * X by rw [mvx0] <;> omega, show mvy 0 2 0 + 2 * Y = 2 * Y by rw [mvy0] <;> omega, show mvx 0 0 2 + 2 * X = 2 * X by rw [mvx0] <;> omega, show mvy 0 0 2 + 2 * Y = 2 + 2 * Y by rw [mvy0] <;> omega]
    exact told_0 X Y w b1 b2 b3 b4
  · rw [show mvx 1 2 0 + 2 * X = 2 * X by rw [mvx1] <;> omega, show mvy 1 2 0 + 2 * Y = 2 + 2 * Y by rw [mvy1] <;> omega, show mvx 1 0 2 + 2 * X = -2 + 2 * X by rw [mvx1] <;> omega, show mvy 1 0 2 + 2 * Y = 2 * Y by rw [mvy1] <;> omega]
    exact told_1 X Y w b1 b2 b3 b4
  · rw [show mvx 2 2 0 + 2 * X = -2 + 2 * X by rw [mvx2] <;> omega, show mvy 2 2 0 + 2 * Y = 2 * Y by rw [mvy2] <;> omega, show mvx 2 0 2 + 2 * X = 2 * X by rw [mvx2] <;> omega, show mvy 2 0 2 + 2 * Y = -2 + 2 * Y by rw [mvy2] <;> omega]
    exact told_2 X Y w b1 b2 b3 b4
  · rw [show mvx 3 2 0 + 2 * X = 2 * X by rw [mvx3] <;> omega, show mvy 3 2 0 + 2 * Y = -2 + 2 * Y by rw [mvy3] <;> omega, show mvx 3 0 2 + 2 * X = 2 + 2 * X by rw [mvx3] <;> omega, show mvy 3 0 2 + 2 * Y = 2 * Y by rw [mvy3] <;> omega]
    exact told_3 X Y w b1 b2 b3 b4
  · rw [show mvx 4 2 0 + 2 * X = -2 + 2 * X by rw [mvx4] <;> omega, show mvy 4 2 0 + 2 * Y = 2 * Y by rw [mvy4] <;> omega, show mvx 4 0 2 + 2 * X = 2 * X by rw [mvx4] <;> omega, show mvy 4 0 2 + 2 * Y = 2 + 2 * Y by rw [mvy4] <;> omega]
    exact told_4 X Y w b1 b2 b3 b4
  · rw [show mvx 5 2 0 + 2 * X = 2 * X by rw [mvx5] <;> omega, show mvy 5 2 0 + 2 * Y = -2 + 2 * Y by rw [mvy5] <;> omega, show mvx 5 0 2 + 2 * X = -2 + 2 * X by rw [mvx5] <;> omega, show mvy 5 0 2 + 2 * Y = 2 * Y by rw [mvy5] <;> omega]
    exact told_5 X Y w b1 b2 b3 b4
  · rw [show mvx 6 2 0 + 2 * X = 2 + 2 * X by rw [mvx6] <;> omega, show mvy 6 2 0 + 2 * Y = 2 * Y by rw [mvy6] <;> omega, show mvx 6 0 2 + 2 * X = 2 * X by rw [mvx6] <;> omega, show mvy 6 0 2 + 2 * Y = -2 + 2 * Y by rw [mvy6] <;> omega]
    exact told_6 X Y w b1 b2 b3 b4
  · rw [show mvx 7 2 0 + 2 * X = 2 * X by rw [mvx7] <;> omega, show mvy 7 2 0 + 2 * Y = 2 + 2 * Y by rw [mvy7] <;> omega, show mvx 7 0 2 + 2 * X = 2 + 2 * X by rw [mvx7] <;> omega, show mvy 7 0 2 + 2 * Y = 2 * Y by rw [mvy7] <;> omega]
    exact told_7 X Y w b1 b2 b3 b4

end Go.Proofs.YtbcmfenekpllhaaGreatDoor
