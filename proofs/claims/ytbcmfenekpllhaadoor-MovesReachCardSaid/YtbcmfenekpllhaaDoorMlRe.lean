/-
  Says: MovesReach answers true at every input, where the package-level variables stand as they were laid.
-/
import Derived.Test.YtbcmfenekpllhaaDoorMlR0
import Derived.Test.YtbcmfenekpllhaaDoorMlR1
import Derived.Test.YtbcmfenekpllhaaDoorMlR2
import Derived.Test.YtbcmfenekpllhaaDoorMlR3
import Derived.Test.YtbcmfenekpllhaaDoorMlR4
import Derived.Test.YtbcmfenekpllhaaDoorMlR5
import Derived.Test.YtbcmfenekpllhaaDoorMlR6
import Derived.Test.YtbcmfenekpllhaaDoorMlR7
set_option linter.unusedVariables false
set_option linter.unusedSimpArgs false
namespace Go.Proofs.YtbcmfenekpllhaaDoor
open Go Go.RowKit

theorem reach_law (a x y : Int) (w : World) (hS : Std w) (a1 : 0 ≤ a) (a2 : a ≤ 255) (x1 : -128 ≤ x) (x2 : x ≤ 127) (y1 : -128 ≤ y) (y2 : y ≤ 127) :
    Calls Tryd.prog 10 #[.agg #[.int .u8 a, .int .i8 x, .int .i8 y]] w fun e w' => e = .returned (.bool true) ∧ Below w.heap.size w w' := by
  have OF := fun W => mof2_any a x y W a1 a2 x1 x2 y1 y2
  have yf := yfix_ok x y y1 y2
  obtain ⟨Y, hY⟩ : ∃ Y, Y = yfix x y := ⟨_, rfl⟩
  rw [← hY] at OF yf
  clear hY
  obtain ⟨f7, f5, f6⟩ := yf
  obtain ⟨A, hA⟩ : ∃ A, x + Y = 2 * A := ⟨(x + Y) / 2, by omega⟩
  obtain ⟨B, hB⟩ : ∃ B, x - Y = 2 * B := ⟨(x - Y) / 2, by omega⟩
  obtain ⟨T, hT⟩ : ∃ T, T = a % 8 := ⟨_, rfl⟩
  rw [← hT] at OF
  obtain rfl | rfl | rfl | rfl | rfl | rfl | rfl | rfl : T = 0 ∨ T = 1 ∨ T = 2 ∨ T = 3 ∨ T = 4 ∨ T = 5 ∨ T = 6 ∨ T = 7 := by omega
  · exact reach_0 a x y x Y A B w hS OF x1 x2 f5 f6 hA hB
  · exact reach_1 a x y x Y A B w hS OF x1 x2 f5 f6 hA hB
  · exact reach_2 a x y x Y A B w hS OF x1 x2 f5 f6 hA hB
  · exact reach_3 a x y x Y A B w hS OF x1 x2 f5 f6 hA hB
  · exact reach_4 a x y x Y A B w hS OF x1 x2 f5 f6 hA hB
  · exact reach_5 a x y x Y A B w hS OF x1 x2 f5 f6 hA hB
  · exact reach_6 a x y x Y A B w hS OF x1 x2 f5 f6 hA hB
  · exact reach_7 a x y x Y A B w hS OF x1 x2 f5 f6 hA hB

end Go.Proofs.YtbcmfenekpllhaaDoor
