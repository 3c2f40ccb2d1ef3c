/-
  Says: what the laws of the seat share: the references functions at every kind, the mirror images arithmetic, the condition on the librarys table.
-/
import Derived.Test.YtbcmfenekpllhaaDoorLv
import Derived.Test.YtbcmfenekpllhaaDoorRfA
import Derived.Test.YtbcmfenekpllhaaDoorRows
import Derived.ProofKit
import Derived.LaidMore
import Derived.OpenShut
import Derived.Stop.Joined
import Derived.Stop.LaidErr
import Derived.Lib.SmallJoins
import Derived.Lib.LaidTab
set_option linter.unusedVariables false
set_option linter.unusedSimpArgs false
namespace Go.Proofs.YtbcmfenekpllhaaDoor
open Go Go.RowKit

open Go.ChangeShapes Go.WideShapes Go.ChangeAt Go.WideMaps Go.WideElems Go.Joins
set_option maxRecDepth 100000

theorem far_any (k c x y : Int) (w : World) (a1 : 1 ≤ k) (a2 : k ≤ 4) (h1 : -200000 ≤ x) (h2 : x ≤ 200000) (h3 : -200000 ≤ y) (h4 : y ≤ 200000) (h5 : -4096 ≤ c) (h6 : c ≤ 4096) : Calls Tryd.prog 53 #[ln k c, pt x y] w fun e w' => e = .returned (.int .i64 (val k x y - 2 * c)) ∧ Below w.heap.size w w' := by
  obtain rfl | rfl | rfl | rfl : k = 1 ∨ k = 2 ∨ k = 3 ∨ k = 4 := by omega
  · exact far_1 c x y w h1 h2 h3 h4 h5 h6
  · exact far_2 c x y w h1 h2 h3 h4 h5 h6
  · exact far_3 c x y w h1 h2 h3 h4 h5 h6
  · exact far_4 c x y w h1 h2 h3 h4 h5 h6

theorem rreflect_any (k c x y : Int) (w : World) (a1 : 1 ≤ k) (a2 : k ≤ 4) (h1 : -200000 ≤ x) (h2 : x ≤ 200000) (h3 : -200000 ≤ y) (h4 : y ≤ 200000) (h5 : -4096 ≤ c) (h6 : c ≤ 4096) : Calls Tryd.prog 16 #[ln k c, pt x y] w fun e w' => e = .returned (pt (mirX k (2 * c) x y) (mirY k (2 * c) x y)) ∧ Below w.heap.size w w' := by
  obtain rfl | rfl | rfl | rfl : k = 1 ∨ k = 2 ∨ k = 3 ∨ k = 4 := by omega
  · exact rreflect_1 c x y w h1 h2 h3 h4 h5 h6
  · exact rreflect_2 c x y w h1 h2 h3 h4 h5 h6
  · exact rreflect_3 c x y w h1 h2 h3 h4 h5 h6
  · exact rreflect_4 c x y w h1 h2 h3 h4 h5 h6

theorem side_lt (k c x y : Int) (w : World) (h1 : 1 ≤ k) (h2 : k ≤ 4) (h3 : -4096 ≤ c) (h4 : c ≤ 4096) (h5 : -65536 ≤ x) (h6 : x ≤ 65536) (h7 : -65536 ≤ y) (h8 : y ≤ 65536) (h : val k x y - 2 * c < 0) : Calls Tryd.prog 48 #[ln k c, pt x y] w fun e w' => e = .returned (.int .i64 (-1)) ∧ Below w.heap.size w w' := by
  have := side_any k c x y w h1 h2 h3 h4 h5 h6 h7 h8
  rwa [sgn_neg h] at this
theorem side_gt (k c x y : Int) (w : World) (h1 : 1 ≤ k) (h2 : k ≤ 4) (h3 : -4096 ≤ c) (h4 : c ≤ 4096) (h5 : -65536 ≤ x) (h6 : x ≤ 65536) (h7 : -65536 ≤ y) (h8 : y ≤ 65536) (h : 0 < val k x y - 2 * c) : Calls Tryd.prog 48 #[ln k c, pt x y] w fun e w' => e = .returned (.int .i64 1) ∧ Below w.heap.size w w' := by
  have := side_any k c x y w h1 h2 h3 h4 h5 h6 h7 h8
  rwa [sgn_pos h] at this
theorem side_eq (k c x y : Int) (w : World) (h1 : 1 ≤ k) (h2 : k ≤ 4) (h3 : -4096 ≤ c) (h4 : c ≤ 4096) (h5 : -65536 ≤ x) (h6 : x ≤ 65536) (h7 : -65536 ≤ y) (h8 : y ≤ 65536) (h : val k x y - 2 * c = 0) : Calls Tryd.prog 48 #[ln k c, pt x y] w fun e w' => e = .returned (.int .i64 0) ∧ Below w.heap.size w w' := by
  have := side_any k c x y w h1 h2 h3 h4 h5 h6 h7 h8
  rwa [h, sgn_zero] at this
theorem mir_val (k c x y : Int) (a1 : 1 ≤ k) (a2 : k ≤ 4) : val k (mirX k (2 * c) x y) (mirY k (2 * c) x y) - 2 * c = -(val k x y - 2 * c) := by
  obtain rfl | rfl | rfl | rfl : k = 1 ∨ k = 2 ∨ k = 3 ∨ k = 4 := by omega
  · rw [mirX1, mirY1, val1, val1]; omega
  · rw [mirX2, mirY2, val2, val2]; omega
  · rw [mirX3, mirY3, val3, val3]; omega
  · rw [mirX4, mirY4, val4, val4]; omega

theorem mir_back (k c x y : Int) (a1 : 1 ≤ k) (a2 : k ≤ 4) : mirX k (2 * c) (mirX k (2 * c) x y) (mirY k (2 * c) x y) = x ∧ mirY k (2 * c) (mirX k (2 * c) x y) (mirY k (2 * c) x y) = y := by
  obtain rfl | rfl | rfl | rfl : k = 1 ∨ k = 2 ∨ k = 3 ∨ k = 4 := by omega
  · constructor <;> simp [mirX1, mirY1] <;> omega
  · constructor <;> simp [mirX2, mirY2] <;> omega
  · constructor <;> simp [mirX3, mirY3] <;> omega
  · constructor <;> simp [mirX4, mirY4] <;> omega

theorem mir_range (k c x y : Int) (a1 : 1 ≤ k) (a2 : k ≤ 4) (h3 : -4096 ≤ c) (h4 : c ≤ 4096) (h5 : -65536 ≤ x) (h6 : x ≤ 65536) (h7 : -65536 ≤ y) (h8 : y ≤ 65536) : -100000 ≤ mirX k (2 * c) x y ∧ mirX k (2 * c) x y ≤ 100000 ∧ -100000 ≤ mirY k (2 * c) x y ∧ mirY k (2 * c) x y ≤ 100000 := by
  obtain rfl | rfl | rfl | rfl : k = 1 ∨ k = 2 ∨ k = 3 ∨ k = 4 := by omega
  · rw [mirX1, mirY1]; omega
  · rw [mirX2, mirY2]; omega
  · rw [mirX3, mirY3]; omega
  · rw [mirX4, mirY4]; omega

/-- The form's condition on the library's tables gives the one that is read. -/
def laidL : List (String × DataW Unit) := [("math/bits.deBruijn32tab", Rows.laid_math_bits_deBruijn32tab), ("math/bits.deBruijn64tab", Rows.laid_math_bits_deBruijn64tab), ("internal/strconv.uint64pow10", Rows.laid_internal_strconv_uint64pow10)]
theorem gPowType : (Tryd.prog.globals[3]?).map (·.type) = some 156 := by kernel_rfl
theorem tab_of_laid {W : World} (h : laidMetH Tryd.prog laidL W) : Tab W := by
  rw [MakeChecks.laidMetH_plain _ _ _ (by kernel_rfl)] at h
  exact Lib.tabIs_of_head gPow gPowType Tryd.underlying156 Tryd.underlying138 (by kernel_rfl) (by kernel_rfl) h.tail.tail
theorem own : ownKnob Tryd.prog.godebug = none := by kernel_rfl
theorem door_met (os : Os) (args : Array Value) : laidMetH Tryd.prog laidL ((World.doorLaid Tryd.prog 24 os).forCall (fun _ _ => 0) ⟨#[], args, []⟩).memory :=
  laidMetH_of_parts3 (fuel := 8) (laidMet_of_run' 8 (by kernel_rfl) (by kernel_rfl)) (by kernel_rfl) (by kernel_rfl)
theorem cells24 : Tryd.prog.cellsOf 24 = 2 := by kernel_rfl
theorem cells26 : Tryd.prog.cellsOf 31 = 2 := by kernel_rfl

end Go.Proofs.YtbcmfenekpllhaaDoor
