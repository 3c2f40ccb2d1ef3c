/-
  Says: LinesImage answers true at every two lines, where the librarys table stands as it was laid.
-/
import Derived.Test.YtbcmfenekpllhaaDoorLwImg1
import Derived.Test.YtbcmfenekpllhaaDoorLwImg2
import Derived.Test.YtbcmfenekpllhaaDoorLwImg3
import Derived.Test.YtbcmfenekpllhaaDoorLwImg4
set_option linter.unusedVariables false
set_option linter.unusedSimpArgs false
namespace Go.Proofs.YtbcmfenekpllhaaDoor
open Go Go.RowKit

theorem limg_all1 (l c d : Int) (w : World) (hT : Tab w) (h3 : -4096 ≤ c) (h4 : c ≤ 4096) (b1 : 1 ≤ l) (b2 : l ≤ 4) (b3 : -4096 ≤ d) (b4 : d ≤ 4096) : Calls Tryd.prog 3 #[ln 1 c, ln l d] w fun e w' => e = .returned (.bool true) ∧ Below w.heap.size w w' := by
  obtain rfl | rfl | rfl | rfl : l = 1 ∨ l = 2 ∨ l = 3 ∨ l = 4 := by omega
  · by_cases h : -4096 ≤ (2) * c + (-1) * d ∧ (2) * c + (-1) * d ≤ 4096
    · exact limg_ok11 c d w hT h3 h4 b3 b4 _ rfl h.1 h.2
    · exact limg_far11 c d w hT h3 h4 b3 b4 _ rfl (by omega)
  · by_cases h : -4096 ≤ (0) * c + (1) * d ∧ (0) * c + (1) * d ≤ 4096
    · exact limg_ok12 c d w hT h3 h4 b3 b4 _ rfl h.1 h.2
    · exact limg_far12 c d w hT h3 h4 b3 b4 _ rfl (by omega)
  · by_cases h : -4096 ≤ (-2) * c + (1) * d ∧ (-2) * c + (1) * d ≤ 4096
    · exact limg_ok13 c d w hT h3 h4 b3 b4 _ rfl h.1 h.2
    · exact limg_far13 c d w hT h3 h4 b3 b4 _ rfl (by omega)
  · by_cases h : -4096 ≤ (2) * c + (1) * d ∧ (2) * c + (1) * d ≤ 4096
    · exact limg_ok14 c d w hT h3 h4 b3 b4 _ rfl h.1 h.2
    · exact limg_far14 c d w hT h3 h4 b3 b4 _ rfl (by omega)

theorem limg_all2 (l c d : Int) (w : World) (hT : Tab w) (h3 : -4096 ≤ c) (h4 : c ≤ 4096) (b1 : 1 ≤ l) (b2 : l ≤ 4) (b3 : -4096 ≤ d) (b4 : d ≤ 4096) : Calls Tryd.prog 3 #[ln 2 c, ln l d] w fun e w' => e = .returned (.bool true) ∧ Below w.heap.size w w' := by
  obtain rfl | rfl | rfl | rfl : l = 1 ∨ l = 2 ∨ l = 3 ∨ l = 4 := by omega
  · by_cases h : -4096 ≤ (0) * c + (1) * d ∧ (0) * c + (1) * d ≤ 4096
    · exact limg_ok21 c d w hT h3 h4 b3 b4 _ rfl h.1 h.2
    · exact limg_far21 c d w hT h3 h4 b3 b4 _ rfl (by omega)
  · by_cases h : -4096 ≤ (2) * c + (-1) * d ∧ (2) * c + (-1) * d ≤ 4096
    · exact limg_ok22 c d w hT h3 h4 b3 b4 _ rfl h.1 h.2
    · exact limg_far22 c d w hT h3 h4 b3 b4 _ rfl (by omega)
  · by_cases h : -4096 ≤ (2) * c + (-1) * d ∧ (2) * c + (-1) * d ≤ 4096
    · exact limg_ok23 c d w hT h3 h4 b3 b4 _ rfl h.1 h.2
    · exact limg_far23 c d w hT h3 h4 b3 b4 _ rfl (by omega)
  · by_cases h : -4096 ≤ (2) * c + (-1) * d ∧ (2) * c + (-1) * d ≤ 4096
    · exact limg_ok24 c d w hT h3 h4 b3 b4 _ rfl h.1 h.2
    · exact limg_far24 c d w hT h3 h4 b3 b4 _ rfl (by omega)

theorem limg_all3 (l c d : Int) (w : World) (hT : Tab w) (h3 : -4096 ≤ c) (h4 : c ≤ 4096) (b1 : 1 ≤ l) (b2 : l ≤ 4) (b3 : -4096 ≤ d) (b4 : d ≤ 4096) : Calls Tryd.prog 3 #[ln 3 c, ln l d] w fun e w' => e = .returned (.bool true) ∧ Below w.heap.size w w' := by
  obtain rfl | rfl | rfl | rfl : l = 1 ∨ l = 2 ∨ l = 3 ∨ l = 4 := by omega
  · by_cases h : -4096 ≤ (1) * c + (-1) * d ∧ (1) * c + (-1) * d ≤ 4096
    · exact limg_ok31 c d w hT h3 h4 b3 b4 _ rfl h.1 h.2
    · exact limg_far31 c d w hT h3 h4 b3 b4 _ rfl (by omega)
  · by_cases h : -4096 ≤ (1) * c + (-1) * d ∧ (1) * c + (-1) * d ≤ 4096
    · exact limg_ok32 c d w hT h3 h4 b3 b4 _ rfl h.1 h.2
    · exact limg_far32 c d w hT h3 h4 b3 b4 _ rfl (by omega)
  · by_cases h : -4096 ≤ (2) * c + (-1) * d ∧ (2) * c + (-1) * d ≤ 4096
    · exact limg_ok33 c d w hT h3 h4 b3 b4 _ rfl h.1 h.2
    · exact limg_far33 c d w hT h3 h4 b3 b4 _ rfl (by omega)
  · by_cases h : -4096 ≤ (0) * c + (1) * d ∧ (0) * c + (1) * d ≤ 4096
    · exact limg_ok34 c d w hT h3 h4 b3 b4 _ rfl h.1 h.2
    · exact limg_far34 c d w hT h3 h4 b3 b4 _ rfl (by omega)

theorem limg_all4 (l c d : Int) (w : World) (hT : Tab w) (h3 : -4096 ≤ c) (h4 : c ≤ 4096) (b1 : 1 ≤ l) (b2 : l ≤ 4) (b3 : -4096 ≤ d) (b4 : d ≤ 4096) : Calls Tryd.prog 3 #[ln 4 c, ln l d] w fun e w' => e = .returned (.bool true) ∧ Below w.heap.size w w' := by
  obtain rfl | rfl | rfl | rfl : l = 1 ∨ l = 2 ∨ l = 3 ∨ l = 4 := by omega
  · by_cases h : -4096 ≤ (1) * c + (1) * d ∧ (1) * c + (1) * d ≤ 4096
    · exact limg_ok41 c d w hT h3 h4 b3 b4 _ rfl h.1 h.2
    · exact limg_far41 c d w hT h3 h4 b3 b4 _ rfl (by omega)
  · by_cases h : -4096 ≤ (-1) * c + (1) * d ∧ (-1) * c + (1) * d ≤ 4096
    · exact limg_ok42 c d w hT h3 h4 b3 b4 _ rfl h.1 h.2
    · exact limg_far42 c d w hT h3 h4 b3 b4 _ rfl (by omega)
  · by_cases h : -4096 ≤ (0) * c + (1) * d ∧ (0) * c + (1) * d ≤ 4096
    · exact limg_ok43 c d w hT h3 h4 b3 b4 _ rfl h.1 h.2
    · exact limg_far43 c d w hT h3 h4 b3 b4 _ rfl (by omega)
  · by_cases h : -4096 ≤ (2) * c + (-1) * d ∧ (2) * c + (-1) * d ≤ 4096
    · exact limg_ok44 c d w hT h3 h4 b3 b4 _ rfl h.1 h.2
    · exact limg_far44 c d w hT h3 h4 b3 b4 _ rfl (by omega)

theorem limg_law (k c l d : Int) (w : World) (hT : Tab w) : Calls Tryd.prog 3 #[ln k c, ln l d] w fun e w' => e = .returned (.bool true) ∧ Below w.heap.size w w' := by
  by_cases a : 1 ≤ k ∧ k ≤ 4 ∧ -4096 ≤ c ∧ c ≤ 4096
  · by_cases b : 1 ≤ l ∧ l ≤ 4 ∧ -4096 ≤ d ∧ d ≤ 4096
    · obtain ⟨a1, a2, a3, a4⟩ := a
      obtain rfl | rfl | rfl | rfl : k = 1 ∨ k = 2 ∨ k = 3 ∨ k = 4 := by omega
      · exact limg_all1 l c d w hT a3 a4 b.1 b.2.1 b.2.2.1 b.2.2.2
      · exact limg_all2 l c d w hT a3 a4 b.1 b.2.1 b.2.2.1 b.2.2.2
      · exact limg_all3 l c d w hT a3 a4 b.1 b.2.1 b.2.2.1 b.2.2.2
      · exact limg_all4 l c d w hT a3 a4 b.1 b.2.1 b.2.2.1 b.2.2.2
    · exact limg_case2 k c l d w hT a.1 a.2.1 a.2.2.1 a.2.2.2 (by omega)
  · exact limg_case1 k c l d w hT (by omega)

end Go.Proofs.YtbcmfenekpllhaaDoor
