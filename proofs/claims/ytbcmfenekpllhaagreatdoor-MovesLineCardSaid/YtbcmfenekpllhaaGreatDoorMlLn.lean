/-
  Says: MovesLine answers true at every move and every line, where the package-level variables stand as they were laid.
-/
import Derived.Test.YtbcmfenekpllhaaGreatDoorMlLa
import Derived.Test.YtbcmfenekpllhaaGreatDoorMlLb
set_option linter.unusedVariables false
set_option linter.unusedSimpArgs false
namespace Go.Proofs.YtbcmfenekpllhaaGreatDoor
open Go Go.RowKit

theorem movesline_law (t X Y k c : Int) (w : World) (hS : Std w) (a1 : 0 ≤ t) : Calls Tryz.prog 3 #[mv t X Y, ln k c] w fun e w' => e = .returned (.bool true) ∧ Below w.heap.size w w' := by
  by_cases a : t ≤ 7 ∧ -16384 ≤ X ∧ X ≤ 16384 ∧ -16384 ≤ Y ∧ Y ≤ 16384 ∧ (X + Y) % 2 = 0
  · obtain ⟨a2, a3, a4, a5, a6, a7⟩ := a
    by_cases l : 1 ≤ k ∧ k ≤ 4 ∧ -4096 ≤ c ∧ c ≤ 4096
    · obtain ⟨h1, h2, h3, h4⟩ := l
      obtain rfl | rfl | rfl | rfl | rfl | rfl | rfl | rfl : t = 0 ∨ t = 1 ∨ t = 2 ∨ t = 3 ∨ t = 4 ∨ t = 5 ∨ t = 6 ∨ t = 7 := by omega
      · exact mln_t0 X Y k c w hS a3 a4 a5 a6 a7 h1 h2 h3 h4
      · exact mln_t1 X Y k c w hS a3 a4 a5 a6 a7 h1 h2 h3 h4
      · exact mln_t2 X Y k c w hS a3 a4 a5 a6 a7 h1 h2 h3 h4
      · exact mln_t3 X Y k c w hS a3 a4 a5 a6 a7 h1 h2 h3 h4
      · exact mln_t4 X Y k c w hS a3 a4 a5 a6 a7 h1 h2 h3 h4
      · exact mln_t5 X Y k c w hS a3 a4 a5 a6 a7 h1 h2 h3 h4
      · exact mln_t6 X Y k c w hS a3 a4 a5 a6 a7 h1 h2 h3 h4
      · exact mln_t7 X Y k c w hS a3 a4 a5 a6 a7 h1 h2 h3 h4
    · exact mln_bad2 t X Y k c w hS a1 a2 a3 a4 a5 a6 a7 (by omega)
  · exact mln_bad1 t X Y k c w hS (by omega)

end Go.Proofs.YtbcmfenekpllhaaGreatDoor
