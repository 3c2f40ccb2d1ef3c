/-
  Says: SheetsCell answers true at every input.
-/
import Derived.Test.YtaacmbmnlhoghaaDoorKY1
import Derived.KernelRfl
set_option maxRecDepth 1000000
set_option linter.unusedVariables false
set_option linter.unusedSimpArgs false
namespace Go.Proofs.YtaacmbmnlhoghaaDoor
open Go Go.Vx

open Go.RowKit
theorem lk_all (t : Nat → TypeId) (a b i x y q : Int) (h_a : 0 ≤ a ∧ a ≤ 255) (h_b : 0 ≤ b ∧ b ≤ 255) (h_i : -9223372036854775808 ≤ i ∧ i ≤ 9223372036854775807) (h_q : 0 ≤ q ∧ q ≤ 255) : Known Tryd.prog (tabG t) 3 [.agg ⟨[.int .u8 a, .int .u8 b]⟩, .int .i64 i, .agg ⟨[.int .i64 x, .int .i64 y, .int .u8 q]⟩] (.bool true) := by
  have ca : a % 5 = 0 ∨ a % 5 = 1 ∨ a % 5 = 2 ∨ a % 5 = 3 ∨ a % 5 = 4 := by omega
  have cb : b % 5 = 0 ∨ b % 5 = 1 ∨ b % 5 = 2 ∨ b % 5 = 3 ∨ b % 5 = 4 := by omega
  rcases ca with ca | ca | ca | ca | ca
  · rcases cb with cb | cb | cb | cb | cb
    · exact lk_1_1 t a b i x y q h_a h_b h_i h_q (by omega) (by omega)
    · exact lk_1_2 t a b i x y q h_a h_b h_i h_q (by omega) (by omega)
    · exact lk_1_3 t a b i x y q h_a h_b h_i h_q (by omega) (by omega)
    · exact lk_1_4 t a b i x y q h_a h_b h_i h_q (by omega) (by omega)
    · exact lk_1_5 t a b i x y q h_a h_b h_i h_q (by omega) (by omega)
  · rcases cb with cb | cb | cb | cb | cb
    · exact lk_2_1 t a b i x y q h_a h_b h_i h_q (by omega) (by omega)
    · exact lk_2_2 t a b i x y q h_a h_b h_i h_q (by omega) (by omega)
    · exact lk_2_3 t a b i x y q h_a h_b h_i h_q (by omega) (by omega)
    · exact lk_2_4 t a b i x y q h_a h_b h_i h_q (by omega) (by omega)
    · exact lk_2_5 t a b i x y q h_a h_b h_i h_q (by omega) (by omega)
  · rcases cb with cb | cb | cb | cb | cb
    · exact lk_3_1 t a b i x y q h_a h_b h_i h_q (by omega) (by omega)
    · exact lk_3_2 t a b i x y q h_a h_b h_i h_q (by omega) (by omega)
    · exact lk_3_3 t a b i x y q h_a h_b h_i h_q (by omega) (by omega)
    · exact lk_3_4 t a b i x y q h_a h_b h_i h_q (by omega) (by omega)
    · exact lk_3_5 t a b i x y q h_a h_b h_i h_q (by omega) (by omega)
  · rcases cb with cb | cb | cb | cb | cb
    · exact lk_4_1 t a b i x y q h_a h_b h_i h_q (by omega) (by omega)
    · exact lk_4_2 t a b i x y q h_a h_b h_i h_q (by omega) (by omega)
    · exact lk_4_3 t a b i x y q h_a h_b h_i h_q (by omega) (by omega)
    · exact lk_4_4 t a b i x y q h_a h_b h_i h_q (by omega) (by omega)
    · exact lk_4_5 t a b i x y q h_a h_b h_i h_q (by omega) (by omega)
  · rcases cb with cb | cb | cb | cb | cb
    · exact lk_5_1 t a b i x y q h_a h_b h_i h_q (by omega) (by omega)
    · exact lk_5_2 t a b i x y q h_a h_b h_i h_q (by omega) (by omega)
    · exact lk_5_3 t a b i x y q h_a h_b h_i h_q (by omega) (by omega)
    · exact lk_5_4 t a b i x y q h_a h_b h_i h_q (by omega) (by omega)
    · exact lk_5_5 t a b i x y q h_a h_b h_i h_q (by omega) (by omega)
theorem sheetscell_law (a b i x y q : Int) (w : World) (hL : Lay w) (a0 : 0 ≤ a) (a1 : a ≤ 255) (b0 : 0 ≤ b) (b1 : b ≤ 255) (i0 : -9223372036854775808 ≤ i) (i1 : i ≤ 9223372036854775807) (q0 : 0 ≤ q) (q1 : q ≤ 255) : Calls Tryd.prog 3 #[.agg #[.int .u8 a, .int .u8 b], .int .i64 i, .agg #[.int .i64 x, .int .i64 y, .int .u8 q]] w fun r w' => r = .returned (.bool true) ∧ Below w.heap.size w w' := by
  haveI := anySyms
  exact (lk_all (typ w) a b i x y q ⟨a0, a1⟩ ⟨b0, b1⟩ ⟨i0, i1⟩ ⟨q0, q1⟩).calls (lies_G hL)

end Go.Proofs.YtaacmbmnlhoghaaDoor
