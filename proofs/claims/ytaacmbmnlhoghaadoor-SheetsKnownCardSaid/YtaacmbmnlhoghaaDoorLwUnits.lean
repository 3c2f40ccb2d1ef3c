/-
  Says: SheetsUnits answers true at every input.
-/
import Derived.Test.YtaacmbmnlhoghaaDoorKV1
import Derived.Test.YtaacmbmnlhoghaaDoorKV2
import Derived.Test.YtaacmbmnlhoghaaDoorKV3
import Derived.Test.YtaacmbmnlhoghaaDoorKV4
import Derived.KernelRfl
set_option maxRecDepth 1000000
set_option linter.unusedVariables false
set_option linter.unusedSimpArgs false
namespace Go.Proofs.YtaacmbmnlhoghaaDoor
open Go Go.Vx
attribute [local instance] anyKeeps

open Go.RowKit
theorem lu_cls (t : Nat → TypeId) (a b : Int) {W H : Nat} {l : List RowE} (hl : RowsOk Tryd.prog (tabG t) l) (hA : unAt t W H l = true) (h_a : 0 ≤ a ∧ a ≤ 255) (h_b : 0 ≤ b ∧ b ≤ 255) (hw : 1 + a % 5 = W) (hh : 1 + b % 5 = H) : Known Tryd.prog (tabG t) 5 [.agg ⟨[.int .u8 a, .int .u8 b]⟩] (.bool true) :=
  path_more (ρ := ofInts [(.u8, a), (.u8, b)]) (tabs_G t) (size_V t) (floor_V t) (ofInts_plain _) (bt := []) (ct := []) trivial trivial (el := [(8, [va [vy 0, vy 1]], va [vi W, vi H])]) ⟨⟨rfl, rfl, of_cls t a b W H h_a h_b hw hh⟩, trivial⟩ (Q2 := QV t l) (hQ2 := QV_ok t hl) (args := [va [vy 0, vy 1]]) (v := vt) rfl rfl (by kernel_rfl) hA
theorem lu_all (t : Nat → TypeId) (a b : Int) (h_a : 0 ≤ a ∧ a ≤ 255) (h_b : 0 ≤ b ∧ b ≤ 255) : Known Tryd.prog (tabG t) 5 [.agg ⟨[.int .u8 a, .int .u8 b]⟩] (.bool true) := by
  have ca : a % 5 = 0 ∨ a % 5 = 1 ∨ a % 5 = 2 ∨ a % 5 = 3 ∨ a % 5 = 4 := by omega
  have cb : b % 5 = 0 ∨ b % 5 = 1 ∨ b % 5 = 2 ∨ b % 5 = 3 ∨ b % 5 = 4 := by omega
  rcases ca with ca | ca | ca | ca | ca
  · rcases cb with cb | cb | cb | cb | cb
    · exact lu_cls t a b (W := 1) (H := 1) (rk_1_1 t) (lu_1_1 t) h_a h_b (by omega) (by omega)
    · exact lu_cls t a b (W := 1) (H := 2) (rk_1_2 t) (lu_1_2 t) h_a h_b (by omega) (by omega)
    · exact lu_cls t a b (W := 1) (H := 3) (rk_1_3 t) (lu_1_3 t) h_a h_b (by omega) (by omega)
    · exact lu_cls t a b (W := 1) (H := 4) (rk_1_4 t) (lu_1_4 t) h_a h_b (by omega) (by omega)
    · exact lu_cls t a b (W := 1) (H := 5) (rk_1_5 t) (lu_1_5 t) h_a h_b (by omega) (by omega)
  · rcases cb with cb | cb | cb | cb | cb
    · exact lu_cls t a b (W := 2) (H := 1) (rk_2_1 t) (lu_2_1 t) h_a h_b (by omega) (by omega)
    · exact lu_cls t a b (W := 2) (H := 2) (rk_2_2 t) (lu_2_2 t) h_a h_b (by omega) (by omega)
    · exact lu_cls t a b (W := 2) (H := 3) (rk_2_3 t) (lu_2_3 t) h_a h_b (by omega) (by omega)
    · exact lu_cls t a b (W := 2) (H := 4) (rk_2_4 t) (lu_2_4 t) h_a h_b (by omega) (by omega)
    · exact lu_cls t a b (W := 2) (H := 5) (rk_2_5 t) (lu_2_5 t) h_a h_b (by omega) (by omega)
  · rcases cb with cb | cb | cb | cb | cb
    · exact lu_cls t a b (W := 3) (H := 1) (rk_3_1 t) (lu_3_1 t) h_a h_b (by omega) (by omega)
    · exact lu_cls t a b (W := 3) (H := 2) (rk_3_2 t) (lu_3_2 t) h_a h_b (by omega) (by omega)
    · exact lu_cls t a b (W := 3) (H := 3) (rk_3_3 t) (lu_3_3 t) h_a h_b (by omega) (by omega)
    · exact lu_cls t a b (W := 3) (H := 4) (rk_3_4 t) (lu_3_4 t) h_a h_b (by omega) (by omega)
    · exact lu_cls t a b (W := 3) (H := 5) (rk_3_5 t) (lu_3_5 t) h_a h_b (by omega) (by omega)
  · rcases cb with cb | cb | cb | cb | cb
    · exact lu_cls t a b (W := 4) (H := 1) (rk_4_1 t) (lu_4_1 t) h_a h_b (by omega) (by omega)
    · exact lu_cls t a b (W := 4) (H := 2) (rk_4_2 t) (lu_4_2 t) h_a h_b (by omega) (by omega)
    · exact lu_cls t a b (W := 4) (H := 3) (rk_4_3 t) (lu_4_3 t) h_a h_b (by omega) (by omega)
    · exact lu_cls t a b (W := 4) (H := 4) (rk_4_4 t) (lu_4_4 t) h_a h_b (by omega) (by omega)
    · exact lu_cls t a b (W := 4) (H := 5) (rk_4_5 t) (lu_4_5 t) h_a h_b (by omega) (by omega)
  · rcases cb with cb | cb | cb | cb | cb
    · exact lu_cls t a b (W := 5) (H := 1) (rk_5_1 t) (lu_5_1 t) h_a h_b (by omega) (by omega)
    · exact lu_cls t a b (W := 5) (H := 2) (rk_5_2 t) (lu_5_2 t) h_a h_b (by omega) (by omega)
    · exact lu_cls t a b (W := 5) (H := 3) (rk_5_3 t) (lu_5_3 t) h_a h_b (by omega) (by omega)
    · exact lu_cls t a b (W := 5) (H := 4) (rk_5_4 t) (lu_5_4 t) h_a h_b (by omega) (by omega)
    · exact lu_cls t a b (W := 5) (H := 5) (rk_5_5 t) (lu_5_5 t) h_a h_b (by omega) (by omega)
theorem sheetsunits_law (a b : Int) (w : World) (hL : Lay w) (a0 : 0 ≤ a) (a1 : a ≤ 255) (b0 : 0 ≤ b) (b1 : b ≤ 255) : Calls Tryd.prog 5 #[.agg #[.int .u8 a, .int .u8 b]] w fun r w' => r = .returned (.bool true) ∧ Below w.heap.size w w' := by
  haveI := anySyms
  exact (lu_all (typ w) a b ⟨a0, a1⟩ ⟨b0, b1⟩).calls (lies_G hL)

end Go.Proofs.YtaacmbmnlhoghaaDoor
