/-
  Says: across which edge a neighbour lies.
-/
import Derived.Test.YtgkiliijefkcaaaDoorCf4
import Derived.Test.YtgkiliijefkcaaaDoorCb
set_option linter.unusedVariables false
set_option linter.unusedSimpArgs false
namespace Go.Proofs.YtgkiliijefkcaaaDoor
open Go Go.RowKit

attribute [local go_sem] World.cell?_alloc_some frozen?_alloc_cells fz0 fz1 fz2 fz3 fz4 fz5

/-- Across which edge a neighbour lies. -/
theorem ctouch_nb (x y q e : Int) (w : World) (hL : Lay w) (c1 : -4096 ≤ x) (c2 : x ≤ 4096) (c3 : -4096 ≤ y) (c4 : y ≤ 4096) (c5 : 0 ≤ q) (c6 : q ≤ 3) (d1 : -4096 ≤ (nbX q e x)) (d2 : (nbX q e x) ≤ 4096) (d3 : -4096 ≤ (nbY q e y)) (d4 : (nbY q e y) ≤ 4096) (d5 : 0 ≤ (nbQ q e)) (d6 : (nbQ q e) ≤ 3) (e1 : 0 ≤ e) (e2 : e ≤ 2) : Calls Tryd.prog 20 #[cl x y q, cl (nbX q e x) (nbY q e y) (nbQ q e)] w fun r w' => r = .returned (.tuple #[.int .u8 e, .int .i64 0]) ∧ Below w.heap.size w w' := by
  obtain rfl | rfl | rfl : e = 0 ∨ e = 1 ∨ e = 2 := by omega
  · exact ctouch_t0 x y q _ _ _ w hL c1 c2 c3 c4 c5 c6 d1 d2 d3 d4 d5 d6  (eqR ⟨rfl, rfl, rfl⟩)
  · exact ctouch_t1 x y q _ _ _ w hL c1 c2 c3 c4 c5 c6 d1 d2 d3 d4 d5 d6 (neR (fun h => by have h2 := h.2.2; unfold nbQ at h2; simp at h2; omega)) (eqR ⟨rfl, rfl, rfl⟩)
  · exact ctouch_t2 x y q _ _ _ w hL c1 c2 c3 c4 c5 c6 d1 d2 d3 d4 d5 d6 (neR (fun h => by have h2 := h.2.2; unfold nbQ at h2; simp at h2; omega)) (neR (fun h => by have h2 := h.2.2; unfold nbQ at h2; simp at h2; omega)) (eqR ⟨rfl, rfl, rfl⟩)

end Go.Proofs.YtgkiliijefkcaaaDoor
