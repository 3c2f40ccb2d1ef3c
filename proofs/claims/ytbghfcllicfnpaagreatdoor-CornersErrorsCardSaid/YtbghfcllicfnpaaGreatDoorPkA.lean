/-
  Says: patterns.Check, and that of the reference, over any row.
-/
import Derived.Test.YtbghfcllicfnpaaGreatDoorPkP
import Derived.Test.YtbghfcllicfnpaaGreatDoorPkW
import Derived.Test.YtbghfcllicfnpaaGreatDoorRkW
set_option linter.unusedVariables false
set_option linter.unusedSimpArgs false
namespace Go.Proofs.YtbghfcllicfnpaaGreatDoor
open Go Go.RowKit

theorem check_any {a b : Nat} (h1 : 1 ≤ a) (h2 : a ≤ 5) (h3 : 1 ≤ b) (h4 : b ≤ 5) (c e k : Nat → Int) (pa : Option Addr) (n ca : Nat) (w : World) (hL : Lay w) (hn : (n : Int) ≤ 4096) (ra : Crs w pa n c e k) (hr : ∀ i, i < n → (0 ≤ e i ∧ e i ≤ 255) ∧ (0 ≤ k i ∧ k i ≤ 255)) : Calls Tryz.prog 35 #[.agg #[.int .i64 (a : Int), .int .i64 (b : Int), .slice pa n ca]] w fun r w' => r = .returned (.int .i64 (errP a b n c e k)) ∧ Below w.heap.size w w' := by
  rcases errP_cases a b n c e k with ⟨q, g1, g2, g3, g4⟩ | ⟨g0, ⟨q, g1, g2, g3, g4⟩ | ⟨g1, ⟨q, g2, g3, g4, g5⟩ | ⟨g2, g3⟩⟩⟩
  · rw [g4]
    exact check_kind h1 h2 h3 h4 c e k pa n ca w hL hn ra hr q g1 g2 g3
  · rw [g4]
    exact check_unit h1 h2 h3 h4 c e k pa n ca w hL hn ra hr q g1 g0 g2 g3
  · rw [g5]
    exact check_order h1 h2 h3 h4 c e k pa n ca w hL hn ra hr q g2 g0 g1 g3 (cmp_ge g4)
  · rw [g3]
    exact check_fine h1 h2 h3 h4 c e k pa n ca w hL hn ra hr g0 g1 g2
theorem ref_any {a b : Nat} (h1 : 1 ≤ a) (h2 : a ≤ 5) (h3 : 1 ≤ b) (h4 : b ≤ 5) (c e k : Nat → Int) (pa : Option Addr) (n ca : Nat) (w : World) (hL : Lay w) (hn : (n : Int) ≤ 4096) (ra : Crs w pa n c e k) (hr : ∀ i, i < n → (0 ≤ e i ∧ e i ≤ 255) ∧ (0 ≤ k i ∧ k i ≤ 255)) (uc ue : Nat → Int) (m : Nat) (U : UF a b m uc ue) (hun : ∀ V, Below w.heap.size w V → Calls Tryz.prog 51 #[.agg #[.int .i64 (a : Int), .int .i64 (b : Int)]] V fun r w' => UnsAt m uc ue r w' ∧ Below V.heap.size V w') : Calls Tryz.prog 29 #[.agg #[.int .i64 (a : Int), .int .i64 (b : Int), .slice pa n ca]] w fun r w' => r = .returned (.int .i64 (errP a b n c e k)) ∧ Below w.heap.size w w' := by
  have hat : ∀ i, i < n → isUB a b (c i) (e i) = true → 0 ≤ atK uc ue (c i) (e i) m := fun i hi h => (U.at_iff (hr i hi).1.1).2 h
  rcases errP_cases a b n c e k with ⟨q, g1, g2, g3, g4⟩ | ⟨g0, ⟨q, g1, g2, g3, g4⟩ | ⟨g1, ⟨q, g2, g3, g4, g5⟩ | ⟨g2, g3⟩⟩⟩
  · rw [g4]
    exact ref_kind h1 h2 h3 h4 c e k pa n ca w hL hn ra hr q g1 g2 g3
  · rw [g4]
    refine ref_unit h1 h2 h3 h4 c e k pa n ca w hL hn ra hr uc ue m U.small hun q g1 g0 (fun i hi => hat i (by omega) (g2 i hi)) ?_
    have hx := U.at_iff (c := c q) (hr q g1).1.1
    rcases Int.lt_or_le (atK uc ue (c q) (e q) m) 0 with hl | hl
    · exact hl
    · have := hx.1 hl
      rw [g3] at this
      cases this
  · rw [g5, ← ord_bad (uc := uc) (ue := ue) (m := m) (c := c) (e := e) n (q + 1) g2 ((U.le_iff (hr q (by omega)).1.1 (hr (q + 1) g2).1.1 (g1 q (by omega)) (g1 (q + 1) g2)).2 g4)]
    exact ref_fine h1 h2 h3 h4 c e k pa n ca w hL hn ra hr uc ue m U.small hun g0 fun i hi => hat i hi (g1 i hi)
  · rw [g3, ← ord_good (uc := uc) (ue := ue) (m := m) (c := c) (e := e) n (fun q hq => by
      cases q with
      | zero => have := hat 0 hq (g1 0 hq); show ¬ _ ≤ (-1 : Int); omega
      | succ q => exact fun h => (U.le_iff (hr q (by omega)).1.1 (hr (q + 1) hq).1.1 (g1 q (by omega)) (g1 (q + 1) hq)).1 h (g2 q hq))]
    exact ref_fine h1 h2 h3 h4 c e k pa n ca w hL hn ra hr uc ue m U.small hun g0 fun i hi => hat i hi (g1 i hi)

end Go.Proofs.YtbghfcllicfnpaaGreatDoor
