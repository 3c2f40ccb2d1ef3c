/-
  Says: what the reference reckons of a row.
-/
import Derived.Test.YtdnekeegpenioaaDoorPkC
import Derived.Test.YtdnekeegpenioaaDoorPaW0
set_option linter.unusedVariables false
set_option linter.unusedSimpArgs false
namespace Go.Proofs.YtdnekeegpenioaaDoor
open Go Go.RowKit

/-- Where a unit stands in a list: the last place, or -1. -/
def atK (uc ue : Nat → Int) (c e : Int) : Nat → Int
  | 0 => -1
  | k + 1 => if uc k = c ∧ ue k = e then (k : Int) else atK uc ue c e k
theorem atK_range (uc ue : Nat → Int) (c e : Int) : ∀ m, -1 ≤ atK uc ue c e m ∧ atK uc ue c e m < m
  | 0 => by simp [atK]
  | k + 1 => by
    have := atK_range uc ue c e k
    unfold atK
    split <;> omega
/-- The place of the crease before. -/
def lastA (uc ue : Nat → Int) (m : Nat) (c e : Nat → Int) : Nat → Int
  | 0 => -1
  | i + 1 => atK uc ue (c i) (e i) m
def ordA (uc ue : Nat → Int) (m : Nat) (c e : Nat → Int) : Nat → Int
  | 0 => 0
  | i + 1 => if atK uc ue (c i) (e i) m ≤ lastA uc ue m c e i then 6 else ordA uc ue m c e i

end Go.Proofs.YtdnekeegpenioaaDoor
