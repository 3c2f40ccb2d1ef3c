/-
  Says: what Through gives for every kind and every point; what isKind answers.
-/
import Derived.Test.YtkmmnlhmfiabfaaGreatDoorFnB
import Derived.Test.YtkmmnlhmfiabfaaGreatDoorFnL
set_option linter.unusedVariables false
set_option linter.unusedSimpArgs false
namespace Go.Proofs.YtkmmnlhmfiabfaaGreatDoor
open Go Go.RowKit

theorem kind_yes (k : Int) (w : World) (h1 : 1 ≤ k) (h2 : k ≤ 4) : Calls Tryz.prog 83 #[.int .u8 k] w fun e w' => e = .returned (.bool true) ∧ w = w' := by
  go_enter Tryz.func83, Tryz.ntmps83
  go_wp2
  go_ret
  exact ⟨rfl, rfl⟩
theorem kind_no (k : Int) (w : World) (h : k < 1 ∨ 4 < k) : Calls Tryz.prog 83 #[.int .u8 k] w fun e w' => e = .returned (.bool false) ∧ w = w' := by
  by_cases h1 : 1 ≤ k
  · have h2 : ¬ k ≤ 4 := by omega
    clear h
    go_enter Tryz.func83, Tryz.ntmps83
    go_wp2
    go_ret
    exact ⟨rfl, rfl⟩
  · clear h
    go_enter Tryz.func83, Tryz.ntmps83
    go_wp2
    go_ret
    exact ⟨rfl, rfl⟩

end Go.Proofs.YtkmmnlhmfiabfaaGreatDoor
