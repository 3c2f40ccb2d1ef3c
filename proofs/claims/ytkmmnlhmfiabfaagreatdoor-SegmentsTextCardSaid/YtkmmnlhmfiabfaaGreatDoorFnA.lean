/-
  Says: what each call of the small functions of package lines and of the reference does.
-/
import Derived.Test.YtkmmnlhmfiabfaaGreatDoorProg
import Derived.Test.YtkmmnlhmfiabfaaGreatDoorLater
import Derived.Laws.EntriesVeiled
namespace Go.Proofs.YtkmmnlhmfiabfaaGreatDoor
open Go Go.RowKit

abbrev ln (k c : Int) : Value := .agg #[.int .u8 k, .int .i64 c]
abbrev pt (x y : Int) : Value := .agg #[.int .i64 x, .int .i64 y]

theorem check_ok (k c : Int) (w : World) (h1 : 1 ≤ k) (h2 : k ≤ 4) (h3 : -4096 ≤ c) (h4 : c ≤ 4096) :
    Calls Tryz.prog 58 #[ln k c] w fun e w' => e = .returned (.int .i64 0) ∧ Below w.heap.size w w' := by
  go_enter Tryz.func58, Tryz.ntmps58
  go_wp2
  go_ret
  exact ⟨rfl, (Below.refl _ _).alloc (Nat.le_refl _) _⟩

theorem check_bad (k c : Int) (w : World) (h : k < 1 ∨ 4 < k ∨ c < -4096 ∨ 4096 < c) :
    Calls Tryz.prog 58 #[ln k c] w fun e w' => e = .returned (.int .i64 1) ∧ Below w.heap.size w w' := by
  by_cases a1 : 1 ≤ k
  · by_cases a2 : k ≤ 4
    · by_cases a3 : -4096 ≤ c
      · have a4 : ¬ c ≤ 4096 := by omega
        clear h
        go_enter Tryz.func58, Tryz.ntmps58
        go_wp2
        go_ret
        exact ⟨rfl, (Below.refl _ _).alloc (Nat.le_refl _) _⟩
      · clear h
        go_enter Tryz.func58, Tryz.ntmps58
        go_wp2
        go_ret
        exact ⟨rfl, (Below.refl _ _).alloc (Nat.le_refl _) _⟩
    · clear h
      go_enter Tryz.func58, Tryz.ntmps58
      go_wp2
      go_ret
      exact ⟨rfl, (Below.refl _ _).alloc (Nat.le_refl _) _⟩
  · clear h
    go_enter Tryz.func58, Tryz.ntmps58
    go_wp2
    go_ret
    exact ⟨rfl, (Below.refl _ _).alloc (Nat.le_refl _) _⟩


theorem within_yes (n m : Int) (w : World) (h0 : 0 ≤ m) (hm : m ≤ 1000000) (h1 : -m ≤ n) (h2 : n ≤ m) :
    Calls Tryz.prog 84 #[.int .i64 n, .int .i64 m] w fun e w' => e = .returned (.bool true) ∧ w = w' := by
  go_enter Tryz.func84, Tryz.ntmps84
  go_wp2
  go_ret
  exact ⟨rfl, rfl⟩

end Go.Proofs.YtkmmnlhmfiabfaaGreatDoor
