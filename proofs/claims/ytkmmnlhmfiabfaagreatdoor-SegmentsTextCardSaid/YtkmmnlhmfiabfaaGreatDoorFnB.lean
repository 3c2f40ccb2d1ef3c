/-
  Says: what each function value of package lines gives, and what the numbers of a point by a kind are.
-/
import Derived.Test.YtkmmnlhmfiabfaaGreatDoorWayF
import Derived.Test.YtkmmnlhmfiabfaaGreatDoorFree
set_option linter.unusedVariables false
set_option linter.unusedSimpArgs false
namespace Go.Proofs.YtkmmnlhmfiabfaaGreatDoor
open Go Go.RowKit

theorem value_1 (x y : Int) (w : World) (h1 : -200000 ≤ x) (h2 : x ≤ 200000) (h3 : -200000 ≤ y) (h4 : y ≤ 200000) : Calls Tryz.prog 121 #[pt x y] w fun e w' => e = .returned (.int .i64 (x)) ∧ Below w.heap.size w w' := by
  go_enter Tryz.func121, Tryz.ntmps121
  go_wp2
  go_ret
  exact ⟨rfl, below_alloc (Below.refl _ _) _⟩
theorem mirror_1 (c x y : Int) (w : World) (h1 : -200000 ≤ x) (h2 : x ≤ 200000) (h3 : -200000 ≤ y) (h4 : y ≤ 200000) (h5 : -200000 ≤ c) (h6 : c ≤ 200000) : Calls Tryz.prog 122 #[.int .i64 c, pt x y] w fun e w' => e = .returned (pt (2 * c - x) (y)) ∧ Below w.heap.size w w' := by
  go_enter Tryz.func122, Tryz.ntmps122
  go_wp2
  exact bodyPost_ret (v := pt (2 * c - x) (y)) (by simp [results, Tryz.results122, go_sem]) rfl ⟨rfl, below_alloc (below_alloc (Below.refl _ _) _) _⟩
theorem point_1 (c : Int) (w : World) : Calls Tryz.prog 123 #[.int .i64 c] w fun e w' => e = .returned (pt (c) (0)) ∧ Below w.heap.size w w' := by
  go_enter Tryz.func123, Tryz.ntmps123
  go_wp2
  exact bodyPost_ret (v := pt (c) (0)) (by simp [results, Tryz.results123, go_sem]) rfl ⟨rfl, below_alloc (Below.refl _ _) _⟩

theorem value_2 (x y : Int) (w : World) (h1 : -200000 ≤ x) (h2 : x ≤ 200000) (h3 : -200000 ≤ y) (h4 : y ≤ 200000) : Calls Tryz.prog 124 #[pt x y] w fun e w' => e = .returned (.int .i64 (y)) ∧ Below w.heap.size w w' := by
  go_enter Tryz.func124, Tryz.ntmps124
  go_wp2
  go_ret
  exact ⟨rfl, below_alloc (Below.refl _ _) _⟩
theorem mirror_2 (c x y : Int) (w : World) (h1 : -200000 ≤ x) (h2 : x ≤ 200000) (h3 : -200000 ≤ y) (h4 : y ≤ 200000) (h5 : -200000 ≤ c) (h6 : c ≤ 200000) : Calls Tryz.prog 125 #[.int .i64 c, pt x y] w fun e w' => e = .returned (pt (x) (2 * c - y)) ∧ Below w.heap.size w w' := by
  go_enter Tryz.func125, Tryz.ntmps125
  go_wp2
  exact bodyPost_ret (v := pt (x) (2 * c - y)) (by simp [results, Tryz.results125, go_sem]) rfl ⟨rfl, below_alloc (below_alloc (Below.refl _ _) _) _⟩
theorem point_2 (c : Int) (w : World) : Calls Tryz.prog 126 #[.int .i64 c] w fun e w' => e = .returned (pt (0) (c)) ∧ Below w.heap.size w w' := by
  go_enter Tryz.func126, Tryz.ntmps126
  go_wp2
  exact bodyPost_ret (v := pt (0) (c)) (by simp [results, Tryz.results126, go_sem]) rfl ⟨rfl, below_alloc (Below.refl _ _) _⟩

theorem value_3 (x y : Int) (w : World) (h1 : -200000 ≤ x) (h2 : x ≤ 200000) (h3 : -200000 ≤ y) (h4 : y ≤ 200000) : Calls Tryz.prog 127 #[pt x y] w fun e w' => e = .returned (.int .i64 (x + y)) ∧ Below w.heap.size w w' := by
  go_enter Tryz.func127, Tryz.ntmps127
  go_wp2
  go_ret
  exact ⟨rfl, below_alloc (Below.refl _ _) _⟩
theorem mirror_3 (c x y : Int) (w : World) (h1 : -200000 ≤ x) (h2 : x ≤ 200000) (h3 : -200000 ≤ y) (h4 : y ≤ 200000) (h5 : -200000 ≤ c) (h6 : c ≤ 200000) : Calls Tryz.prog 128 #[.int .i64 c, pt x y] w fun e w' => e = .returned (pt (c - y) (c - x)) ∧ Below w.heap.size w w' := by
  go_enter Tryz.func128, Tryz.ntmps128
  go_wp2
  exact bodyPost_ret (v := pt (c - y) (c - x)) (by simp [results, Tryz.results128, go_sem]) rfl ⟨rfl, below_alloc (below_alloc (Below.refl _ _) _) _⟩
theorem point_3 (c : Int) (w : World) : Calls Tryz.prog 129 #[.int .i64 c] w fun e w' => e = .returned (pt (c) (0)) ∧ Below w.heap.size w w' := by
  go_enter Tryz.func129, Tryz.ntmps129
  go_wp2
  exact bodyPost_ret (v := pt (c) (0)) (by simp [results, Tryz.results129, go_sem]) rfl ⟨rfl, below_alloc (Below.refl _ _) _⟩

theorem value_4 (x y : Int) (w : World) (h1 : -200000 ≤ x) (h2 : x ≤ 200000) (h3 : -200000 ≤ y) (h4 : y ≤ 200000) : Calls Tryz.prog 130 #[pt x y] w fun e w' => e = .returned (.int .i64 (y - x)) ∧ Below w.heap.size w w' := by
  go_enter Tryz.func130, Tryz.ntmps130
  go_wp2
  go_ret
  exact ⟨rfl, below_alloc (Below.refl _ _) _⟩
theorem mirror_4 (c x y : Int) (w : World) (h1 : -200000 ≤ x) (h2 : x ≤ 200000) (h3 : -200000 ≤ y) (h4 : y ≤ 200000) (h5 : -200000 ≤ c) (h6 : c ≤ 200000) : Calls Tryz.prog 131 #[.int .i64 c, pt x y] w fun e w' => e = .returned (pt (y - c) (x + c)) ∧ Below w.heap.size w w' := by
  go_enter Tryz.func131, Tryz.ntmps131
  go_wp2
  exact bodyPost_ret (v := pt (y - c) (x + c)) (by simp [results, Tryz.results131, go_sem]) rfl ⟨rfl, below_alloc (below_alloc (Below.refl _ _) _) _⟩
theorem point_4 (c : Int) (w : World) : Calls Tryz.prog 132 #[.int .i64 c] w fun e w' => e = .returned (pt (0) (c)) ∧ Below w.heap.size w w' := by
  go_enter Tryz.func132, Tryz.ntmps132
  go_wp2
  exact bodyPost_ret (v := pt (0) (c)) (by simp [results, Tryz.results132, go_sem]) rfl ⟨rfl, below_alloc (Below.refl _ _) _⟩

theorem alloc26 : ∀ w, (Instr.alloc 130 true (.tuple #[])).run Tryz.prog w = .ok (.pointer (some ⟨w.heap.size, 0, none⟩)) (w.alloc (.cells #[.int .i64 0, .int .i64 0] 130)) := fun _ => by kernel_rfl
theorem alloc24 : ∀ w, (Instr.alloc 27 true (.tuple #[])).run Tryz.prog w = .ok (.pointer (some ⟨w.heap.size, 0, none⟩)) (w.alloc (.cells #[.int .u8 0, .int .i64 0] 27)) := fun _ => by kernel_rfl

/-- The number of a point by a kind. -/
def val (k x y : Int) : Int := if k = 1 then x else if k = 2 then y else if k = 3 then x + y else y - x
theorem val1 (x y : Int) : val 1 x y = x := rfl
theorem val2 (x y : Int) : val 2 x y = y := rfl
theorem val3 (x y : Int) : val 3 x y = x + y := rfl
theorem val4 (x y : Int) : val 4 x y = y - x := rfl
/-- The mirror image's coordinates; c in the points' unit. -/
def mirX (k c x y : Int) : Int := if k = 1 then 2 * c - x else if k = 2 then x else if k = 3 then c - y else y - c
def mirY (k c x y : Int) : Int := if k = 1 then y else if k = 2 then 2 * c - y else if k = 3 then c - x else x + c
theorem mirX1 (c x y : Int) : mirX 1 c x y = 2 * c - x := rfl
theorem mirY1 (c x y : Int) : mirY 1 c x y = y := rfl
theorem mirX2 (c x y : Int) : mirX 2 c x y = x := rfl
theorem mirY2 (c x y : Int) : mirY 2 c x y = 2 * c - y := rfl
theorem mirX3 (c x y : Int) : mirX 3 c x y = c - y := rfl
theorem mirY3 (c x y : Int) : mirY 3 c x y = c - x := rfl
theorem mirX4 (c x y : Int) : mirX 4 c x y = y - c := rfl
theorem mirY4 (c x y : Int) : mirY 4 c x y = x + c := rfl
/-- A sign. -/
def sgn (n : Int) : Int := if n < 0 then -1 else if 0 < n then 1 else 0
theorem sgn_neg {n : Int} (h : n < 0) : sgn n = -1 := if_pos h
theorem sgn_pos {n : Int} (h : 0 < n) : sgn n = 1 := by unfold sgn; rw [if_neg (by omega), if_pos h]
theorem sgn_zero : sgn 0 = 0 := rfl

end Go.Proofs.YtkmmnlhmfiabfaaGreatDoor
