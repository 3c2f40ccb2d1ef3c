/-
  Says: Count, over any row of creases.
-/
import Derived.Test.YtdnekeegpenioaaDoorPa0
import Derived.Deep.RegionHeld3
import Derived.RowKit3
import Derived.BigQuiet
import Derived.Deep.QuietTactic
set_option linter.unusedVariables false
set_option linter.unusedSimpArgs false
namespace Go.Proofs.YtdnekeegpenioaaDoor
open Go Go.RowKit

attribute [local go_sem] World.cell?_alloc_some frozen?_alloc_cells fz0 fz1 fz2 fz3 fz4 fz5

/-- How many of the first ones are of a kind. -/
def cntK (k : Nat → Int) (K : Int) : Nat → Nat
  | 0 => 0
  | n + 1 => cntK k K n + (if k n = K then 1 else 0)
theorem cntK_le (k : Nat → Int) (K : Int) : ∀ n, cntK k K n ≤ n
  | 0 => Nat.le_refl _
  | n + 1 => by have := cntK_le k K n; unfold cntK; split <;> omega
set_option maxRecDepth 100000 in
set_option maxHeartbeats 4000000 in
theorem count_any (c e k : Nat → Int) (pa : Option Addr) (n ca : Nat) (w1 h1 K : Int) (w : World) (hn : (n : Int) ≤ 4096) (ra : Crs w pa n c e k) :
    Calls Tryd.prog 26 #[.agg #[.int .i64 w1, .int .i64 h1, .slice pa n ca], .int .u8 K] w fun r w' => r = .returned (.int .i64 (cntK k K n)) ∧ Below w.heap.size w w' := by
  go_enter Tryd.func26, Tryd.ntmps26
  go_wp2_with fail
  have hB0 : Below w.heap.size w (w.alloc (.cells #[.int .i64 w1, .int .i64 h1, .slice pa n ca] 26)) := (by repeat first | (with_reducible exact Below.refl _ _) | (with_reducible assumption) | (with_reducible refine below_on ?_ _) | (with_reducible refine below_dn ?_) | (with_reducible refine below_drew ?_) | (with_reducible refine below_alloc ?_ _) | (with_reducible refine below_set ?_ (by simp; try omega) _) | (exact below_alloc hq _))
  generalize (w.alloc (.cells #[.int .i64 w1, .int .i64 h1, .slice pa n ca] 26)) = W0 at *
  go_loopw [11, 5] (fun iv cv wr => ∃ i : Nat, iv = .int .i64 i ∧ i ≤ n ∧ cv = .int .i64 (cntK k K i) ∧ ∃ x : Later w, wr = on x) (fun iv _ _ => (n - intOf iv).toNat)
  case atStart => exact ⟨0, rfl, Nat.zero_le _, rfl, ⟨W0, hB0⟩, rfl⟩
  case round =>
    obtain ⟨i, rfl, hi, rfl, x, rfl⟩ := hrel
    have hq : Below w.heap.size w (on x) := x.b
    clear hB0
    by_cases hin : i < n
    · have hin' : (i : Int) < n := by omega
      obtain ⟨ab, ao, pae, hab, f0, f1, f2⟩ := ra.at hq hin
      subst pae
      have hc := cntK_le k K i
      clear ra
      by_cases q1 : k i = K
      · have e1 : cntK k K (i + 1) = cntK k K i + 1 := by show cntK k K i + (if k i = K then 1 else 0) = _; rw [if_pos q1]
        subst q1
        go_wp2_with fail
        exact ⟨⟨i + 1, by simp, by omega, by rw [e1]; simp, ⟨_, (by repeat first | (with_reducible exact Below.refl _ _) | (with_reducible assumption) | (with_reducible refine below_on ?_ _) | (with_reducible refine below_dn ?_) | (with_reducible refine below_drew ?_) | (with_reducible refine below_alloc ?_ _) | (with_reducible refine below_set ?_ (by simp; try omega) _) | (exact below_alloc hq _))⟩, rfl⟩, by simp [intOf]; omega⟩
      · have e1 : cntK k K (i + 1) = cntK k K i := by show cntK k K i + (if k i = K then 1 else 0) = _; rw [if_neg q1]; rfl
        have q2 : (k i == K) = false := eqf q1
        go_wp2_with fail
        exact ⟨⟨i + 1, by simp, by omega, by rw [e1], ⟨_, (by repeat first | (with_reducible exact Below.refl _ _) | (with_reducible assumption) | (with_reducible refine below_on ?_ _) | (with_reducible refine below_dn ?_) | (with_reducible refine below_drew ?_) | (with_reducible refine below_alloc ?_ _) | (with_reducible refine below_set ?_ (by simp; try omega) _) | (exact below_alloc hq _))⟩, rfl⟩, by simp [intOf]; omega⟩
    · have hin' : ¬ (i : Int) < n := by omega
      have : i = n := by omega
      subst this
      clear ra
      go_wp2_with fail
      (try simp only [Exit.inBlock, Exit.then])
      go_ret
      exact ⟨rfl, (by repeat first | (with_reducible exact Below.refl _ _) | (with_reducible assumption) | (with_reducible refine below_on ?_ _) | (with_reducible refine below_dn ?_) | (with_reducible refine below_drew ?_) | (with_reducible refine below_alloc ?_ _) | (with_reducible refine below_set ?_ (by simp; try omega) _) | (exact below_alloc hq _))⟩

end Go.Proofs.YtdnekeegpenioaaDoor
