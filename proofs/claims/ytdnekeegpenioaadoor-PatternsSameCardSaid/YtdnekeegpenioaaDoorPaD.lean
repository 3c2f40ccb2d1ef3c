/-
  Says: Differ of the reference, over any rows.
-/
import Derived.Test.YtdnekeegpenioaaDoorPa0
import Derived.Deep.RegionHeld3
import Derived.RowKit3
import Derived.BigQuiet
import Derived.Deep.QuietTactic
set_option linter.unusedVariables false
set_option linter.unusedSimpArgs false
namespace Go.Proofs.YtdnekeegpenioaaDoor
open Go Go.RowKit

attribute [local go_sem] World.cell?_alloc_some frozen?_alloc_cells fz0 fz1 fz2 fz3 fz4 fz5


set_option maxRecDepth 100000 in
set_option maxHeartbeats 4000000 in
theorem differ_loop (c e k : Nat → Int) (pa : Option Addr) (n ca : Nat) (c' e' k' : Nat → Int) (pb : Option Addr) (cb : Nat) (w1 h1 D : Int) (q : Nat) (w : World) (hn : (n : Int) ≤ 4096) (hq0 : q ≤ n) (ra : Crs w pa n c e k) (rb : Crs w pb n c' e' k')
    (hno : SameC q c e k c' e' k') (hit : (q = n ∧ D = 0) ∨ (q < n ∧ ¬ (c q = c' q ∧ e q = e' q ∧ k q = k' q) ∧ D = 1)) :
    Calls Tryd.prog 22 #[.agg #[.int .i64 w1, .int .i64 h1, .slice pa n ca], .agg #[.int .i64 w1, .int .i64 h1, .slice pb n cb]] w fun r w' => r = .returned (.int .i64 D) ∧ Below w.heap.size w w' := by
  go_enter Tryd.func22, Tryd.ntmps22
  go_wp2_with fail
  have hB0 : Below w.heap.size w ((w.alloc (.cells #[.int .i64 w1, .int .i64 h1, .slice pa n ca] 26)).alloc (.cells #[.int .i64 w1, .int .i64 h1, .slice pb n cb] 26)) := (by repeat first | (with_reducible exact Below.refl _ _) | (with_reducible assumption) | (with_reducible refine below_on ?_ _) | (with_reducible refine below_dn ?_) | (with_reducible refine below_drew ?_) | (with_reducible refine below_alloc ?_ _) | (with_reducible refine below_set ?_ (by simp; try omega) _) | (exact below_alloc hq _))
  have b0 : ((w.alloc (.cells #[.int .i64 w1, .int .i64 h1, .slice pa n ca] 26)).alloc (.cells #[.int .i64 w1, .int .i64 h1, .slice pb n cb] 26)).cell? ⟨w.heap.size, 2, none⟩ = some (.slice pa n ca) := by simp [go_sem]
  have b1 : ((w.alloc (.cells #[.int .i64 w1, .int .i64 h1, .slice pa n ca] 26)).alloc (.cells #[.int .i64 w1, .int .i64 h1, .slice pb n cb] 26)).cell? ⟨w.heap.size + 1, 2, none⟩ = some (.slice pb n cb) := by simp [go_sem]
  generalize ((w.alloc (.cells #[.int .i64 w1, .int .i64 h1, .slice pa n ca] 26)).alloc (.cells #[.int .i64 w1, .int .i64 h1, .slice pb n cb] 26)) = W0 at *
  go_loopw [5] (fun iv wr => ∃ i : Nat, iv = .int .i64 i ∧ i ≤ q ∧ ∃ x : Later w, wr = on x ∧ (on x).cell? ⟨w.heap.size, 2, none⟩ = some (.slice pa n ca) ∧ (on x).cell? ⟨w.heap.size + 1, 2, none⟩ = some (.slice pb n cb)) (fun iv _ => (n - intOf iv).toNat)
  case atStart => exact ⟨0, rfl, Nat.zero_le _, ⟨W0, hB0⟩, rfl, b0, b1⟩
  case round =>
    obtain ⟨i, rfl, hi, x, rfl, l0, l1⟩ := hrel
    have hq : Below w.heap.size w (on x) := x.b
    clear hB0 b0 b1
    by_cases hin : i < n
    · have hin' : (i : Int) < n := by omega
      obtain ⟨ab, ao, pae, hab, f0, f1, f2⟩ := ra.at hq hin
      obtain ⟨bb, bo, pbe, hbb, g0, g1, g2⟩ := rb.at hq hin
      subst pae pbe
      by_cases him : i = q
      · subst him
        obtain ⟨h1, _⟩ | ⟨_, hd, rfl⟩ := hit
        · exact absurd h1 (by omega)
        by_cases q1 : c i = c' i
        · by_cases q2 : e i = e' i
          · have q3 : (k i == k' i) = false := eqf fun q => hd ⟨q1, q2, q⟩
            rw [← q1] at g0
            rw [← q2] at g1
            clear hd ra rb hno
            go_wp2_with fail
            go_quiet (fail)
            go_wp2_with fail
            (try simp only [Exit.inBlock, Exit.then])
            go_ret
            exact ⟨rfl, (by repeat first | (with_reducible exact Below.refl _ _) | (with_reducible assumption) | (with_reducible refine below_on ?_ _) | (with_reducible refine below_dn ?_) | (with_reducible refine below_drew ?_) | (with_reducible refine below_alloc ?_ _) | (with_reducible refine below_set ?_ (by simp; try omega) _) | (exact below_alloc hq _))⟩
          · have q3 : (e i == e' i) = false := eqf q2
            rw [← q1] at g0
            clear hd ra rb hno
            go_wp2_with fail
            go_quiet (fail)
            go_wp2_with fail
            (try simp only [Exit.inBlock, Exit.then])
            go_ret
            exact ⟨rfl, (by repeat first | (with_reducible exact Below.refl _ _) | (with_reducible assumption) | (with_reducible refine below_on ?_ _) | (with_reducible refine below_dn ?_) | (with_reducible refine below_drew ?_) | (with_reducible refine below_alloc ?_ _) | (with_reducible refine below_set ?_ (by simp; try omega) _) | (exact below_alloc hq _))⟩
        · have q3 : (c i == c' i) = false := eqf q1
          clear hd ra rb hno
          go_wp2_with fail
          go_quiet (fail)
          go_wp2_with fail
          (try simp only [Exit.inBlock, Exit.then])
          go_ret
          exact ⟨rfl, (by repeat first | (with_reducible exact Below.refl _ _) | (with_reducible assumption) | (with_reducible refine below_on ?_ _) | (with_reducible refine below_dn ?_) | (with_reducible refine below_drew ?_) | (with_reducible refine below_alloc ?_ _) | (with_reducible refine below_set ?_ (by simp; try omega) _) | (exact below_alloc hq _))⟩
      · obtain ⟨q1, q2, q3⟩ := hno i (by omega)
        rw [← q1] at g0
        rw [← q2] at g1
        rw [← q3] at g2
        clear ra rb hno hit
        go_wp2_with fail
        go_quiet (fail)
        go_wp2_with fail
        exact ⟨⟨i + 1, by simp, by omega, ⟨_, below_dn hq⟩, rfl, l0, l1⟩, by simp [intOf]; omega⟩
    · obtain ⟨hqn, rfl⟩ | h := hit
      · have hin' : ¬ (i : Int) < n := by omega
        clear ra rb hno
        go_wp2_with fail
        (try simp only [Exit.inBlock, Exit.then])
        go_ret
        exact ⟨rfl, (by repeat first | (with_reducible exact Below.refl _ _) | (with_reducible assumption) | (with_reducible refine below_on ?_ _) | (with_reducible refine below_dn ?_) | (with_reducible refine below_drew ?_) | (with_reducible refine below_alloc ?_ _) | (with_reducible refine below_set ?_ (by simp; try omega) _) | (exact below_alloc hq _))⟩
      · omega

end Go.Proofs.YtdnekeegpenioaaDoor
