/-
  Says: the reference's Check over any row, at a sheet of at most 5 by 5 (kind).
-/
import Derived.Test.YtdnekeegpenioaaDoorRk0
import Derived.Test.YtdnekeegpenioaaDoorPa0
import Derived.Deep.RegionHeld3
import Derived.RowKit3
import Derived.BigQuiet
import Derived.Deep.QuietTactic
import Derived.BigRegion
import Derived.Deep.CutRange
set_option linter.unusedVariables false
set_option linter.unusedSimpArgs false
namespace Go.Proofs.YtdnekeegpenioaaDoor
open Go Go.RowKit

attribute [local go_sem] World.cell?_alloc_some frozen?_alloc_cells fz0 fz1 fz2 fz3 fz4 fz5

set_option maxRecDepth 100000 in
set_option maxHeartbeats 4000000 in
theorem ref_kind {a b : Nat} (h1 : 1 ≤ a) (h2 : a ≤ 5) (h3 : 1 ≤ b) (h4 : b ≤ 5) (c e k : Nat → Int) (pa : Option Addr) (n ca : Nat) (w : World) (hL : Lay w) (hn : (n : Int) ≤ 4096) (ra : Crs w pa n c e k) (hr : ∀ i, i < n → (0 ≤ e i ∧ e i ≤ 255) ∧ (0 ≤ k i ∧ k i ≤ 255)) (q : Nat) (hq0 : q < n) (hg : ∀ i, i < q → 1 ≤ k i ∧ k i ≤ 3) (hbad : ¬ (1 ≤ k q ∧ k q ≤ 3)) : Calls Tryd.prog 9 #[.agg #[.int .i64 (a : Int), .int .i64 (b : Int), .slice pa n ca]] w fun r w' => r = .returned (.int .i64 1) ∧ Below w.heap.size w w' := by
  have hLA : ∀ V, Below w.heap.size w V → Lay V := fun V h => lay_below hL h
  go_enter Tryd.func9, Tryd.ntmps9
  go_wp2_with (first | (go_at_call 8; (with_reducible refine (valid_ok h1 h2 h3 h4 _ (hLA _ (by repeat first | (with_reducible exact Below.refl _ _) | (with_reducible assumption) | (with_reducible refine below_on ?_ _) | (with_reducible refine below_dn ?_) | (with_reducible refine below_drew ?_) | (with_reducible refine below_alloc ?_ _) | (with_reducible refine below_set ?_ (by simp; try omega) _) | (exact below_alloc hq _)))).mono ?_); rintro r_ wx ⟨rfl, hx⟩; obtain ⟨ux, rfl⟩ := after hx; clear hx) | fail)
  have hB1 : Below w.heap.size w (on ux) := (by repeat first | (with_reducible exact Below.refl _ _) | (with_reducible assumption) | (with_reducible refine below_on ?_ _) | (with_reducible refine below_dn ?_) | (with_reducible refine below_drew ?_) | (with_reducible refine below_alloc ?_ _) | (with_reducible refine below_set ?_ (by simp; try omega) _) | (exact below_alloc hq _))
  have x0 : (on ux).cell? ⟨w.heap.size, 0, none⟩ = some (.int .i64 (a : Int)) := cRy ux.b (by simp [go_sem])
  have x1 : (on ux).cell? ⟨w.heap.size, 1, none⟩ = some (.int .i64 (b : Int)) := cRy ux.b (by simp [go_sem])
  have x2 : (on ux).cell? ⟨w.heap.size, 2, none⟩ = some (.slice pa n ca) := cRy ux.b (by simp [go_sem])
  generalize (on ux) = W1 at *
  clear ux
  go_loopw [3] (fun iv wr => ∃ i : Nat, iv = .int .i64 i ∧ i ≤ q ∧ ∃ x : Later W1, wr = on x) (fun iv _ => (n - intOf iv).toNat)
  case atStart => exact ⟨0, rfl, Nat.zero_le _, ⟨W1, Below.refl _ _⟩, rfl⟩
  case round =>
    obtain ⟨i, rfl, hi, x, rfl⟩ := hrel
    have hq : Below W1.heap.size W1 (on x) := x.b
    have hqw : Below w.heap.size w (on x) := hB1.trans (hq.mono hB1.size)
    have l0 := cRy hq x0
    have l1 := cRy hq x1
    have l2 := cRy hq x2
    by_cases hin : i < n
    · have hin' : (i : Int) < n := by omega
      obtain ⟨ab, ao, pae, hab, f0, f1, f2⟩ := ra.at hqw hin
      subst pae
      have hri := hr i hin
      by_cases hiq : i = q
      · subst hiq
        clear hg ra hr
        by_cases hk1 : k i < 1
        · clear hbad
          go_wp2_with fail
          (try simp only [Exit.inBlock, Exit.then])
          go_ret
          exact ⟨rfl, (by repeat first | (with_reducible exact Below.refl _ _) | (with_reducible assumption) | (with_reducible refine below_on ?_ _) | (with_reducible refine below_dn ?_) | (with_reducible refine below_drew ?_) | (with_reducible refine below_alloc ?_ _) | (with_reducible refine below_set ?_ (by simp; try omega) _) | (exact below_alloc hq _))⟩
        · have hk3 : 3 < k i := by omega
          clear hbad
          go_wp2_with fail
          (try simp only [Exit.inBlock, Exit.then])
          go_ret
          exact ⟨rfl, (by repeat first | (with_reducible exact Below.refl _ _) | (with_reducible assumption) | (with_reducible refine below_on ?_ _) | (with_reducible refine below_dn ?_) | (with_reducible refine below_drew ?_) | (with_reducible refine below_alloc ?_ _) | (with_reducible refine below_set ?_ (by simp; try omega) _) | (exact below_alloc hq _))⟩
      · have hgi := hg i (by omega)
        have hk1 : ¬ (k i < 1) := by omega
        have hk3 : ¬ (3 < k i) := by omega
        clear hg hgi hbad ra hr
        go_wp2_with fail
        exact ⟨⟨i + 1, by simp, by omega, x, rfl⟩, by simp [intOf]; omega⟩
    · exact absurd hi (by omega)

end Go.Proofs.YtdnekeegpenioaaDoor
