/-
  Says: patterns.Check over any row, at a sheet of at most 5 by 5 (kind). patterns.Check over any row, at a sheet of at most 5 by 5 (unit). patterns.Check over any row, at a sheet of at most 5 by 5 (order). patterns.Check over any row, at a sheet of at most 5 by 5 (fine).
-/
import Derived.Test.YtbghfcllicfnpaaGreatDoorPkC
import Derived.Test.YtbghfcllicfnpaaGreatDoorPa0
import Derived.Deep.RegionHeld3
import Derived.RowKit3
import Derived.BigQuiet
import Derived.Deep.QuietTactic
import Derived.BigRegion
import Derived.Deep.CutRange
set_option linter.unusedVariables false
set_option linter.unusedSimpArgs false
set_option linter.unusedSectionVars false
namespace Go.Proofs.YtbghfcllicfnpaaGreatDoor
section
open Go Go.RowKit

attribute [local go_sem] World.cell?_alloc_some frozen?_alloc_cells fz0 fz1 fz2 fz3 fz4 fz5

set_option maxRecDepth 100000 in
set_option maxHeartbeats 4000000 in
theorem check_kind {a b : Nat} (h1 : 1 ≤ a) (h2 : a ≤ 5) (h3 : 1 ≤ b) (h4 : b ≤ 5) (c e k : Nat → Int) (pa : Option Addr) (n ca : Nat) (w : World) (hL : Lay w) (hn : (n : Int) ≤ 4096) (ra : Crs w pa n c e k) (hr : ∀ i, i < n → (0 ≤ e i ∧ e i ≤ 255) ∧ (0 ≤ k i ∧ k i ≤ 255)) (q : Nat) (hq0 : q < n) (hg : ∀ i, i < q → 1 ≤ k i ∧ k i ≤ 3) (hbad : ¬ (1 ≤ k q ∧ k q ≤ 3)) : Calls Tryz.prog 35 #[.agg #[.int .i64 (a : Int), .int .i64 (b : Int), .slice pa n ca]] w fun r w' => r = .returned (.int .i64 1) ∧ Below w.heap.size w w' := by
  have hLA : ∀ V, Below w.heap.size w V → Lay V := fun V h => lay_below hL h
  go_enter Tryz.func35, Tryz.ntmps35
  go_wp2_with (first | (go_at_call 52; (with_reducible refine (scheck_ok h1 h2 h3 h4 _ (hLA _ (by repeat first | (with_reducible exact Below.refl _ _) | (with_reducible assumption) | (with_reducible refine below_on ?_ _) | (with_reducible refine below_dn ?_) | (with_reducible refine below_drew ?_) | (with_reducible refine below_alloc ?_ _) | (with_reducible refine below_set ?_ (by simp; try omega) _) | (exact below_alloc hq _)))).mono ?_); rintro r_ wx ⟨rfl, hx⟩; obtain ⟨ux, rfl⟩ := after hx; clear hx) | fail)
  have hB1 : Below w.heap.size w (on ux) := (by repeat first | (with_reducible exact Below.refl _ _) | (with_reducible assumption) | (with_reducible refine below_on ?_ _) | (with_reducible refine below_dn ?_) | (with_reducible refine below_drew ?_) | (with_reducible refine below_alloc ?_ _) | (with_reducible refine below_set ?_ (by simp; try omega) _) | (exact below_alloc hq _))
  have x0 : (on ux).cell? ⟨w.heap.size, 0, none⟩ = some (.int .i64 (a : Int)) := cRy ux.b (by simp [go_sem])
  have x1 : (on ux).cell? ⟨w.heap.size, 1, none⟩ = some (.int .i64 (b : Int)) := cRy ux.b (by simp [go_sem])
  have x2 : (on ux).cell? ⟨w.heap.size, 2, none⟩ = some (.slice pa n ca) := cRy ux.b (by simp [go_sem])
  generalize (on ux) = W1 at *
  clear ux
  go_loopw [18] (fun iv wr => ∃ i : Nat, iv = .int .i64 i ∧ i ≤ q ∧ ∃ x : Later W1, wr = on x) (fun iv _ => (n - intOf iv).toNat)
  case atStart => exact ⟨0, rfl, Nat.zero_le _, ⟨W1, Below.refl _ _⟩, rfl⟩
  case round =>
    obtain ⟨i, rfl, hi, x, rfl⟩ := hrel
    have hq : Below W1.heap.size W1 (on x) := x.b
    have hqw : Below w.heap.size w (on x) := hB1.trans (hq.mono hB1.size)
    by_cases hin : i < n
    · have hin' : (i : Int) < n := by omega
      obtain ⟨ab, ao, pae, hab, f0, f1, f2⟩ := ra.at hqw hin
      subst pae
      have hri := hr i hin
      by_cases hiq : i = q
      · subst hiq
        have hbd : decide (1 ≤ k i ∧ k i ≤ 3) = false := decide_eq_false hbad
        clear hg hbad ra hr
        go_wp2_with (first | (go_at_call 60; (with_reducible refine (isKind_ok (k i) hri.2 false hbd _ (hLA _ (by repeat first | (with_reducible exact Below.refl _ _) | (with_reducible assumption) | (with_reducible refine below_on ?_ _) | (with_reducible refine below_dn ?_) | (with_reducible refine below_drew ?_) | (with_reducible refine below_alloc ?_ _) | (with_reducible refine below_set ?_ (by simp; try omega) _) | (exact below_alloc hq _)))).mono ?_); rintro r_ wx ⟨rfl, hx⟩; obtain ⟨ux, rfl⟩ := after hx; clear hx) | fail)
        (try simp only [Exit.inBlock, Exit.then])
        go_ret
        exact ⟨rfl, (by repeat first | (with_reducible exact Below.refl _ _) | (with_reducible assumption) | (with_reducible refine below_on ?_ _) | (with_reducible refine below_dn ?_) | (with_reducible refine below_drew ?_) | (with_reducible refine below_alloc ?_ _) | (with_reducible refine below_set ?_ (by simp; try omega) _) | (exact below_alloc hq _))⟩
      · have hgd : decide (1 ≤ k i ∧ k i ≤ 3) = true := decide_eq_true (hg i (by omega))
        clear hg hbad ra hr
        go_wp2_with (first | (go_at_call 60; (with_reducible refine (isKind_ok (k i) hri.2 true hgd _ (hLA _ (by repeat first | (with_reducible exact Below.refl _ _) | (with_reducible assumption) | (with_reducible refine below_on ?_ _) | (with_reducible refine below_dn ?_) | (with_reducible refine below_drew ?_) | (with_reducible refine below_alloc ?_ _) | (with_reducible refine below_set ?_ (by simp; try omega) _) | (exact below_alloc hq _)))).mono ?_); rintro r_ wx ⟨rfl, hx⟩; obtain ⟨ux, rfl⟩ := after hx; clear hx) | fail)
        exact ⟨⟨i + 1, by simp, by omega, ⟨on ux, (by repeat first | (with_reducible exact Below.refl _ _) | (with_reducible assumption) | (with_reducible refine below_on ?_ _) | (with_reducible refine below_dn ?_) | (with_reducible refine below_drew ?_) | (with_reducible refine below_alloc ?_ _) | (with_reducible refine below_set ?_ (by simp; try omega) _) | (exact below_alloc hq _))⟩, rfl⟩, by simp [intOf]; omega⟩
    · exact absurd hi (by omega)
end

section
open Go Go.RowKit

attribute [local go_sem] World.cell?_alloc_some frozen?_alloc_cells fz0 fz1 fz2 fz3 fz4 fz5

set_option maxRecDepth 100000 in
set_option maxHeartbeats 4000000 in
theorem check_unit {a b : Nat} (h1 : 1 ≤ a) (h2 : a ≤ 5) (h3 : 1 ≤ b) (h4 : b ≤ 5) (c e k : Nat → Int) (pa : Option Addr) (n ca : Nat) (w : World) (hL : Lay w) (hn : (n : Int) ≤ 4096) (ra : Crs w pa n c e k) (hr : ∀ i, i < n → (0 ≤ e i ∧ e i ≤ 255) ∧ (0 ≤ k i ∧ k i ≤ 255)) (q : Nat) (hq0 : q < n) (hg : ∀ i, i < n → 1 ≤ k i ∧ k i ≤ 3) (hu : ∀ i, i < q → isUB a b (c i) (e i) = true) (hbad : isUB a b (c q) (e q) = false) : Calls Tryz.prog 35 #[.agg #[.int .i64 (a : Int), .int .i64 (b : Int), .slice pa n ca]] w fun r w' => r = .returned (.int .i64 7) ∧ Below w.heap.size w w' := by
  have hLA : ∀ V, Below w.heap.size w V → Lay V := fun V h => lay_below hL h
  go_enter Tryz.func35, Tryz.ntmps35
  go_wp2_with (first | (go_at_call 52; (with_reducible refine (scheck_ok h1 h2 h3 h4 _ (hLA _ (by repeat first | (with_reducible exact Below.refl _ _) | (with_reducible assumption) | (with_reducible refine below_on ?_ _) | (with_reducible refine below_dn ?_) | (with_reducible refine below_drew ?_) | (with_reducible refine below_alloc ?_ _) | (with_reducible refine below_set ?_ (by simp; try omega) _) | (exact below_alloc hq _)))).mono ?_); rintro r_ wx ⟨rfl, hx⟩; obtain ⟨ux, rfl⟩ := after hx; clear hx) | fail)
  have hB1 : Below w.heap.size w (on ux) := (by repeat first | (with_reducible exact Below.refl _ _) | (with_reducible assumption) | (with_reducible refine below_on ?_ _) | (with_reducible refine below_dn ?_) | (with_reducible refine below_drew ?_) | (with_reducible refine below_alloc ?_ _) | (with_reducible refine below_set ?_ (by simp; try omega) _) | (exact below_alloc hq _))
  have x0 : (on ux).cell? ⟨w.heap.size, 0, none⟩ = some (.int .i64 (a : Int)) := cRy ux.b (by simp [go_sem])
  have x1 : (on ux).cell? ⟨w.heap.size, 1, none⟩ = some (.int .i64 (b : Int)) := cRy ux.b (by simp [go_sem])
  have x2 : (on ux).cell? ⟨w.heap.size, 2, none⟩ = some (.slice pa n ca) := cRy ux.b (by simp [go_sem])
  generalize (on ux) = W1 at *
  clear ux
  go_loopw [18] (fun iv wr => ∃ i : Nat, iv = .int .i64 i ∧ i ≤ n ∧ ∃ x : Later W1, wr = on x) (fun iv _ => (n - intOf iv).toNat)
  case atStart => exact ⟨0, rfl, Nat.zero_le _, ⟨W1, Below.refl _ _⟩, rfl⟩
  case round =>
    obtain ⟨i, rfl, hi, x, rfl⟩ := hrel
    have hq : Below W1.heap.size W1 (on x) := x.b
    have hqw : Below w.heap.size w (on x) := hB1.trans (hq.mono hB1.size)
    by_cases hin : i < n
    · have hin' : (i : Int) < n := by omega
      obtain ⟨ab, ao, pae, hab, f0, f1, f2⟩ := ra.at hqw hin
      subst pae
      have hri := hr i hin
      have hgd : decide (1 ≤ k i ∧ k i ≤ 3) = true := decide_eq_true (hg i hin)
      clear hg ra hr
      go_wp2_with (first | (go_at_call 60; (with_reducible refine (isKind_ok (k i) hri.2 true hgd _ (hLA _ (by repeat first | (with_reducible exact Below.refl _ _) | (with_reducible assumption) | (with_reducible refine below_on ?_ _) | (with_reducible refine below_dn ?_) | (with_reducible refine below_drew ?_) | (with_reducible refine below_alloc ?_ _) | (with_reducible refine below_set ?_ (by simp; try omega) _) | (exact below_alloc hq _)))).mono ?_); rintro r_ wx ⟨rfl, hx⟩; obtain ⟨ux, rfl⟩ := after hx; clear hx) | fail)
      exact ⟨⟨i + 1, by simp, by omega, ⟨on ux, (by repeat first | (with_reducible exact Below.refl _ _) | (with_reducible assumption) | (with_reducible refine below_on ?_ _) | (with_reducible refine below_dn ?_) | (with_reducible refine below_drew ?_) | (with_reducible refine below_alloc ?_ _) | (with_reducible refine below_set ?_ (by simp; try omega) _) | (exact below_alloc hq _))⟩, rfl⟩, by simp [intOf]; omega⟩
    · have hin' : ¬ (i : Int) < n := by omega
      have l0 := cRy hq x0
      have l1 := cRy hq x1
      have l2 := cRy hq x2
      obtain rfl : n = i := by omega
      go_wp2_with fail
      (try simp only [Exit.inBlock, Exit.then])
      go_wp2_with fail
      go_loopw [30] (fun iv wr => ∃ i : Nat, iv = .int .i64 i ∧ i ≤ q ∧ ∃ x : Later W1, wr = on x) (fun iv _ => (n - intOf iv).toNat)
      case atStart => exact ⟨0, rfl, Nat.zero_le _, x, rfl⟩
      case round =>
        clear l0 l1 l2 hq hqw
        obtain ⟨i, rfl, hi, x, rfl⟩ := hrel
        have hq : Below W1.heap.size W1 (on x) := x.b
        have hqw : Below w.heap.size w (on x) := hB1.trans (hq.mono hB1.size)
        have l0 := cRy hq x0
        have l1 := cRy hq x1
        have l2 := cRy hq x2
        by_cases hin : i < n
        · have hin' : (i : Int) < n := by omega
          obtain ⟨ab, ao, pae, hab, f0, f1, f2⟩ := ra.at hqw hin
          subst pae
          have hri := hr i hin
          by_cases hiq : i = q
          · subst hiq
            have hun := hbad
            clear hg hu hbad ra hr
            go_upto_region 13 with fail
            refine region_later (by kernel_rfl) (by kernel_rfl) ?_
            repeat (go_big_quiet_step ((first | (go_at_call 46; with_reducible exact Calls.later (unitOf_ok (c i) (e i) (k i) hri.1 hri.2 _ (hLA _ (by repeat first | (with_reducible exact Below.refl _ _) | (with_reducible assumption) | (with_reducible refine below_on ?_ _) | (with_reducible refine below_dn ?_) | (with_reducible refine below_drew ?_) | (with_reducible refine below_alloc ?_ _) | (with_reducible refine below_set ?_ (by simp; try omega) _) | (exact below_alloc hq _))))) | (go_at_call 61; with_reducible exact Calls.later (isUnit_ok h1 h2 h3 h4 (c i) (e i) hri.1 false hun _ (hLA _ (by repeat first | (with_reducible exact Below.refl _ _) | (with_reducible assumption) | (with_reducible refine below_on ?_ _) | (with_reducible refine below_dn ?_) | (with_reducible refine below_drew ?_) | (with_reducible refine below_alloc ?_ _) | (with_reducible refine below_set ?_ (by simp; try omega) _) | (exact below_alloc hq _))))) | fail)))
            refine wpQuiet_nil ?_
            rintro _ ⟨u3, rfl⟩
            go_wp2_with fail
            (try simp only [Exit.inBlock, Exit.then])
            go_ret
            exact ⟨rfl, (by repeat first | (with_reducible exact Below.refl _ _) | (with_reducible assumption) | (with_reducible refine below_on ?_ _) | (with_reducible refine below_dn ?_) | (with_reducible refine below_drew ?_) | (with_reducible refine below_alloc ?_ _) | (with_reducible refine below_set ?_ (by simp; try omega) _) | (exact below_alloc hq _))⟩
          · have hun := hu i (by omega)
            clear hg hu hbad ra hr
            go_upto_region 13 with fail
            refine region_later (by kernel_rfl) (by kernel_rfl) ?_
            repeat (go_big_quiet_step ((first | (go_at_call 46; with_reducible exact Calls.later (unitOf_ok (c i) (e i) (k i) hri.1 hri.2 _ (hLA _ (by repeat first | (with_reducible exact Below.refl _ _) | (with_reducible assumption) | (with_reducible refine below_on ?_ _) | (with_reducible refine below_dn ?_) | (with_reducible refine below_drew ?_) | (with_reducible refine below_alloc ?_ _) | (with_reducible refine below_set ?_ (by simp; try omega) _) | (exact below_alloc hq _))))) | (go_at_call 61; with_reducible exact Calls.later (isUnit_ok h1 h2 h3 h4 (c i) (e i) hri.1 true hun _ (hLA _ (by repeat first | (with_reducible exact Below.refl _ _) | (with_reducible assumption) | (with_reducible refine below_on ?_ _) | (with_reducible refine below_dn ?_) | (with_reducible refine below_drew ?_) | (with_reducible refine below_alloc ?_ _) | (with_reducible refine below_set ?_ (by simp; try omega) _) | (exact below_alloc hq _))))) | fail)))
            refine wpQuiet_nil ?_
            rintro _ ⟨u3, rfl⟩
            go_wp2_with fail
            exact ⟨⟨i + 1, by simp, by omega, ⟨on u3, (by repeat first | (with_reducible exact Below.refl _ _) | (with_reducible assumption) | (with_reducible refine below_on ?_ _) | (with_reducible refine below_dn ?_) | (with_reducible refine below_drew ?_) | (with_reducible refine below_alloc ?_ _) | (with_reducible refine below_set ?_ (by simp; try omega) _) | (exact below_alloc hq _))⟩, rfl⟩, by simp [intOf]; omega⟩
        · exact absurd hi (by omega)
end

section
open Go Go.RowKit

attribute [local go_sem] World.cell?_alloc_some frozen?_alloc_cells fz0 fz1 fz2 fz3 fz4 fz5

set_option maxRecDepth 100000 in
set_option maxHeartbeats 4000000 in
theorem check_order {a b : Nat} (h1 : 1 ≤ a) (h2 : a ≤ 5) (h3 : 1 ≤ b) (h4 : b ≤ 5) (c e k : Nat → Int) (pa : Option Addr) (n ca : Nat) (w : World) (hL : Lay w) (hn : (n : Int) ≤ 4096) (ra : Crs w pa n c e k) (hr : ∀ i, i < n → (0 ≤ e i ∧ e i ≤ 255) ∧ (0 ≤ k i ∧ k i ≤ 255)) (q : Nat) (hq0 : q + 1 < n) (hg : ∀ i, i < n → 1 ≤ k i ∧ k i ≤ 3) (hu : ∀ i, i < n → isUB a b (c i) (e i) = true) (ho : ∀ i, i + 1 < (q + 1) → cmpU (c i) (e i) (c (i + 1)) (e (i + 1)) = -1) (hbad : cmpU (c q) (e q) (c (q + 1)) (e (q + 1)) = 0 ∨ cmpU (c q) (e q) (c (q + 1)) (e (q + 1)) = 1) : Calls Tryz.prog 35 #[.agg #[.int .i64 (a : Int), .int .i64 (b : Int), .slice pa n ca]] w fun r w' => r = .returned (.int .i64 6) ∧ Below w.heap.size w w' := by
  have hLA : ∀ V, Below w.heap.size w V → Lay V := fun V h => lay_below hL h
  go_enter Tryz.func35, Tryz.ntmps35
  go_wp2_with (first | (go_at_call 52; (with_reducible refine (scheck_ok h1 h2 h3 h4 _ (hLA _ (by repeat first | (with_reducible exact Below.refl _ _) | (with_reducible assumption) | (with_reducible refine below_on ?_ _) | (with_reducible refine below_dn ?_) | (with_reducible refine below_drew ?_) | (with_reducible refine below_alloc ?_ _) | (with_reducible refine below_set ?_ (by simp; try omega) _) | (exact below_alloc hq _)))).mono ?_); rintro r_ wx ⟨rfl, hx⟩; obtain ⟨ux, rfl⟩ := after hx; clear hx) | fail)
  have hB1 : Below w.heap.size w (on ux) := (by repeat first | (with_reducible exact Below.refl _ _) | (with_reducible assumption) | (with_reducible refine below_on ?_ _) | (with_reducible refine below_dn ?_) | (with_reducible refine below_drew ?_) | (with_reducible refine below_alloc ?_ _) | (with_reducible refine below_set ?_ (by simp; try omega) _) | (exact below_alloc hq _))
  have x0 : (on ux).cell? ⟨w.heap.size, 0, none⟩ = some (.int .i64 (a : Int)) := cRy ux.b (by simp [go_sem])
  have x1 : (on ux).cell? ⟨w.heap.size, 1, none⟩ = some (.int .i64 (b : Int)) := cRy ux.b (by simp [go_sem])
  have x2 : (on ux).cell? ⟨w.heap.size, 2, none⟩ = some (.slice pa n ca) := cRy ux.b (by simp [go_sem])
  generalize (on ux) = W1 at *
  clear ux
  go_loopw [18] (fun iv wr => ∃ i : Nat, iv = .int .i64 i ∧ i ≤ n ∧ ∃ x : Later W1, wr = on x) (fun iv _ => (n - intOf iv).toNat)
  case atStart => exact ⟨0, rfl, Nat.zero_le _, ⟨W1, Below.refl _ _⟩, rfl⟩
  case round =>
    obtain ⟨i, rfl, hi, x, rfl⟩ := hrel
    have hq : Below W1.heap.size W1 (on x) := x.b
    have hqw : Below w.heap.size w (on x) := hB1.trans (hq.mono hB1.size)
    by_cases hin : i < n
    · have hin' : (i : Int) < n := by omega
      obtain ⟨ab, ao, pae, hab, f0, f1, f2⟩ := ra.at hqw hin
      subst pae
      have hri := hr i hin
      have hgd : decide (1 ≤ k i ∧ k i ≤ 3) = true := decide_eq_true (hg i hin)
      clear hg ra hr
      go_wp2_with (first | (go_at_call 60; (with_reducible refine (isKind_ok (k i) hri.2 true hgd _ (hLA _ (by repeat first | (with_reducible exact Below.refl _ _) | (with_reducible assumption) | (with_reducible refine below_on ?_ _) | (with_reducible refine below_dn ?_) | (with_reducible refine below_drew ?_) | (with_reducible refine below_alloc ?_ _) | (with_reducible refine below_set ?_ (by simp; try omega) _) | (exact below_alloc hq _)))).mono ?_); rintro r_ wx ⟨rfl, hx⟩; obtain ⟨ux, rfl⟩ := after hx; clear hx) | fail)
      exact ⟨⟨i + 1, by simp, by omega, ⟨on ux, (by repeat first | (with_reducible exact Below.refl _ _) | (with_reducible assumption) | (with_reducible refine below_on ?_ _) | (with_reducible refine below_dn ?_) | (with_reducible refine below_drew ?_) | (with_reducible refine below_alloc ?_ _) | (with_reducible refine below_set ?_ (by simp; try omega) _) | (exact below_alloc hq _))⟩, rfl⟩, by simp [intOf]; omega⟩
    · have hin' : ¬ (i : Int) < n := by omega
      have l0 := cRy hq x0
      have l1 := cRy hq x1
      have l2 := cRy hq x2
      obtain rfl : n = i := by omega
      go_wp2_with fail
      (try simp only [Exit.inBlock, Exit.then])
      go_wp2_with fail
      go_loopw [30] (fun iv wr => ∃ i : Nat, iv = .int .i64 i ∧ i ≤ n ∧ ∃ x : Later W1, wr = on x) (fun iv _ => (n - intOf iv).toNat)
      case atStart => exact ⟨0, rfl, Nat.zero_le _, x, rfl⟩
      case round =>
        clear l0 l1 l2 hq hqw
        obtain ⟨i, rfl, hi, x, rfl⟩ := hrel
        have hq : Below W1.heap.size W1 (on x) := x.b
        have hqw : Below w.heap.size w (on x) := hB1.trans (hq.mono hB1.size)
        have l0 := cRy hq x0
        have l1 := cRy hq x1
        have l2 := cRy hq x2
        by_cases hin : i < n
        · have hin' : (i : Int) < n := by omega
          obtain ⟨ab, ao, pae, hab, f0, f1, f2⟩ := ra.at hqw hin
          subst pae
          have hri := hr i hin
          have hun := hu i hin
          clear hg hu ra hr
          go_upto_region 13 with fail
          refine region_later (by kernel_rfl) (by kernel_rfl) ?_
          repeat (go_big_quiet_step ((first | (go_at_call 46; with_reducible exact Calls.later (unitOf_ok (c i) (e i) (k i) hri.1 hri.2 _ (hLA _ (by repeat first | (with_reducible exact Below.refl _ _) | (with_reducible assumption) | (with_reducible refine below_on ?_ _) | (with_reducible refine below_dn ?_) | (with_reducible refine below_drew ?_) | (with_reducible refine below_alloc ?_ _) | (with_reducible refine below_set ?_ (by simp; try omega) _) | (exact below_alloc hq _))))) | (go_at_call 61; with_reducible exact Calls.later (isUnit_ok h1 h2 h3 h4 (c i) (e i) hri.1 true hun _ (hLA _ (by repeat first | (with_reducible exact Below.refl _ _) | (with_reducible assumption) | (with_reducible refine below_on ?_ _) | (with_reducible refine below_dn ?_) | (with_reducible refine below_drew ?_) | (with_reducible refine below_alloc ?_ _) | (with_reducible refine below_set ?_ (by simp; try omega) _) | (exact below_alloc hq _))))) | fail)))
          refine wpQuiet_nil ?_
          rintro _ ⟨u3, rfl⟩
          go_wp2_with fail
          exact ⟨⟨i + 1, by simp, by omega, ⟨on u3, (by repeat first | (with_reducible exact Below.refl _ _) | (with_reducible assumption) | (with_reducible refine below_on ?_ _) | (with_reducible refine below_dn ?_) | (with_reducible refine below_drew ?_) | (with_reducible refine below_alloc ?_ _) | (with_reducible refine below_set ?_ (by simp; try omega) _) | (exact below_alloc hq _))⟩, rfl⟩, by simp [intOf]; omega⟩
        · have hin' : ¬ (i : Int) < n := by omega
          obtain rfl : n = i := by omega
          go_wp2_with fail
          (try simp only [Exit.inBlock, Exit.then])
          go_wp2_with fail
          go_loopw [8] (fun iv wr => ∃ j : Nat, iv = .int .i64 ((j : Int) + 1) ∧ (j = 0 ∨ j < q + 1) ∧ ∃ x : Later W1, wr = on x) (fun iv _ => (n - intOf iv).toNat)
          case atStart => exact ⟨0, rfl, .inl rfl, x, rfl⟩
          case round =>
            clear l0 l1 l2 hq hqw
            obtain ⟨j, rfl, hj, x, rfl⟩ := hrel
            have hq : Below W1.heap.size W1 (on x) := x.b
            have hqw : Below w.heap.size w (on x) := hB1.trans (hq.mono hB1.size)
            have l0 := cRy hq x0
            have l1 := cRy hq x1
            have l2 := cRy hq x2
            by_cases hin : j + 1 < n
            · have hin' : (j : Int) + 1 < n := by omega
              have hin2 : (j : Int) < n := by omega
              obtain ⟨ab, ao, pae, hab, f0, f1, f2⟩ := ra.at hqw (i := j) (by omega)
              obtain ⟨ab', ao', pae', hab', g0, g1, g2⟩ := ra.at hqw hin
              subst pae
              obtain ⟨rfl, rfl⟩ : ab' = ab ∧ ao' = ao := by
                have := Option.some.inj pae'
                simp only [Addr.mk.injEq] at this
                exact ⟨this.1.symm, this.2.1.symm⟩
              have hri := hr j (by omega)
              have hrj := hr (j + 1) hin
              by_cases hiq : j = q
              · subst hiq
                clear hg hu ho ra hr
                rcases hbad with hbad | hbad
                · go_upto_region 19 with fail
                  refine region_later (by kernel_rfl) (by kernel_rfl) ?_
                  repeat (go_big_quiet_step ((first | (go_at_call 46; with_reducible exact Calls.later (unitOf_ok (c j) (e j) (k j) hri.1 hri.2 _ (hLA _ (by repeat first | (with_reducible exact Below.refl _ _) | (with_reducible assumption) | (with_reducible refine below_on ?_ _) | (with_reducible refine below_dn ?_) | (with_reducible refine below_drew ?_) | (with_reducible refine below_alloc ?_ _) | (with_reducible refine below_set ?_ (by simp; try omega) _) | (exact below_alloc hq _))))) | (go_at_call 46; with_reducible exact Calls.later (unitOf_ok (c (j + 1)) (e (j + 1)) (k (j + 1)) hrj.1 hrj.2 _ (hLA _ (by repeat first | (with_reducible exact Below.refl _ _) | (with_reducible assumption) | (with_reducible refine below_on ?_ _) | (with_reducible refine below_dn ?_) | (with_reducible refine below_drew ?_) | (with_reducible refine below_alloc ?_ _) | (with_reducible refine below_set ?_ (by simp; try omega) _) | (exact below_alloc hq _))))) | (go_at_call 50; with_reducible exact Calls.later (compare_ok (c j) (e j) (c (j + 1)) (e (j + 1)) hri.1 hrj.1 (0) hbad _ (hLA _ (by repeat first | (with_reducible exact Below.refl _ _) | (with_reducible assumption) | (with_reducible refine below_on ?_ _) | (with_reducible refine below_dn ?_) | (with_reducible refine below_drew ?_) | (with_reducible refine below_alloc ?_ _) | (with_reducible refine below_set ?_ (by simp; try omega) _) | (exact below_alloc hq _))))) | fail)))
                  refine wpQuiet_nil ?_
                  rintro _ ⟨u3, rfl⟩
                  go_wp2_with fail
                  (try simp only [Exit.inBlock, Exit.then])
                  go_ret
                  exact ⟨rfl, (by repeat first | (with_reducible exact Below.refl _ _) | (with_reducible assumption) | (with_reducible refine below_on ?_ _) | (with_reducible refine below_dn ?_) | (with_reducible refine below_drew ?_) | (with_reducible refine below_alloc ?_ _) | (with_reducible refine below_set ?_ (by simp; try omega) _) | (exact below_alloc hq _))⟩
                · go_upto_region 19 with fail
                  refine region_later (by kernel_rfl) (by kernel_rfl) ?_
                  repeat (go_big_quiet_step ((first | (go_at_call 46; with_reducible exact Calls.later (unitOf_ok (c j) (e j) (k j) hri.1 hri.2 _ (hLA _ (by repeat first | (with_reducible exact Below.refl _ _) | (with_reducible assumption) | (with_reducible refine below_on ?_ _) | (with_reducible refine below_dn ?_) | (with_reducible refine below_drew ?_) | (with_reducible refine below_alloc ?_ _) | (with_reducible refine below_set ?_ (by simp; try omega) _) | (exact below_alloc hq _))))) | (go_at_call 46; with_reducible exact Calls.later (unitOf_ok (c (j + 1)) (e (j + 1)) (k (j + 1)) hrj.1 hrj.2 _ (hLA _ (by repeat first | (with_reducible exact Below.refl _ _) | (with_reducible assumption) | (with_reducible refine below_on ?_ _) | (with_reducible refine below_dn ?_) | (with_reducible refine below_drew ?_) | (with_reducible refine below_alloc ?_ _) | (with_reducible refine below_set ?_ (by simp; try omega) _) | (exact below_alloc hq _))))) | (go_at_call 50; with_reducible exact Calls.later (compare_ok (c j) (e j) (c (j + 1)) (e (j + 1)) hri.1 hrj.1 (1) hbad _ (hLA _ (by repeat first | (with_reducible exact Below.refl _ _) | (with_reducible assumption) | (with_reducible refine below_on ?_ _) | (with_reducible refine below_dn ?_) | (with_reducible refine below_drew ?_) | (with_reducible refine below_alloc ?_ _) | (with_reducible refine below_set ?_ (by simp; try omega) _) | (exact below_alloc hq _))))) | fail)))
                  refine wpQuiet_nil ?_
                  rintro _ ⟨u3, rfl⟩
                  go_wp2_with fail
                  (try simp only [Exit.inBlock, Exit.then])
                  go_ret
                  exact ⟨rfl, (by repeat first | (with_reducible exact Below.refl _ _) | (with_reducible assumption) | (with_reducible refine below_on ?_ _) | (with_reducible refine below_dn ?_) | (with_reducible refine below_drew ?_) | (with_reducible refine below_alloc ?_ _) | (with_reducible refine below_set ?_ (by simp; try omega) _) | (exact below_alloc hq _))⟩
              · have hcm := ho j (by omega)
                clear hg hu ho hbad ra hr
                go_upto_region 19 with fail
                refine region_later (by kernel_rfl) (by kernel_rfl) ?_
                repeat (go_big_quiet_step ((first | (go_at_call 46; with_reducible exact Calls.later (unitOf_ok (c j) (e j) (k j) hri.1 hri.2 _ (hLA _ (by repeat first | (with_reducible exact Below.refl _ _) | (with_reducible assumption) | (with_reducible refine below_on ?_ _) | (with_reducible refine below_dn ?_) | (with_reducible refine below_drew ?_) | (with_reducible refine below_alloc ?_ _) | (with_reducible refine below_set ?_ (by simp; try omega) _) | (exact below_alloc hq _))))) | (go_at_call 46; with_reducible exact Calls.later (unitOf_ok (c (j + 1)) (e (j + 1)) (k (j + 1)) hrj.1 hrj.2 _ (hLA _ (by repeat first | (with_reducible exact Below.refl _ _) | (with_reducible assumption) | (with_reducible refine below_on ?_ _) | (with_reducible refine below_dn ?_) | (with_reducible refine below_drew ?_) | (with_reducible refine below_alloc ?_ _) | (with_reducible refine below_set ?_ (by simp; try omega) _) | (exact below_alloc hq _))))) | (go_at_call 50; with_reducible exact Calls.later (compare_ok (c j) (e j) (c (j + 1)) (e (j + 1)) hri.1 hrj.1 (-1) hcm _ (hLA _ (by repeat first | (with_reducible exact Below.refl _ _) | (with_reducible assumption) | (with_reducible refine below_on ?_ _) | (with_reducible refine below_dn ?_) | (with_reducible refine below_drew ?_) | (with_reducible refine below_alloc ?_ _) | (with_reducible refine below_set ?_ (by simp; try omega) _) | (exact below_alloc hq _))))) | fail)))
                refine wpQuiet_nil ?_
                rintro _ ⟨u3, rfl⟩
                go_wp2_with fail
                exact ⟨⟨j + 1, by simp, .inr (by omega), ⟨on u3, (by repeat first | (with_reducible exact Below.refl _ _) | (with_reducible assumption) | (with_reducible refine below_on ?_ _) | (with_reducible refine below_dn ?_) | (with_reducible refine below_drew ?_) | (with_reducible refine below_alloc ?_ _) | (with_reducible refine below_set ?_ (by simp; try omega) _) | (exact below_alloc hq _))⟩, rfl⟩, by simp [intOf]; omega⟩
            · exact absurd hin (by omega)
end

section
open Go Go.RowKit

attribute [local go_sem] World.cell?_alloc_some frozen?_alloc_cells fz0 fz1 fz2 fz3 fz4 fz5

set_option maxRecDepth 100000 in
set_option maxHeartbeats 4000000 in
theorem check_fine {a b : Nat} (h1 : 1 ≤ a) (h2 : a ≤ 5) (h3 : 1 ≤ b) (h4 : b ≤ 5) (c e k : Nat → Int) (pa : Option Addr) (n ca : Nat) (w : World) (hL : Lay w) (hn : (n : Int) ≤ 4096) (ra : Crs w pa n c e k) (hr : ∀ i, i < n → (0 ≤ e i ∧ e i ≤ 255) ∧ (0 ≤ k i ∧ k i ≤ 255)) (hg : ∀ i, i < n → 1 ≤ k i ∧ k i ≤ 3) (hu : ∀ i, i < n → isUB a b (c i) (e i) = true) (ho : ∀ i, i + 1 < n → cmpU (c i) (e i) (c (i + 1)) (e (i + 1)) = -1) : Calls Tryz.prog 35 #[.agg #[.int .i64 (a : Int), .int .i64 (b : Int), .slice pa n ca]] w fun r w' => r = .returned (.int .i64 0) ∧ Below w.heap.size w w' := by
  have hLA : ∀ V, Below w.heap.size w V → Lay V := fun V h => lay_below hL h
  go_enter Tryz.func35, Tryz.ntmps35
  go_wp2_with (first | (go_at_call 52; (with_reducible refine (scheck_ok h1 h2 h3 h4 _ (hLA _ (by repeat first | (with_reducible exact Below.refl _ _) | (with_reducible assumption) | (with_reducible refine below_on ?_ _) | (with_reducible refine below_dn ?_) | (with_reducible refine below_drew ?_) | (with_reducible refine below_alloc ?_ _) | (with_reducible refine below_set ?_ (by simp; try omega) _) | (exact below_alloc hq _)))).mono ?_); rintro r_ wx ⟨rfl, hx⟩; obtain ⟨ux, rfl⟩ := after hx; clear hx) | fail)
  have hB1 : Below w.heap.size w (on ux) := (by repeat first | (with_reducible exact Below.refl _ _) | (with_reducible assumption) | (with_reducible refine below_on ?_ _) | (with_reducible refine below_dn ?_) | (with_reducible refine below_drew ?_) | (with_reducible refine below_alloc ?_ _) | (with_reducible refine below_set ?_ (by simp; try omega) _) | (exact below_alloc hq _))
  have x0 : (on ux).cell? ⟨w.heap.size, 0, none⟩ = some (.int .i64 (a : Int)) := cRy ux.b (by simp [go_sem])
  have x1 : (on ux).cell? ⟨w.heap.size, 1, none⟩ = some (.int .i64 (b : Int)) := cRy ux.b (by simp [go_sem])
  have x2 : (on ux).cell? ⟨w.heap.size, 2, none⟩ = some (.slice pa n ca) := cRy ux.b (by simp [go_sem])
  generalize (on ux) = W1 at *
  clear ux
  go_loopw [18] (fun iv wr => ∃ i : Nat, iv = .int .i64 i ∧ i ≤ n ∧ ∃ x : Later W1, wr = on x) (fun iv _ => (n - intOf iv).toNat)
  case atStart => exact ⟨0, rfl, Nat.zero_le _, ⟨W1, Below.refl _ _⟩, rfl⟩
  case round =>
    obtain ⟨i, rfl, hi, x, rfl⟩ := hrel
    have hq : Below W1.heap.size W1 (on x) := x.b
    have hqw : Below w.heap.size w (on x) := hB1.trans (hq.mono hB1.size)
    by_cases hin : i < n
    · have hin' : (i : Int) < n := by omega
      obtain ⟨ab, ao, pae, hab, f0, f1, f2⟩ := ra.at hqw hin
      subst pae
      have hri := hr i hin
      have hgd : decide (1 ≤ k i ∧ k i ≤ 3) = true := decide_eq_true (hg i hin)
      clear hg ra hr
      go_wp2_with (first | (go_at_call 60; (with_reducible refine (isKind_ok (k i) hri.2 true hgd _ (hLA _ (by repeat first | (with_reducible exact Below.refl _ _) | (with_reducible assumption) | (with_reducible refine below_on ?_ _) | (with_reducible refine below_dn ?_) | (with_reducible refine below_drew ?_) | (with_reducible refine below_alloc ?_ _) | (with_reducible refine below_set ?_ (by simp; try omega) _) | (exact below_alloc hq _)))).mono ?_); rintro r_ wx ⟨rfl, hx⟩; obtain ⟨ux, rfl⟩ := after hx; clear hx) | fail)
      exact ⟨⟨i + 1, by simp, by omega, ⟨on ux, (by repeat first | (with_reducible exact Below.refl _ _) | (with_reducible assumption) | (with_reducible refine below_on ?_ _) | (with_reducible refine below_dn ?_) | (with_reducible refine below_drew ?_) | (with_reducible refine below_alloc ?_ _) | (with_reducible refine below_set ?_ (by simp; try omega) _) | (exact below_alloc hq _))⟩, rfl⟩, by simp [intOf]; omega⟩
    · have hin' : ¬ (i : Int) < n := by omega
      have l0 := cRy hq x0
      have l1 := cRy hq x1
      have l2 := cRy hq x2
      obtain rfl : n = i := by omega
      go_wp2_with fail
      (try simp only [Exit.inBlock, Exit.then])
      go_wp2_with fail
      go_loopw [30] (fun iv wr => ∃ i : Nat, iv = .int .i64 i ∧ i ≤ n ∧ ∃ x : Later W1, wr = on x) (fun iv _ => (n - intOf iv).toNat)
      case atStart => exact ⟨0, rfl, Nat.zero_le _, x, rfl⟩
      case round =>
        clear l0 l1 l2 hq hqw
        obtain ⟨i, rfl, hi, x, rfl⟩ := hrel
        have hq : Below W1.heap.size W1 (on x) := x.b
        have hqw : Below w.heap.size w (on x) := hB1.trans (hq.mono hB1.size)
        have l0 := cRy hq x0
        have l1 := cRy hq x1
        have l2 := cRy hq x2
        by_cases hin : i < n
        · have hin' : (i : Int) < n := by omega
          obtain ⟨ab, ao, pae, hab, f0, f1, f2⟩ := ra.at hqw hin
          subst pae
          have hri := hr i hin
          have hun := hu i hin
          clear hg hu ra hr
          go_upto_region 13 with fail
          refine region_later (by kernel_rfl) (by kernel_rfl) ?_
          repeat (go_big_quiet_step ((first | (go_at_call 46; with_reducible exact Calls.later (unitOf_ok (c i) (e i) (k i) hri.1 hri.2 _ (hLA _ (by repeat first | (with_reducible exact Below.refl _ _) | (with_reducible assumption) | (with_reducible refine below_on ?_ _) | (with_reducible refine below_dn ?_) | (with_reducible refine below_drew ?_) | (with_reducible refine below_alloc ?_ _) | (with_reducible refine below_set ?_ (by simp; try omega) _) | (exact below_alloc hq _))))) | (go_at_call 61; with_reducible exact Calls.later (isUnit_ok h1 h2 h3 h4 (c i) (e i) hri.1 true hun _ (hLA _ (by repeat first | (with_reducible exact Below.refl _ _) | (with_reducible assumption) | (with_reducible refine below_on ?_ _) | (with_reducible refine below_dn ?_) | (with_reducible refine below_drew ?_) | (with_reducible refine below_alloc ?_ _) | (with_reducible refine below_set ?_ (by simp; try omega) _) | (exact below_alloc hq _))))) | fail)))
          refine wpQuiet_nil ?_
          rintro _ ⟨u3, rfl⟩
          go_wp2_with fail
          exact ⟨⟨i + 1, by simp, by omega, ⟨on u3, (by repeat first | (with_reducible exact Below.refl _ _) | (with_reducible assumption) | (with_reducible refine below_on ?_ _) | (with_reducible refine below_dn ?_) | (with_reducible refine below_drew ?_) | (with_reducible refine below_alloc ?_ _) | (with_reducible refine below_set ?_ (by simp; try omega) _) | (exact below_alloc hq _))⟩, rfl⟩, by simp [intOf]; omega⟩
        · have hin' : ¬ (i : Int) < n := by omega
          obtain rfl : n = i := by omega
          go_wp2_with fail
          (try simp only [Exit.inBlock, Exit.then])
          go_wp2_with fail
          go_loopw [8] (fun iv wr => ∃ j : Nat, iv = .int .i64 ((j : Int) + 1) ∧ (j = 0 ∨ j < n) ∧ ∃ x : Later W1, wr = on x) (fun iv _ => (n - intOf iv).toNat)
          case atStart => exact ⟨0, rfl, .inl rfl, x, rfl⟩
          case round =>
            clear l0 l1 l2 hq hqw
            obtain ⟨j, rfl, hj, x, rfl⟩ := hrel
            have hq : Below W1.heap.size W1 (on x) := x.b
            have hqw : Below w.heap.size w (on x) := hB1.trans (hq.mono hB1.size)
            have l0 := cRy hq x0
            have l1 := cRy hq x1
            have l2 := cRy hq x2
            by_cases hin : j + 1 < n
            · have hin' : (j : Int) + 1 < n := by omega
              have hin2 : (j : Int) < n := by omega
              obtain ⟨ab, ao, pae, hab, f0, f1, f2⟩ := ra.at hqw (i := j) (by omega)
              obtain ⟨ab', ao', pae', hab', g0, g1, g2⟩ := ra.at hqw hin
              subst pae
              obtain ⟨rfl, rfl⟩ : ab' = ab ∧ ao' = ao := by
                have := Option.some.inj pae'
                simp only [Addr.mk.injEq] at this
                exact ⟨this.1.symm, this.2.1.symm⟩
              have hri := hr j (by omega)
              have hrj := hr (j + 1) hin
              have hcm := ho j hin
              clear hg hu ho ra hr
              go_upto_region 19 with fail
              refine region_later (by kernel_rfl) (by kernel_rfl) ?_
              repeat (go_big_quiet_step ((first | (go_at_call 46; with_reducible exact Calls.later (unitOf_ok (c j) (e j) (k j) hri.1 hri.2 _ (hLA _ (by repeat first | (with_reducible exact Below.refl _ _) | (with_reducible assumption) | (with_reducible refine below_on ?_ _) | (with_reducible refine below_dn ?_) | (with_reducible refine below_drew ?_) | (with_reducible refine below_alloc ?_ _) | (with_reducible refine below_set ?_ (by simp; try omega) _) | (exact below_alloc hq _))))) | (go_at_call 46; with_reducible exact Calls.later (unitOf_ok (c (j + 1)) (e (j + 1)) (k (j + 1)) hrj.1 hrj.2 _ (hLA _ (by repeat first | (with_reducible exact Below.refl _ _) | (with_reducible assumption) | (with_reducible refine below_on ?_ _) | (with_reducible refine below_dn ?_) | (with_reducible refine below_drew ?_) | (with_reducible refine below_alloc ?_ _) | (with_reducible refine below_set ?_ (by simp; try omega) _) | (exact below_alloc hq _))))) | (go_at_call 50; with_reducible exact Calls.later (compare_ok (c j) (e j) (c (j + 1)) (e (j + 1)) hri.1 hrj.1 (-1) hcm _ (hLA _ (by repeat first | (with_reducible exact Below.refl _ _) | (with_reducible assumption) | (with_reducible refine below_on ?_ _) | (with_reducible refine below_dn ?_) | (with_reducible refine below_drew ?_) | (with_reducible refine below_alloc ?_ _) | (with_reducible refine below_set ?_ (by simp; try omega) _) | (exact below_alloc hq _))))) | fail)))
              refine wpQuiet_nil ?_
              rintro _ ⟨u3, rfl⟩
              go_wp2_with fail
              exact ⟨⟨j + 1, by simp, .inr (by omega), ⟨on u3, (by repeat first | (with_reducible exact Below.refl _ _) | (with_reducible assumption) | (with_reducible refine below_on ?_ _) | (with_reducible refine below_dn ?_) | (with_reducible refine below_drew ?_) | (with_reducible refine below_alloc ?_ _) | (with_reducible refine below_set ?_ (by simp; try omega) _) | (exact below_alloc hq _))⟩, rfl⟩, by simp [intOf]; omega⟩
            · have hin' : ¬ (j : Int) + 1 < n := by omega
              clear hg hu ho ra hr
              go_wp2_with fail
              (try simp only [Exit.inBlock, Exit.then])
              go_ret
              exact ⟨rfl, (by repeat first | (with_reducible exact Below.refl _ _) | (with_reducible assumption) | (with_reducible refine below_on ?_ _) | (with_reducible refine below_dn ?_) | (with_reducible refine below_drew ?_) | (with_reducible refine below_alloc ?_ _) | (with_reducible refine below_set ?_ (by simp; try omega) _) | (exact below_alloc hq _))⟩
end

end Go.Proofs.YtbghfcllicfnpaaGreatDoor
