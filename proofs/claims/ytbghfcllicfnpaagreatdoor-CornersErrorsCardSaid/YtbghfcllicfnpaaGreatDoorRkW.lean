/-
  Says: what the reference reckons of a row. the reference's Check over any row, at a sheet of at most 5 by 5 (kind). the reference's Check over any row, at a sheet of at most 5 by 5 (unit). the reference's Check over any row, at a sheet of at most 5 by 5 (fine).
-/
import Derived.Test.YtbghfcllicfnpaaGreatDoorPkC
import Derived.Test.YtbghfcllicfnpaaGreatDoorPaW0
import Derived.Test.YtbghfcllicfnpaaGreatDoorPa0
import Derived.Deep.RegionHeld3
import Derived.RowKit3
import Derived.BigQuiet
import Derived.Deep.QuietTactic
import Derived.BigRegion
import Derived.Deep.CutRange
set_option linter.unusedVariables false
set_option linter.unusedSimpArgs false
set_option linter.unusedSectionVars false
namespace Go.Proofs.YtbghfcllicfnpaaGreatDoor
section
open Go Go.RowKit

/-- Where a unit stands in a list: the last place, or -1. -/
def atK (uc ue : Nat → Int) (c e : Int) : Nat → Int
  | 0 => -1
  | k + 1 => if uc k = c ∧ ue k = e then (k : Int) else atK uc ue c e k
theorem atK_range (uc ue : Nat → Int) (c e : Int) : ∀ m, -1 ≤ atK uc ue c e m ∧ atK uc ue c e m < m
  | 0 => by simp [atK]
  | k + 1 => by
    have := atK_range uc ue c e k
    unfold atK
    split <;> omega
/-- The place of the crease before. -/
def lastA (uc ue : Nat → Int) (m : Nat) (c e : Nat → Int) : Nat → Int
  | 0 => -1
  | i + 1 => atK uc ue (c i) (e i) m
def ordA (uc ue : Nat → Int) (m : Nat) (c e : Nat → Int) : Nat → Int
  | 0 => 0
  | i + 1 => if atK uc ue (c i) (e i) m ≤ lastA uc ue m c e i then 6 else ordA uc ue m c e i
end

section
open Go Go.RowKit

attribute [local go_sem] World.cell?_alloc_some frozen?_alloc_cells fz0 fz1 fz2 fz3 fz4 fz5

set_option maxRecDepth 100000 in
set_option maxHeartbeats 4000000 in
theorem ref_kind {a b : Nat} (h1 : 1 ≤ a) (h2 : a ≤ 5) (h3 : 1 ≤ b) (h4 : b ≤ 5) (c e k : Nat → Int) (pa : Option Addr) (n ca : Nat) (w : World) (hL : Lay w) (hn : (n : Int) ≤ 4096) (ra : Crs w pa n c e k) (hr : ∀ i, i < n → (0 ≤ e i ∧ e i ≤ 255) ∧ (0 ≤ k i ∧ k i ≤ 255)) (q : Nat) (hq0 : q < n) (hg : ∀ i, i < q → 1 ≤ k i ∧ k i ≤ 3) (hbad : ¬ (1 ≤ k q ∧ k q ≤ 3)) : Calls Tryz.prog 29 #[.agg #[.int .i64 (a : Int), .int .i64 (b : Int), .slice pa n ca]] w fun r w' => r = .returned (.int .i64 1) ∧ Below w.heap.size w w' := by
  have hLA : ∀ V, Below w.heap.size w V → Lay V := fun V h => lay_below hL h
  go_enter Tryz.func29, Tryz.ntmps29
  go_wp2_with (first | (go_at_call 28; (with_reducible refine (valid_ok h1 h2 h3 h4 _ (hLA _ (by repeat first | (with_reducible exact Below.refl _ _) | (with_reducible assumption) | (with_reducible refine below_on ?_ _) | (with_reducible refine below_dn ?_) | (with_reducible refine below_drew ?_) | (with_reducible refine below_alloc ?_ _) | (with_reducible refine below_set ?_ (by simp; try omega) _) | (exact below_alloc hq _)))).mono ?_); rintro r_ wx ⟨rfl, hx⟩; obtain ⟨ux, rfl⟩ := after hx; clear hx) | fail)
  have hB1 : Below w.heap.size w (on ux) := (by repeat first | (with_reducible exact Below.refl _ _) | (with_reducible assumption) | (with_reducible refine below_on ?_ _) | (with_reducible refine below_dn ?_) | (with_reducible refine below_drew ?_) | (with_reducible refine below_alloc ?_ _) | (with_reducible refine below_set ?_ (by simp; try omega) _) | (exact below_alloc hq _))
  have x0 : (on ux).cell? ⟨w.heap.size, 0, none⟩ = some (.int .i64 (a : Int)) := cRy ux.b (by simp [go_sem])
  have x1 : (on ux).cell? ⟨w.heap.size, 1, none⟩ = some (.int .i64 (b : Int)) := cRy ux.b (by simp [go_sem])
  have x2 : (on ux).cell? ⟨w.heap.size, 2, none⟩ = some (.slice pa n ca) := cRy ux.b (by simp [go_sem])
  generalize (on ux) = W1 at *
  clear ux
  go_loopw [3] (fun iv wr => ∃ i : Nat, iv = .int .i64 i ∧ i ≤ q ∧ ∃ x : Later W1, wr = on x) (fun iv _ => (n - intOf iv).toNat)
  case atStart => exact ⟨0, rfl, Nat.zero_le _, ⟨W1, Below.refl _ _⟩, rfl⟩
  case round =>
    obtain ⟨i, rfl, hi, x, rfl⟩ := hrel
    have hq : Below W1.heap.size W1 (on x) := x.b
    have hqw : Below w.heap.size w (on x) := hB1.trans (hq.mono hB1.size)
    have l0 := cRy hq x0
    have l1 := cRy hq x1
    have l2 := cRy hq x2
    by_cases hin : i < n
    · have hin' : (i : Int) < n := by omega
      obtain ⟨ab, ao, pae, hab, f0, f1, f2⟩ := ra.at hqw hin
      subst pae
      have hri := hr i hin
      by_cases hiq : i = q
      · subst hiq
        clear hg ra hr
        by_cases hk1 : k i < 1
        · clear hbad
          go_wp2_with fail
          (try simp only [Exit.inBlock, Exit.then])
          go_ret
          exact ⟨rfl, (by repeat first | (with_reducible exact Below.refl _ _) | (with_reducible assumption) | (with_reducible refine below_on ?_ _) | (with_reducible refine below_dn ?_) | (with_reducible refine below_drew ?_) | (with_reducible refine below_alloc ?_ _) | (with_reducible refine below_set ?_ (by simp; try omega) _) | (exact below_alloc hq _))⟩
        · have hk3 : 3 < k i := by omega
          clear hbad
          go_wp2_with fail
          (try simp only [Exit.inBlock, Exit.then])
          go_ret
          exact ⟨rfl, (by repeat first | (with_reducible exact Below.refl _ _) | (with_reducible assumption) | (with_reducible refine below_on ?_ _) | (with_reducible refine below_dn ?_) | (with_reducible refine below_drew ?_) | (with_reducible refine below_alloc ?_ _) | (with_reducible refine below_set ?_ (by simp; try omega) _) | (exact below_alloc hq _))⟩
      · have hgi := hg i (by omega)
        have hk1 : ¬ (k i < 1) := by omega
        have hk3 : ¬ (3 < k i) := by omega
        clear hg hgi hbad ra hr
        go_wp2_with fail
        exact ⟨⟨i + 1, by simp, by omega, x, rfl⟩, by simp [intOf]; omega⟩
    · exact absurd hi (by omega)
end

section
open Go Go.RowKit

attribute [local go_sem] World.cell?_alloc_some frozen?_alloc_cells fz0 fz1 fz2 fz3 fz4 fz5

set_option maxRecDepth 100000 in
set_option maxHeartbeats 4000000 in
theorem ref_unit {a b : Nat} (h1 : 1 ≤ a) (h2 : a ≤ 5) (h3 : 1 ≤ b) (h4 : b ≤ 5) (c e k : Nat → Int) (pa : Option Addr) (n ca : Nat) (w : World) (hL : Lay w) (hn : (n : Int) ≤ 4096) (ra : Crs w pa n c e k) (hr : ∀ i, i < n → (0 ≤ e i ∧ e i ≤ 255) ∧ (0 ≤ k i ∧ k i ≤ 255)) (uc ue : Nat → Int) (m : Nat) (hm : (m : Int) ≤ 4096) (hun : ∀ V, Below w.heap.size w V → Calls Tryz.prog 51 #[.agg #[.int .i64 (a : Int), .int .i64 (b : Int)]] V fun r w' => UnsAt m uc ue r w' ∧ Below V.heap.size V w')(q : Nat) (hq0 : q < n) (hg : ∀ i, i < n → 1 ≤ k i ∧ k i ≤ 3) (hat : ∀ i, i < q → 0 ≤ atK uc ue (c i) (e i) m) (hbad : atK uc ue (c q) (e q) m < 0) : Calls Tryz.prog 29 #[.agg #[.int .i64 (a : Int), .int .i64 (b : Int), .slice pa n ca]] w fun r w' => r = .returned (.int .i64 7) ∧ Below w.heap.size w w' := by
  have hLA : ∀ V, Below w.heap.size w V → Lay V := fun V h => lay_below hL h
  go_enter Tryz.func29, Tryz.ntmps29
  go_wp2_with (first | (go_at_call 28; (with_reducible refine (valid_ok h1 h2 h3 h4 _ (hLA _ (by repeat first | (with_reducible exact Below.refl _ _) | (with_reducible assumption) | (with_reducible refine below_on ?_ _) | (with_reducible refine below_dn ?_) | (with_reducible refine below_drew ?_) | (with_reducible refine below_alloc ?_ _) | (with_reducible refine below_set ?_ (by simp; try omega) _) | (exact below_alloc hq _)))).mono ?_); rintro r_ wx ⟨rfl, hx⟩; obtain ⟨ux, rfl⟩ := after hx; clear hx) | fail)
  have hB1 : Below w.heap.size w (on ux) := (by repeat first | (with_reducible exact Below.refl _ _) | (with_reducible assumption) | (with_reducible refine below_on ?_ _) | (with_reducible refine below_dn ?_) | (with_reducible refine below_drew ?_) | (with_reducible refine below_alloc ?_ _) | (with_reducible refine below_set ?_ (by simp; try omega) _) | (exact below_alloc hq _))
  have x0 : (on ux).cell? ⟨w.heap.size, 0, none⟩ = some (.int .i64 (a : Int)) := cRy ux.b (by simp [go_sem])
  have x1 : (on ux).cell? ⟨w.heap.size, 1, none⟩ = some (.int .i64 (b : Int)) := cRy ux.b (by simp [go_sem])
  have x2 : (on ux).cell? ⟨w.heap.size, 2, none⟩ = some (.slice pa n ca) := cRy ux.b (by simp [go_sem])
  generalize (on ux) = W1 at *
  clear ux
  go_loopw [3] (fun iv wr => ∃ i : Nat, iv = .int .i64 i ∧ i ≤ n ∧ ∃ x : Later W1, wr = on x) (fun iv _ => (n - intOf iv).toNat)
  case atStart => exact ⟨0, rfl, Nat.zero_le _, ⟨W1, Below.refl _ _⟩, rfl⟩
  case round =>
    obtain ⟨i, rfl, hi, x, rfl⟩ := hrel
    have hq : Below W1.heap.size W1 (on x) := x.b
    have hqw : Below w.heap.size w (on x) := hB1.trans (hq.mono hB1.size)
    have l0 := cRy hq x0
    have l1 := cRy hq x1
    have l2 := cRy hq x2
    by_cases hin : i < n
    · have hin' : (i : Int) < n := by omega
      obtain ⟨ab, ao, pae, hab, f0, f1, f2⟩ := ra.at hqw hin
      subst pae
      have hri := hr i hin
      have hgi := hg i hin
      have hk1 : ¬ (k i < 1) := by omega
      have hk3 : ¬ (3 < k i) := by omega
      clear hg hgi ra hr
      go_wp2_with fail
      exact ⟨⟨i + 1, by simp, by omega, x, rfl⟩, by simp [intOf]; omega⟩
    · have hin' : ¬ (i : Int) < n := by omega
      obtain rfl : n = i := by omega
      go_wp2_with fail
      (try simp only [Exit.inBlock, Exit.then])
      go_wp2_with (first | (go_at_call 51; (with_reducible refine (hun _ (by repeat first | (with_reducible exact Below.refl _ _) | (with_reducible assumption) | (with_reducible refine below_on ?_ _) | (with_reducible refine below_dn ?_) | (with_reducible refine below_drew ?_) | (with_reducible refine below_alloc ?_ _) | (with_reducible refine below_set ?_ (by simp; try omega) _) | (exact below_alloc hq _))).mono ?_); rintro r_ wx ⟨⟨ub, uo, cu, rfl, hu⟩, hx⟩; obtain ⟨ux, rfl⟩ := after hx; clear hx) | fail)
      have hB2 : Below W1.heap.size W1 (on ux) := (by repeat first | (with_reducible exact Below.refl _ _) | (with_reducible assumption) | (with_reducible refine below_on ?_ _) | (with_reducible refine below_dn ?_) | (with_reducible refine below_drew ?_) | (with_reducible refine below_alloc ?_ _) | (with_reducible refine below_set ?_ (by simp; try omega) _) | (exact below_alloc hq _))
      clear l0 l1 l2 hq hqw
      generalize (on ux) = W2 at *
      clear ux
      have hu2 : ∀ V, Below W2.heap.size W2 V → ∀ i, i < m → V.cell? ⟨ub, uo + i * 2, none⟩ = some (.int .i64 (uc i)) ∧ V.cell? ⟨ub, uo + i * 2 + 1, none⟩ = some (.int .u8 (ue i)) := fun V hV i hi => ⟨cRy hV (hu i hi).1, cRy hV (hu i hi).2⟩
      go_loopw [5, 6, 7] (fun lv ov iv wr => ∃ i : Nat, iv = .int .i64 i ∧ i ≤ q ∧ lv = .int .i64 (lastA uc ue m c e i) ∧ ov = .int .i64 (ordA uc ue m c e i) ∧ ∃ x : Later W2, wr = on x) (fun _ _ iv _ => (n - intOf iv).toNat)
      case atStart => exact ⟨0, rfl, Nat.zero_le _, rfl, rfl, ⟨W2, Below.refl _ _⟩, rfl⟩
      case round =>
        obtain ⟨i, rfl, hi, rfl, rfl, x, rfl⟩ := hrel
        have hq2 : Below W2.heap.size W2 (on x) := x.b
        have hq : Below W1.heap.size W1 (on x) := hB2.trans (hq2.mono hB2.size)
        have hqw : Below w.heap.size w (on x) := hB1.trans (hq.mono hB1.size)
        have l0 := cRy hq x0
        have l1 := cRy hq x1
        have l2 := cRy hq x2
        by_cases hin : i < n
        · have hin' : (i : Int) < n := by omega
          obtain ⟨ab, ao, pae, hab, f0, f1, f2⟩ := ra.at hqw hin
          subst pae
          go_wp2_with fail
          go_loopw [8, 9] (fun av kv wr => ∃ j : Nat, kv = .int .i64 j ∧ j ≤ m ∧ av = .int .i64 (atK uc ue (c i) (e i) j) ∧ ∃ y : Later (on x), wr = on y) (fun _ kv _ => (m - intOf kv).toNat)
          case atStart => exact ⟨0, rfl, Nat.zero_le _, rfl, ⟨on x, Below.refl _ _⟩, rfl⟩
          case round =>
            obtain ⟨j, rfl, hj, rfl, y, rfl⟩ := hrel
            have hy : Below (on x).heap.size (on x) (on y) := y.b
            have hy2 : Below W2.heap.size W2 (on y) := hq2.trans (hy.mono hq2.size)
            replace f0 := cRy hy f0
            replace f1 := cRy hy f1
            replace f2 := cRy hy f2
            replace l0 := cRy hy l0
            replace l1 := cRy hy l1
            replace l2 := cRy hy l2
            have hyw : Below w.heap.size w (on y) := hqw.trans (hy.mono hqw.size)
            by_cases hjm : j < m
            · have hjm' : (j : Int) < m := by omega
              obtain ⟨g0, g1⟩ := hu2 _ hy2 j hjm
              clear hu2 hu ra hr hg hat
              by_cases q1 : uc j = c i
              · by_cases q2 : ue j = e i
                · have e1 : atK uc ue (c i) (e i) (j + 1) = j := by rw [atK, if_pos ⟨q1, q2⟩]
                  rw [q1] at g0
                  rw [q2] at g1
                  go_wp2_with fail
                  go_quiet (fail)
                  go_wp2_with fail
                  exact ⟨⟨j + 1, by simp, by omega, by rw [e1], ⟨(on y).drewN nq, below_dn hy⟩, rfl⟩, by simp [intOf]; omega⟩
                · have e1 : atK uc ue (c i) (e i) (j + 1) = atK uc ue (c i) (e i) j := by rw [atK, if_neg (fun h => q2 h.2)]
                  have q3 : (ue j == e i) = false := eqf q2
                  rw [q1] at g0
                  go_wp2_with fail
                  go_quiet (fail)
                  go_wp2_with fail
                  exact ⟨⟨j + 1, by simp, by omega, by rw [e1], ⟨(on y).drewN nq, below_dn hy⟩, rfl⟩, by simp [intOf]; omega⟩
              · have e1 : atK uc ue (c i) (e i) (j + 1) = atK uc ue (c i) (e i) j := by rw [atK, if_neg (fun h => q1 h.1)]
                have q3 : (uc j == c i) = false := eqf q1
                go_wp2_with fail
                go_quiet (fail)
                go_wp2_with fail
                exact ⟨⟨j + 1, by simp, by omega, by rw [e1], ⟨(on y).drewN nq, below_dn hy⟩, rfl⟩, by simp [intOf]; omega⟩
            · have hjm' : ¬ (j : Int) < m := by omega
              obtain rfl : m = j := by omega
              have hrg := atK_range uc ue (c i) (e i) m
              have e2 : lastA uc ue m c e (i + 1) = atK uc ue (c i) (e i) m := rfl
              by_cases hiq : i = q
              · subst hiq
                clear hu2 hu ra hr hg hat
                generalize atK uc ue (c i) (e i) m = A at *
                go_wp2_with fail
                (try simp only [Exit.inBlock, Exit.then])
                go_wp2_with fail
                (try simp only [Exit.inBlock, Exit.then])
                go_ret
                exact ⟨rfl, (by repeat first | (with_reducible exact Below.refl _ _) | (with_reducible assumption) | (with_reducible refine below_on ?_ _) | (with_reducible refine below_dn ?_) | (with_reducible refine below_drew ?_) | (with_reducible refine below_alloc ?_ _) | (with_reducible refine below_set ?_ (by simp; try omega) _) | (exact below_alloc hq _))⟩
              · skip
                have hat0 : ¬ (atK uc ue (c i) (e i) m < 0) := by have := hat i (by omega); omega
                by_cases hle : atK uc ue (c i) (e i) m ≤ lastA uc ue m c e i
                · have e3 : ordA uc ue m c e (i + 1) = 6 := by rw [ordA, if_pos hle]
                  clear hu2 hu ra hr hg hat
                  generalize hA : atK uc ue (c i) (e i) m = A at *
                  generalize hB_ : lastA uc ue m c e i = B at *
                  go_wp2_with fail
                  (try simp only [Exit.inBlock, Exit.then])
                  go_wp2_with fail
                  exact ⟨⟨i + 1, by simp, by omega, by rw [e2], by rw [e3], ⟨on y, hy2⟩, rfl⟩, by simp [intOf]; omega⟩
                · have e3 : ordA uc ue m c e (i + 1) = ordA uc ue m c e i := by rw [ordA, if_neg hle]
                  clear hu2 hu ra hr hg hat
                  generalize hA : atK uc ue (c i) (e i) m = A at *
                  generalize hB_ : lastA uc ue m c e i = B at *
                  go_wp2_with fail
                  (try simp only [Exit.inBlock, Exit.then])
                  go_wp2_with fail
                  exact ⟨⟨i + 1, by simp, by omega, by rw [e2], by rw [e3], ⟨on y, hy2⟩, rfl⟩, by simp [intOf]; omega⟩
        · exact absurd hi (by omega)
end

section
open Go Go.RowKit

attribute [local go_sem] World.cell?_alloc_some frozen?_alloc_cells fz0 fz1 fz2 fz3 fz4 fz5

set_option maxRecDepth 100000 in
set_option maxHeartbeats 4000000 in
theorem ref_fine {a b : Nat} (h1 : 1 ≤ a) (h2 : a ≤ 5) (h3 : 1 ≤ b) (h4 : b ≤ 5) (c e k : Nat → Int) (pa : Option Addr) (n ca : Nat) (w : World) (hL : Lay w) (hn : (n : Int) ≤ 4096) (ra : Crs w pa n c e k) (hr : ∀ i, i < n → (0 ≤ e i ∧ e i ≤ 255) ∧ (0 ≤ k i ∧ k i ≤ 255)) (uc ue : Nat → Int) (m : Nat) (hm : (m : Int) ≤ 4096) (hun : ∀ V, Below w.heap.size w V → Calls Tryz.prog 51 #[.agg #[.int .i64 (a : Int), .int .i64 (b : Int)]] V fun r w' => UnsAt m uc ue r w' ∧ Below V.heap.size V w')(hg : ∀ i, i < n → 1 ≤ k i ∧ k i ≤ 3) (hat : ∀ i, i < n → 0 ≤ atK uc ue (c i) (e i) m) : Calls Tryz.prog 29 #[.agg #[.int .i64 (a : Int), .int .i64 (b : Int), .slice pa n ca]] w fun r w' => r = .returned (.int .i64 (ordA uc ue m c e n)) ∧ Below w.heap.size w w' := by
  have hLA : ∀ V, Below w.heap.size w V → Lay V := fun V h => lay_below hL h
  go_enter Tryz.func29, Tryz.ntmps29
  go_wp2_with (first | (go_at_call 28; (with_reducible refine (valid_ok h1 h2 h3 h4 _ (hLA _ (by repeat first | (with_reducible exact Below.refl _ _) | (with_reducible assumption) | (with_reducible refine below_on ?_ _) | (with_reducible refine below_dn ?_) | (with_reducible refine below_drew ?_) | (with_reducible refine below_alloc ?_ _) | (with_reducible refine below_set ?_ (by simp; try omega) _) | (exact below_alloc hq _)))).mono ?_); rintro r_ wx ⟨rfl, hx⟩; obtain ⟨ux, rfl⟩ := after hx; clear hx) | fail)
  have hB1 : Below w.heap.size w (on ux) := (by repeat first | (with_reducible exact Below.refl _ _) | (with_reducible assumption) | (with_reducible refine below_on ?_ _) | (with_reducible refine below_dn ?_) | (with_reducible refine below_drew ?_) | (with_reducible refine below_alloc ?_ _) | (with_reducible refine below_set ?_ (by simp; try omega) _) | (exact below_alloc hq _))
  have x0 : (on ux).cell? ⟨w.heap.size, 0, none⟩ = some (.int .i64 (a : Int)) := cRy ux.b (by simp [go_sem])
  have x1 : (on ux).cell? ⟨w.heap.size, 1, none⟩ = some (.int .i64 (b : Int)) := cRy ux.b (by simp [go_sem])
  have x2 : (on ux).cell? ⟨w.heap.size, 2, none⟩ = some (.slice pa n ca) := cRy ux.b (by simp [go_sem])
  generalize (on ux) = W1 at *
  clear ux
  go_loopw [3] (fun iv wr => ∃ i : Nat, iv = .int .i64 i ∧ i ≤ n ∧ ∃ x : Later W1, wr = on x) (fun iv _ => (n - intOf iv).toNat)
  case atStart => exact ⟨0, rfl, Nat.zero_le _, ⟨W1, Below.refl _ _⟩, rfl⟩
  case round =>
    obtain ⟨i, rfl, hi, x, rfl⟩ := hrel
    have hq : Below W1.heap.size W1 (on x) := x.b
    have hqw : Below w.heap.size w (on x) := hB1.trans (hq.mono hB1.size)
    have l0 := cRy hq x0
    have l1 := cRy hq x1
    have l2 := cRy hq x2
    by_cases hin : i < n
    · have hin' : (i : Int) < n := by omega
      obtain ⟨ab, ao, pae, hab, f0, f1, f2⟩ := ra.at hqw hin
      subst pae
      have hri := hr i hin
      have hgi := hg i hin
      have hk1 : ¬ (k i < 1) := by omega
      have hk3 : ¬ (3 < k i) := by omega
      clear hg hgi ra hr
      go_wp2_with fail
      exact ⟨⟨i + 1, by simp, by omega, x, rfl⟩, by simp [intOf]; omega⟩
    · have hin' : ¬ (i : Int) < n := by omega
      obtain rfl : n = i := by omega
      go_wp2_with fail
      (try simp only [Exit.inBlock, Exit.then])
      go_wp2_with (first | (go_at_call 51; (with_reducible refine (hun _ (by repeat first | (with_reducible exact Below.refl _ _) | (with_reducible assumption) | (with_reducible refine below_on ?_ _) | (with_reducible refine below_dn ?_) | (with_reducible refine below_drew ?_) | (with_reducible refine below_alloc ?_ _) | (with_reducible refine below_set ?_ (by simp; try omega) _) | (exact below_alloc hq _))).mono ?_); rintro r_ wx ⟨⟨ub, uo, cu, rfl, hu⟩, hx⟩; obtain ⟨ux, rfl⟩ := after hx; clear hx) | fail)
      have hB2 : Below W1.heap.size W1 (on ux) := (by repeat first | (with_reducible exact Below.refl _ _) | (with_reducible assumption) | (with_reducible refine below_on ?_ _) | (with_reducible refine below_dn ?_) | (with_reducible refine below_drew ?_) | (with_reducible refine below_alloc ?_ _) | (with_reducible refine below_set ?_ (by simp; try omega) _) | (exact below_alloc hq _))
      clear l0 l1 l2 hq hqw
      generalize (on ux) = W2 at *
      clear ux
      have hu2 : ∀ V, Below W2.heap.size W2 V → ∀ i, i < m → V.cell? ⟨ub, uo + i * 2, none⟩ = some (.int .i64 (uc i)) ∧ V.cell? ⟨ub, uo + i * 2 + 1, none⟩ = some (.int .u8 (ue i)) := fun V hV i hi => ⟨cRy hV (hu i hi).1, cRy hV (hu i hi).2⟩
      go_loopw [5, 6, 7] (fun lv ov iv wr => ∃ i : Nat, iv = .int .i64 i ∧ i ≤ n ∧ lv = .int .i64 (lastA uc ue m c e i) ∧ ov = .int .i64 (ordA uc ue m c e i) ∧ ∃ x : Later W2, wr = on x) (fun _ _ iv _ => (n - intOf iv).toNat)
      case atStart => exact ⟨0, rfl, Nat.zero_le _, rfl, rfl, ⟨W2, Below.refl _ _⟩, rfl⟩
      case round =>
        obtain ⟨i, rfl, hi, rfl, rfl, x, rfl⟩ := hrel
        have hq2 : Below W2.heap.size W2 (on x) := x.b
        have hq : Below W1.heap.size W1 (on x) := hB2.trans (hq2.mono hB2.size)
        have hqw : Below w.heap.size w (on x) := hB1.trans (hq.mono hB1.size)
        have l0 := cRy hq x0
        have l1 := cRy hq x1
        have l2 := cRy hq x2
        by_cases hin : i < n
        · have hin' : (i : Int) < n := by omega
          obtain ⟨ab, ao, pae, hab, f0, f1, f2⟩ := ra.at hqw hin
          subst pae
          go_wp2_with fail
          go_loopw [8, 9] (fun av kv wr => ∃ j : Nat, kv = .int .i64 j ∧ j ≤ m ∧ av = .int .i64 (atK uc ue (c i) (e i) j) ∧ ∃ y : Later (on x), wr = on y) (fun _ kv _ => (m - intOf kv).toNat)
          case atStart => exact ⟨0, rfl, Nat.zero_le _, rfl, ⟨on x, Below.refl _ _⟩, rfl⟩
          case round =>
            obtain ⟨j, rfl, hj, rfl, y, rfl⟩ := hrel
            have hy : Below (on x).heap.size (on x) (on y) := y.b
            have hy2 : Below W2.heap.size W2 (on y) := hq2.trans (hy.mono hq2.size)
            replace f0 := cRy hy f0
            replace f1 := cRy hy f1
            replace f2 := cRy hy f2
            replace l0 := cRy hy l0
            replace l1 := cRy hy l1
            replace l2 := cRy hy l2
            have hyw : Below w.heap.size w (on y) := hqw.trans (hy.mono hqw.size)
            by_cases hjm : j < m
            · have hjm' : (j : Int) < m := by omega
              obtain ⟨g0, g1⟩ := hu2 _ hy2 j hjm
              clear hu2 hu ra hr hg hat
              by_cases q1 : uc j = c i
              · by_cases q2 : ue j = e i
                · have e1 : atK uc ue (c i) (e i) (j + 1) = j := by rw [atK, if_pos ⟨q1, q2⟩]
                  rw [q1] at g0
                  rw [q2] at g1
                  go_wp2_with fail
                  go_quiet (fail)
                  go_wp2_with fail
                  exact ⟨⟨j + 1, by simp, by omega, by rw [e1], ⟨(on y).drewN nq, below_dn hy⟩, rfl⟩, by simp [intOf]; omega⟩
                · have e1 : atK uc ue (c i) (e i) (j + 1) = atK uc ue (c i) (e i) j := by rw [atK, if_neg (fun h => q2 h.2)]
                  have q3 : (ue j == e i) = false := eqf q2
                  rw [q1] at g0
                  go_wp2_with fail
                  go_quiet (fail)
                  go_wp2_with fail
                  exact ⟨⟨j + 1, by simp, by omega, by rw [e1], ⟨(on y).drewN nq, below_dn hy⟩, rfl⟩, by simp [intOf]; omega⟩
              · have e1 : atK uc ue (c i) (e i) (j + 1) = atK uc ue (c i) (e i) j := by rw [atK, if_neg (fun h => q1 h.1)]
                have q3 : (uc j == c i) = false := eqf q1
                go_wp2_with fail
                go_quiet (fail)
                go_wp2_with fail
                exact ⟨⟨j + 1, by simp, by omega, by rw [e1], ⟨(on y).drewN nq, below_dn hy⟩, rfl⟩, by simp [intOf]; omega⟩
            · have hjm' : ¬ (j : Int) < m := by omega
              obtain rfl : m = j := by omega
              have hrg := atK_range uc ue (c i) (e i) m
              have e2 : lastA uc ue m c e (i + 1) = atK uc ue (c i) (e i) m := rfl
              have hat0 : ¬ (atK uc ue (c i) (e i) m < 0) := by have := hat i (by omega); omega
              by_cases hle : atK uc ue (c i) (e i) m ≤ lastA uc ue m c e i
              · have e3 : ordA uc ue m c e (i + 1) = 6 := by rw [ordA, if_pos hle]
                clear hu2 hu ra hr hg hat
                generalize hA : atK uc ue (c i) (e i) m = A at *
                generalize hB_ : lastA uc ue m c e i = B at *
                go_wp2_with fail
                (try simp only [Exit.inBlock, Exit.then])
                go_wp2_with fail
                exact ⟨⟨i + 1, by simp, by omega, by rw [e2], by rw [e3], ⟨on y, hy2⟩, rfl⟩, by simp [intOf]; omega⟩
              · have e3 : ordA uc ue m c e (i + 1) = ordA uc ue m c e i := by rw [ordA, if_neg hle]
                clear hu2 hu ra hr hg hat
                generalize hA : atK uc ue (c i) (e i) m = A at *
                generalize hB_ : lastA uc ue m c e i = B at *
                go_wp2_with fail
                (try simp only [Exit.inBlock, Exit.then])
                go_wp2_with fail
                exact ⟨⟨i + 1, by simp, by omega, by rw [e2], by rw [e3], ⟨on y, hy2⟩, rfl⟩, by simp [intOf]; omega⟩
        · have hin' : ¬ (i : Int) < n := by omega
          obtain rfl : n = i := by omega
          clear hu2 hu ra hr hg hat
          go_wp2_with fail
          (try simp only [Exit.inBlock, Exit.then])
          go_ret
          exact ⟨rfl, (by repeat first | (with_reducible exact Below.refl _ _) | (with_reducible assumption) | (with_reducible refine below_on ?_ _) | (with_reducible refine below_dn ?_) | (with_reducible refine below_drew ?_) | (with_reducible refine below_alloc ?_ _) | (with_reducible refine below_set ?_ (by simp; try omega) _) | (exact below_alloc hq _))⟩
end

end Go.Proofs.YtbghfcllicfnpaaGreatDoor
