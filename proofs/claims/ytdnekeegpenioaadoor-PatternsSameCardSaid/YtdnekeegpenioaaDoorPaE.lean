/-
  Says: slices.Equal over any rows of creases.
-/
import Derived.Test.YtdnekeegpenioaaDoorPa0
import Derived.Deep.RegionHeld3
import Derived.RowKit3
import Derived.BigQuiet
import Derived.Deep.QuietTactic
set_option linter.unusedVariables false
set_option linter.unusedSimpArgs false
namespace Go.Proofs.YtdnekeegpenioaaDoor
open Go Go.RowKit

attribute [local go_sem] World.cell?_alloc_some frozen?_alloc_cells fz0 fz1 fz2 fz3 fz4 fz5

set_option maxRecDepth 100000 in
set_option maxHeartbeats 4000000 in
theorem equal_loop (c e k : Nat → Int) (pa : Option Addr) (n ca : Nat) (c' e' k' : Nat → Int) (pb : Option Addr) (cb : Nat) (D : Bool) (q : Nat) (w : World) (hn : (n : Int) ≤ 4096) (hq0 : q ≤ n) (ra : Crs w pa n c e k) (rb : Crs w pb n c' e' k')
    (hno : SameC q c e k c' e' k') (hit : (q = n ∧ D = true) ∨ (q < n ∧ ¬ (c q = c' q ∧ e q = e' q ∧ k q = k' q) ∧ D = false)) :
    Calls Tryd.prog 45 #[.slice pa n ca, .slice pb n cb] w fun r w' => r = .returned (.bool D) ∧ Below w.heap.size w w' := by
  go_enter Tryd.func45, Tryd.ntmps45
  go_wp2_with fail
  go_loopw [13] (fun iv wr => ∃ i : Nat, iv = .int .i64 i ∧ i ≤ q ∧ ∃ x : Later w, wr = on x) (fun iv _ => (n - intOf iv).toNat)
  case atStart => exact ⟨0, rfl, Nat.zero_le _, ⟨w, Below.refl _ _⟩, rfl⟩
  case round =>
    obtain ⟨i, rfl, hi, x, rfl⟩ := hrel
    have hq : Below w.heap.size w (on x) := x.b
    by_cases hin : i < n
    · have hin' : (i : Int) < n := by omega
      obtain ⟨ab, ao, pae, hab, f0, f1, f2⟩ := ra.at hq hin
      obtain ⟨bb, bo, pbe, hbb, g0, g1, g2⟩ := rb.at hq hin
      subst pae pbe
      by_cases him : i = q
      · subst him
        obtain ⟨h1, _⟩ | ⟨_, hd, rfl⟩ := hit
        · exact absurd h1 (by omega)
        by_cases q1 : c i = c' i
        · by_cases q2 : e i = e' i
          · have q3 : (k i == k' i) = false := eqf fun q => hd ⟨q1, q2, q⟩
            rw [← q1] at g0
            rw [← q2] at g1
            clear hd ra rb hno
            go_wp2_with fail
            go_quiet (fail)
            go_wp2_with fail
            (try simp only [Exit.inBlock, Exit.then])
            go_ret
            exact ⟨rfl, (by repeat first | (with_reducible exact Below.refl _ _) | (with_reducible assumption) | (with_reducible refine below_on ?_ _) | (with_reducible refine below_dn ?_) | (with_reducible refine below_drew ?_) | (with_reducible refine below_alloc ?_ _) | (with_reducible refine below_set ?_ (by simp; try omega) _) | (exact below_alloc hq _))⟩
          · have q3 : (e i == e' i) = false := eqf q2
            rw [← q1] at g0
            clear hd ra rb hno
            go_wp2_with fail
            go_quiet (fail)
            go_wp2_with fail
            (try simp only [Exit.inBlock, Exit.then])
            go_ret
            exact ⟨rfl, (by repeat first | (with_reducible exact Below.refl _ _) | (with_reducible assumption) | (with_reducible refine below_on ?_ _) | (with_reducible refine below_dn ?_) | (with_reducible refine below_drew ?_) | (with_reducible refine below_alloc ?_ _) | (with_reducible refine below_set ?_ (by simp; try omega) _) | (exact below_alloc hq _))⟩
        · have q3 : (c i == c' i) = false := eqf q1
          clear hd ra rb hno
          go_wp2_with fail
          go_quiet (fail)
          go_wp2_with fail
          (try simp only [Exit.inBlock, Exit.then])
          go_ret
          exact ⟨rfl, (by repeat first | (with_reducible exact Below.refl _ _) | (with_reducible assumption) | (with_reducible refine below_on ?_ _) | (with_reducible refine below_dn ?_) | (with_reducible refine below_drew ?_) | (with_reducible refine below_alloc ?_ _) | (with_reducible refine below_set ?_ (by simp; try omega) _) | (exact below_alloc hq _))⟩
      · obtain ⟨q1, q2, q3⟩ := hno i (by omega)
        rw [← q1] at g0
        rw [← q2] at g1
        rw [← q3] at g2
        clear ra rb hno hit
        go_wp2_with fail
        go_quiet (fail)
        go_wp2_with fail
        exact ⟨⟨i + 1, by simp, by omega, ⟨_, below_dn hq⟩, rfl⟩, by simp [intOf]; omega⟩
    · obtain ⟨hqn, rfl⟩ | h := hit
      · have hin' : ¬ (i : Int) < n := by omega
        clear ra rb hno
        go_wp2_with fail
        (try simp only [Exit.inBlock, Exit.then])
        go_ret
        exact ⟨rfl, (by repeat first | (with_reducible exact Below.refl _ _) | (with_reducible assumption) | (with_reducible refine below_on ?_ _) | (with_reducible refine below_dn ?_) | (with_reducible refine below_drew ?_) | (with_reducible refine below_alloc ?_ _) | (with_reducible refine below_set ?_ (by simp; try omega) _) | (exact below_alloc hq _))⟩
      · omega
set_option maxRecDepth 100000 in
set_option maxHeartbeats 4000000 in
theorem equal_len (pa pb : Option Addr) (n m ca cb : Nat) (w : World) (hd : n ≠ m) :
    Calls Tryd.prog 45 #[.slice pa n ca, .slice pb m cb] w fun r w' => r = .returned (.bool false) ∧ Below w.heap.size w w' := by
  have q3 : ((n : Int) == m) = false := eqf fun q => hd (by omega)
  clear hd
  go_enter Tryd.func45, Tryd.ntmps45
  go_wp2_with fail
  go_ret
  exact ⟨rfl, (by repeat first | (with_reducible exact Below.refl _ _) | (with_reducible assumption) | (with_reducible refine below_on ?_ _) | (with_reducible refine below_dn ?_) | (with_reducible refine below_drew ?_) | (with_reducible refine below_alloc ?_ _) | (with_reducible refine below_set ?_ (by simp; try omega) _) | (exact below_alloc hq _))⟩
theorem equal_any (c e k : Nat → Int) (pa : Option Addr) (n ca : Nat) (c' e' k' : Nat → Int) (pb : Option Addr) (m cb : Nat) (w : World) (hn : (n : Int) ≤ 4096) (ra : Crs w pa n c e k) (rb : Crs w pb m c' e' k') :
    Calls Tryd.prog 45 #[.slice pa n ca, .slice pb m cb] w fun r w' => (∃ D, (D = true ↔ n = m ∧ SameC n c e k c' e' k') ∧ r = .returned (.bool D)) ∧ Below w.heap.size w w' := by
  by_cases hd : n = m
  · subst hd
    rcases sameC_cases n c e k c' e' k' with h | ⟨q, h1', h2', h3'⟩
    · refine (equal_loop c e k pa n ca c' e' k' pb cb true n w hn (Nat.le_refl _) ra rb h (.inl ⟨rfl, rfl⟩)).mono ?_
      rintro r w' ⟨rfl, hb⟩
      exact ⟨⟨true, ⟨fun _ => ⟨rfl, h⟩, fun _ => rfl⟩, rfl⟩, hb⟩
    · refine (equal_loop c e k pa n ca c' e' k' pb cb false q w hn (Nat.le_of_lt h1') ra rb h2' (.inr ⟨h1', h3', rfl⟩)).mono ?_
      rintro r w' ⟨rfl, hb⟩
      exact ⟨⟨false, ⟨(fun h => by cases h), fun h => absurd (h.2 q h1') h3'⟩, rfl⟩, hb⟩
  · refine (equal_len pa pb n m ca cb w hd).mono ?_
    rintro r w' ⟨rfl, hb⟩
    exact ⟨⟨false, ⟨(fun h => by cases h), fun h => absurd h.1 hd⟩, rfl⟩, hb⟩

end Go.Proofs.YtdnekeegpenioaaDoor
