/-
  Says: Differ of the reference, for any two patterns.
-/
import Derived.Test.YtdnekeegpenioaaDoorPaD
set_option linter.unusedVariables false
set_option linter.unusedSimpArgs false
namespace Go.Proofs.YtdnekeegpenioaaDoor
open Go Go.RowKit

attribute [local go_sem] World.cell?_alloc_some frozen?_alloc_cells fz0 fz1 fz2 fz3 fz4 fz5

set_option maxRecDepth 100000 in
set_option maxHeartbeats 4000000 in
theorem differ_far (pa pb : Option Addr) (n m ca cb : Nat) (w1 h1 w2 h2 : Int) (w : World) (hd : ¬ (w1 = w2 ∧ h1 = h2 ∧ n = m)) :
    Calls Tryd.prog 22 #[.agg #[.int .i64 w1, .int .i64 h1, .slice pa n ca], .agg #[.int .i64 w2, .int .i64 h2, .slice pb m cb]] w fun r w' => r = .returned (.int .i64 1) ∧ Below w.heap.size w w' := by
  by_cases q1 : w1 = w2
  · by_cases q2 : h1 = h2
    · have q3 : ((n : Int) == m) = false := eqf fun q => hd ⟨q1, q2, by omega⟩
      subst q1 q2
      clear hd
      go_enter Tryd.func22, Tryd.ntmps22
      go_wp2_with fail
      go_ret
      exact ⟨rfl, (by repeat first | (with_reducible exact Below.refl _ _) | (with_reducible assumption) | (with_reducible refine below_on ?_ _) | (with_reducible refine below_dn ?_) | (with_reducible refine below_drew ?_) | (with_reducible refine below_alloc ?_ _) | (with_reducible refine below_set ?_ (by simp; try omega) _) | (exact below_alloc hq _))⟩
    · have q3 : (h1 == h2) = false := eqf q2
      subst q1
      clear hd
      go_enter Tryd.func22, Tryd.ntmps22
      go_wp2_with fail
      go_ret
      exact ⟨rfl, (by repeat first | (with_reducible exact Below.refl _ _) | (with_reducible assumption) | (with_reducible refine below_on ?_ _) | (with_reducible refine below_dn ?_) | (with_reducible refine below_drew ?_) | (with_reducible refine below_alloc ?_ _) | (with_reducible refine below_set ?_ (by simp; try omega) _) | (exact below_alloc hq _))⟩
  · have q3 : (w1 == w2) = false := eqf q1
    clear hd
    go_enter Tryd.func22, Tryd.ntmps22
    go_wp2_with fail
    go_ret
    exact ⟨rfl, (by repeat first | (with_reducible exact Below.refl _ _) | (with_reducible assumption) | (with_reducible refine below_on ?_ _) | (with_reducible refine below_dn ?_) | (with_reducible refine below_drew ?_) | (with_reducible refine below_alloc ?_ _) | (with_reducible refine below_set ?_ (by simp; try omega) _) | (exact below_alloc hq _))⟩
/-- Two patterns are equal. -/
def SameP (w1 h1 : Int) (n : Nat) (c e k : Nat → Int) (w2 h2 : Int) (m : Nat) (c' e' k' : Nat → Int) : Prop := w1 = w2 ∧ h1 = h2 ∧ n = m ∧ SameC n c e k c' e' k'
theorem differ_any (c e k : Nat → Int) (pa : Option Addr) (n ca : Nat) (c' e' k' : Nat → Int) (pb : Option Addr) (m cb : Nat) (w1 h1 w2 h2 : Int) (w : World) (hn : (n : Int) ≤ 4096) (ra : Crs w pa n c e k) (rb : Crs w pb m c' e' k') :
    Calls Tryd.prog 22 #[.agg #[.int .i64 w1, .int .i64 h1, .slice pa n ca], .agg #[.int .i64 w2, .int .i64 h2, .slice pb m cb]] w fun r w' => (∃ D, (D = 0 ∨ D = 1) ∧ (D = 0 ↔ SameP w1 h1 n c e k w2 h2 m c' e' k') ∧ r = .returned (.int .i64 D)) ∧ Below w.heap.size w w' := by
  by_cases hd : w1 = w2 ∧ h1 = h2 ∧ n = m
  · obtain ⟨rfl, rfl, rfl⟩ := hd
    rcases sameC_cases n c e k c' e' k' with h | ⟨q, h1', h2', h3'⟩
    · refine (differ_loop c e k pa n ca c' e' k' pb cb w1 h1 0 n w hn (Nat.le_refl _) ra rb h (.inl ⟨rfl, rfl⟩)).mono ?_
      rintro r w' ⟨rfl, hb⟩
      exact ⟨⟨0, .inl rfl, ⟨fun _ => ⟨rfl, rfl, rfl, h⟩, fun _ => rfl⟩, rfl⟩, hb⟩
    · refine (differ_loop c e k pa n ca c' e' k' pb cb w1 h1 1 q w hn (Nat.le_of_lt h1') ra rb h2' (.inr ⟨h1', h3', rfl⟩)).mono ?_
      rintro r w' ⟨rfl, hb⟩
      exact ⟨⟨1, .inr rfl, ⟨fun h => by omega, fun h => absurd (h.2.2.2 q h1') h3'⟩, rfl⟩, hb⟩
  · refine (differ_far pa pb n m ca cb w1 h1 w2 h2 w hd).mono ?_
    rintro r w' ⟨rfl, hb⟩
    exact ⟨⟨1, .inr rfl, ⟨fun h => by omega, fun h => absurd ⟨h.1, h.2.1, h.2.2.1⟩ hd⟩, rfl⟩, hb⟩

end Go.Proofs.YtdnekeegpenioaaDoor
