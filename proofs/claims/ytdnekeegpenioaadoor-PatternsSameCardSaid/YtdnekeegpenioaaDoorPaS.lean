/-
  Says: Same and Fits, for any two patterns.
-/
import Derived.Test.YtdnekeegpenioaaDoorPa0
import Derived.Test.YtdnekeegpenioaaDoorPaE
import Derived.Test.YtdnekeegpenioaaDoorPaF
import Derived.Deep.RegionHeld3
import Derived.RowKit3
import Derived.BigQuiet
import Derived.Deep.QuietTactic
set_option linter.unusedVariables false
set_option linter.unusedSimpArgs false
namespace Go.Proofs.YtdnekeegpenioaaDoor
open Go Go.RowKit

attribute [local go_sem] World.cell?_alloc_some frozen?_alloc_cells fz0 fz1 fz2 fz3 fz4 fz5

theorem same_call (c e k : Nat → Int) (pa : Option Addr) (n ca : Nat) (c' e' k' : Nat → Int) (pb : Option Addr) (m cb : Nat) (D : Bool) (hD : D = true ↔ n = m ∧ SameC n c e k c' e' k') (w : World) (hn : (n : Int) ≤ 4096) (ra : Crs w pa n c e k) (rb : Crs w pb m c' e' k') :
    Calls Tryd.prog 45 #[.slice pa n ca, .slice pb m cb] w fun r w' => r = .returned (.bool D) ∧ Below w.heap.size w w' := by
  refine (equal_any c e k pa n ca c' e' k' pb m cb w hn ra rb).mono ?_
  rintro r w' ⟨⟨D', hD', rfl⟩, hb⟩
  have : D' = D := by
    cases D <;> cases D'
    · rfl
    · exact absurd (hD.2 (hD'.1 rfl)) (fun h => by cases h)
    · exact absurd (hD'.2 (hD.1 rfl)) (fun h => by cases h)
    · rfl
  exact ⟨by rw [this], hb⟩
set_option maxRecDepth 100000 in
set_option maxHeartbeats 4000000 in
theorem same_walk (pa pb : Option Addr) (n m ca cb : Nat) (w1 h1 : Int) (D : Bool) (w : World) (go : ∀ W, Below w.heap.size w W → Calls Tryd.prog 45 #[.slice pa n ca, .slice pb m cb] W fun r w' => r = .returned (.bool D) ∧ Below W.heap.size W w') :
    Calls Tryd.prog 24 #[.agg #[.int .i64 w1, .int .i64 h1, .slice pa n ca], .agg #[.int .i64 w1, .int .i64 h1, .slice pb m cb]] w fun r w' => r = .returned (.bool D) ∧ Below w.heap.size w w' := by
  go_enter Tryd.func24, Tryd.ntmps24
  go_wp2_with (first | (go_at_call 45; (with_reducible refine (go _ (by repeat first | (with_reducible exact Below.refl _ _) | (with_reducible assumption) | (with_reducible refine below_on ?_ _) | (with_reducible refine below_dn ?_) | (with_reducible refine below_drew ?_) | (with_reducible refine below_alloc ?_ _) | (with_reducible refine below_set ?_ (by simp; try omega) _) | (exact below_alloc hq _))).mono ?_); rintro e wx ⟨rfl, hx⟩; obtain ⟨ux, rfl⟩ := after hx; clear hx) | fail)
  go_ret
  exact ⟨rfl, (by repeat first | (with_reducible exact Below.refl _ _) | (with_reducible assumption) | (with_reducible refine below_on ?_ _) | (with_reducible refine below_dn ?_) | (with_reducible refine below_drew ?_) | (with_reducible refine below_alloc ?_ _) | (with_reducible refine below_set ?_ (by simp; try omega) _) | (exact below_alloc hq _))⟩
set_option maxRecDepth 100000 in
set_option maxHeartbeats 4000000 in
theorem same_far1 (pa pb : Option Addr) (n m ca cb : Nat) (w1 h1 w2 h2 : Int) (w : World) (q1 : (w1 == w2) = false) : Calls Tryd.prog 24 #[.agg #[.int .i64 w1, .int .i64 h1, .slice pa n ca], .agg #[.int .i64 w2, .int .i64 h2, .slice pb m cb]] w fun r w' => r = .returned (.bool false) ∧ Below w.heap.size w w' := by
  go_enter Tryd.func24, Tryd.ntmps24
  go_wp2_with fail
  go_ret
  exact ⟨rfl, (by repeat first | (with_reducible exact Below.refl _ _) | (with_reducible assumption) | (with_reducible refine below_on ?_ _) | (with_reducible refine below_dn ?_) | (with_reducible refine below_drew ?_) | (with_reducible refine below_alloc ?_ _) | (with_reducible refine below_set ?_ (by simp; try omega) _) | (exact below_alloc hq _))⟩
set_option maxRecDepth 100000 in
set_option maxHeartbeats 4000000 in
theorem same_far2 (pa pb : Option Addr) (n m ca cb : Nat) (w1 h1 h2 : Int) (w : World) (q1 : (h1 == h2) = false) : Calls Tryd.prog 24 #[.agg #[.int .i64 w1, .int .i64 h1, .slice pa n ca], .agg #[.int .i64 w1, .int .i64 h2, .slice pb m cb]] w fun r w' => r = .returned (.bool false) ∧ Below w.heap.size w w' := by
  go_enter Tryd.func24, Tryd.ntmps24
  go_wp2_with fail
  go_ret
  exact ⟨rfl, (by repeat first | (with_reducible exact Below.refl _ _) | (with_reducible assumption) | (with_reducible refine below_on ?_ _) | (with_reducible refine below_dn ?_) | (with_reducible refine below_drew ?_) | (with_reducible refine below_alloc ?_ _) | (with_reducible refine below_set ?_ (by simp; try omega) _) | (exact below_alloc hq _))⟩
theorem same_is (c e k : Nat → Int) (pa : Option Addr) (n ca : Nat) (c' e' k' : Nat → Int) (pb : Option Addr) (m cb : Nat) (w1 h1 w2 h2 : Int) (D : Bool) (hD : D = true ↔ w1 = w2 ∧ h1 = h2 ∧ n = m ∧ SameC n c e k c' e' k') (w : World) (hn : (n : Int) ≤ 4096) (ra : Crs w pa n c e k) (rb : Crs w pb m c' e' k') :
    Calls Tryd.prog 24 #[.agg #[.int .i64 w1, .int .i64 h1, .slice pa n ca], .agg #[.int .i64 w2, .int .i64 h2, .slice pb m cb]] w fun r w' => r = .returned (.bool D) ∧ Below w.heap.size w w' := by
  by_cases q1 : w1 = w2
  · subst q1
    by_cases q2 : h1 = h2
    · subst q2
      exact same_walk pa pb n m ca cb w1 h1 D w fun W hW => same_call c e k pa n ca c' e' k' pb m cb D (by rw [hD]; exact ⟨fun h => h.2.2, fun h => ⟨rfl, rfl, h⟩⟩) W hn (ra.below hW) (rb.below hW)
    · have : D = false := by
        cases D
        · rfl
        · exact absurd (hD.1 rfl).2.1 q2
      subst this
      exact same_far2 pa pb n m ca cb w1 h1 h2 w (eqf q2)
  · have : D = false := by
      cases D
      · rfl
      · exact absurd (hD.1 rfl).1 q1
    subst this
    exact same_far1 pa pb n m ca cb w1 h1 w2 h2 w (eqf q1)

theorem fit_call (c e k : Nat → Int) (pa : Option Addr) (n ca : Nat) (c' e' k' : Nat → Int) (pb : Option Addr) (m cb : Nat) (D : Bool) (hD : D = true ↔ n = m ∧ FitC n c e k c' e' k') (w : World) (hn : (n : Int) ≤ 4096) (ra : Crs w pa n c e k) (rb : Crs w pb m c' e' k') :
    Calls Tryd.prog 46 #[.slice pa n ca, .slice pb m cb, .func (.func 47) #[] #[]] w fun r w' => r = .returned (.bool D) ∧ Below w.heap.size w w' := by
  refine (efunc_any c e k pa n ca c' e' k' pb m cb w hn ra rb).mono ?_
  rintro r w' ⟨⟨D', hD', rfl⟩, hb⟩
  have : D' = D := by
    cases D <;> cases D'
    · rfl
    · exact absurd (hD.2 (hD'.1 rfl)) (fun h => by cases h)
    · exact absurd (hD'.2 (hD.1 rfl)) (fun h => by cases h)
    · rfl
  exact ⟨by rw [this], hb⟩
set_option maxRecDepth 100000 in
set_option maxHeartbeats 4000000 in
theorem fit_walk (pa pb : Option Addr) (n m ca cb : Nat) (w1 h1 : Int) (D : Bool) (w : World) (go : ∀ W, Below w.heap.size w W → Calls Tryd.prog 46 #[.slice pa n ca, .slice pb m cb, .func (.func 47) #[] #[]] W fun r w' => r = .returned (.bool D) ∧ Below W.heap.size W w') :
    Calls Tryd.prog 25 #[.agg #[.int .i64 w1, .int .i64 h1, .slice pa n ca], .agg #[.int .i64 w1, .int .i64 h1, .slice pb m cb]] w fun r w' => r = .returned (.bool D) ∧ Below w.heap.size w w' := by
  go_enter Tryd.func25, Tryd.ntmps25
  go_wp2_with (first | (go_at_call 46; (with_reducible refine (go _ (by repeat first | (with_reducible exact Below.refl _ _) | (with_reducible assumption) | (with_reducible refine below_on ?_ _) | (with_reducible refine below_dn ?_) | (with_reducible refine below_drew ?_) | (with_reducible refine below_alloc ?_ _) | (with_reducible refine below_set ?_ (by simp; try omega) _) | (exact below_alloc hq _))).mono ?_); rintro e wx ⟨rfl, hx⟩; obtain ⟨ux, rfl⟩ := after hx; clear hx) | fail)
  go_ret
  exact ⟨rfl, (by repeat first | (with_reducible exact Below.refl _ _) | (with_reducible assumption) | (with_reducible refine below_on ?_ _) | (with_reducible refine below_dn ?_) | (with_reducible refine below_drew ?_) | (with_reducible refine below_alloc ?_ _) | (with_reducible refine below_set ?_ (by simp; try omega) _) | (exact below_alloc hq _))⟩
set_option maxRecDepth 100000 in
set_option maxHeartbeats 4000000 in
theorem fit_far1 (pa pb : Option Addr) (n m ca cb : Nat) (w1 h1 w2 h2 : Int) (w : World) (q1 : (w1 == w2) = false) : Calls Tryd.prog 25 #[.agg #[.int .i64 w1, .int .i64 h1, .slice pa n ca], .agg #[.int .i64 w2, .int .i64 h2, .slice pb m cb]] w fun r w' => r = .returned (.bool false) ∧ Below w.heap.size w w' := by
  go_enter Tryd.func25, Tryd.ntmps25
  go_wp2_with fail
  go_ret
  exact ⟨rfl, (by repeat first | (with_reducible exact Below.refl _ _) | (with_reducible assumption) | (with_reducible refine below_on ?_ _) | (with_reducible refine below_dn ?_) | (with_reducible refine below_drew ?_) | (with_reducible refine below_alloc ?_ _) | (with_reducible refine below_set ?_ (by simp; try omega) _) | (exact below_alloc hq _))⟩
set_option maxRecDepth 100000 in
set_option maxHeartbeats 4000000 in
theorem fit_far2 (pa pb : Option Addr) (n m ca cb : Nat) (w1 h1 h2 : Int) (w : World) (q1 : (h1 == h2) = false) : Calls Tryd.prog 25 #[.agg #[.int .i64 w1, .int .i64 h1, .slice pa n ca], .agg #[.int .i64 w1, .int .i64 h2, .slice pb m cb]] w fun r w' => r = .returned (.bool false) ∧ Below w.heap.size w w' := by
  go_enter Tryd.func25, Tryd.ntmps25
  go_wp2_with fail
  go_ret
  exact ⟨rfl, (by repeat first | (with_reducible exact Below.refl _ _) | (with_reducible assumption) | (with_reducible refine below_on ?_ _) | (with_reducible refine below_dn ?_) | (with_reducible refine below_drew ?_) | (with_reducible refine below_alloc ?_ _) | (with_reducible refine below_set ?_ (by simp; try omega) _) | (exact below_alloc hq _))⟩
theorem fit_is (c e k : Nat → Int) (pa : Option Addr) (n ca : Nat) (c' e' k' : Nat → Int) (pb : Option Addr) (m cb : Nat) (w1 h1 w2 h2 : Int) (D : Bool) (hD : D = true ↔ w1 = w2 ∧ h1 = h2 ∧ n = m ∧ FitC n c e k c' e' k') (w : World) (hn : (n : Int) ≤ 4096) (ra : Crs w pa n c e k) (rb : Crs w pb m c' e' k') :
    Calls Tryd.prog 25 #[.agg #[.int .i64 w1, .int .i64 h1, .slice pa n ca], .agg #[.int .i64 w2, .int .i64 h2, .slice pb m cb]] w fun r w' => r = .returned (.bool D) ∧ Below w.heap.size w w' := by
  by_cases q1 : w1 = w2
  · subst q1
    by_cases q2 : h1 = h2
    · subst q2
      exact fit_walk pa pb n m ca cb w1 h1 D w fun W hW => fit_call c e k pa n ca c' e' k' pb m cb D (by rw [hD]; exact ⟨fun h => h.2.2, fun h => ⟨rfl, rfl, h⟩⟩) W hn (ra.below hW) (rb.below hW)
    · have : D = false := by
        cases D
        · rfl
        · exact absurd (hD.1 rfl).2.1 q2
      subst this
      exact fit_far2 pa pb n m ca cb w1 h1 h2 w (eqf q2)
  · have : D = false := by
      cases D
      · rfl
      · exact absurd (hD.1 rfl).1 q1
    subst this
    exact fit_far1 pa pb n m ca cb w1 h1 w2 h2 w (eqf q1)

end Go.Proofs.YtdnekeegpenioaaDoor
