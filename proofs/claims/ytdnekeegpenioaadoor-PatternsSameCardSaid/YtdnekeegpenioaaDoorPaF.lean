/-
  Says: fitsCrease, EqualFunc over any rows of creases.
-/
import Derived.Test.YtdnekeegpenioaaDoorPa0
import Derived.Deep.RegionHeld3
import Derived.RowKit3
import Derived.BigQuiet
import Derived.Deep.QuietTactic
set_option linter.unusedVariables false
set_option linter.unusedSimpArgs false
namespace Go.Proofs.YtdnekeegpenioaaDoor
open Go Go.RowKit

attribute [local go_sem] World.cell?_alloc_some frozen?_alloc_cells fz0 fz1 fz2 fz3 fz4 fz5

theorem unitof_any (c e k : Int) (w : World) : Calls Tryd.prog 32 #[.agg #[.int .i64 c, .int .u8 e, .int .u8 k]] w fun r w' => r = .returned (.agg #[.int .i64 c, .int .u8 e]) ∧ Below w.heap.size w w' := by
  have ru : Tryd.f32.results = #[.cell 2 51] := by kernel_rfl
  go_enter Tryd.func32, Tryd.ntmps32
  go_wp2_with fail
  refine bodyPost_ret (v := .agg #[.int .i64 c, .int .u8 e]) (by simp [results, ru, go_sem]; try rfl) rfl ?_
  exact ⟨rfl, (by repeat first | (with_reducible exact Below.refl _ _) | (with_reducible assumption) | (with_reducible refine below_on ?_ _) | (with_reducible refine below_dn ?_) | (with_reducible refine below_drew ?_) | (with_reducible refine below_alloc ?_ _) | (with_reducible refine below_set ?_ (by simp; try omega) _) | (exact below_alloc hq _))⟩
/-- A crease fits another one. -/
def fitB (c e k c' e' k' : Int) : Bool := decide (c = c' ∧ e = e' ∧ (k = k' ∨ k' = 3))
set_option maxRecDepth 100000 in
set_option maxHeartbeats 4000000 in
theorem fits_n1 (c e k c' e' k' : Int) (q1 : c ≠ c') (w : World) : Calls Tryd.prog 47 #[.agg #[.int .i64 c, .int .u8 e, .int .u8 k], .agg #[.int .i64 c', .int .u8 e', .int .u8 k']] w fun r w' => r = .returned (.bool false) ∧ Below w.heap.size w w' := by
  replace q1 := eqf q1
  go_enter Tryd.func47, Tryd.ntmps47
  go_wp2_with fail
  refine region_later (by kernel_rfl) (by kernel_rfl) ?_
  repeat (go_big_quiet_step ((first | (go_at_call 32; with_reducible exact Calls.later (unitof_any _ _ _ _)))))
  refine wpQuiet_nil ?_
  rintro _ ⟨u3, rfl⟩
  go_wp2_with fail
  go_ret
  exact ⟨by simp [*], (by repeat first | (with_reducible exact Below.refl _ _) | (with_reducible assumption) | (with_reducible refine below_on ?_ _) | (with_reducible refine below_dn ?_) | (with_reducible refine below_drew ?_) | (with_reducible refine below_alloc ?_ _) | (with_reducible refine below_set ?_ (by simp; try omega) _) | (exact below_alloc hq _))⟩
set_option maxRecDepth 100000 in
set_option maxHeartbeats 4000000 in
theorem fits_n2 (c e k e' k' : Int) (q1 : e ≠ e') (w : World) : Calls Tryd.prog 47 #[.agg #[.int .i64 c, .int .u8 e, .int .u8 k], .agg #[.int .i64 c, .int .u8 e', .int .u8 k']] w fun r w' => r = .returned (.bool false) ∧ Below w.heap.size w w' := by
  replace q1 := eqf q1
  go_enter Tryd.func47, Tryd.ntmps47
  go_wp2_with fail
  refine region_later (by kernel_rfl) (by kernel_rfl) ?_
  repeat (go_big_quiet_step ((first | (go_at_call 32; with_reducible exact Calls.later (unitof_any _ _ _ _)))))
  refine wpQuiet_nil ?_
  rintro _ ⟨u3, rfl⟩
  go_wp2_with fail
  go_ret
  exact ⟨by simp [*], (by repeat first | (with_reducible exact Below.refl _ _) | (with_reducible assumption) | (with_reducible refine below_on ?_ _) | (with_reducible refine below_dn ?_) | (with_reducible refine below_drew ?_) | (with_reducible refine below_alloc ?_ _) | (with_reducible refine below_set ?_ (by simp; try omega) _) | (exact below_alloc hq _))⟩
set_option maxRecDepth 100000 in
set_option maxHeartbeats 4000000 in
theorem fits_y1 (c e k : Int)  (w : World) : Calls Tryd.prog 47 #[.agg #[.int .i64 c, .int .u8 e, .int .u8 k], .agg #[.int .i64 c, .int .u8 e, .int .u8 k]] w fun r w' => r = .returned (.bool true) ∧ Below w.heap.size w w' := by
  go_enter Tryd.func47, Tryd.ntmps47
  go_wp2_with fail
  refine region_later (by kernel_rfl) (by kernel_rfl) ?_
  repeat (go_big_quiet_step ((first | (go_at_call 32; with_reducible exact Calls.later (unitof_any _ _ _ _)))))
  refine wpQuiet_nil ?_
  rintro _ ⟨u3, rfl⟩
  go_wp2_with fail
  go_ret
  exact ⟨by simp [*], (by repeat first | (with_reducible exact Below.refl _ _) | (with_reducible assumption) | (with_reducible refine below_on ?_ _) | (with_reducible refine below_dn ?_) | (with_reducible refine below_drew ?_) | (with_reducible refine below_alloc ?_ _) | (with_reducible refine below_set ?_ (by simp; try omega) _) | (exact below_alloc hq _))⟩
set_option maxRecDepth 100000 in
set_option maxHeartbeats 4000000 in
theorem fits_y2 (c e k : Int) (q1 : k ≠ 3) (w : World) : Calls Tryd.prog 47 #[.agg #[.int .i64 c, .int .u8 e, .int .u8 k], .agg #[.int .i64 c, .int .u8 e, .int .u8 3]] w fun r w' => r = .returned (.bool true) ∧ Below w.heap.size w w' := by
  replace q1 := eqf q1
  go_enter Tryd.func47, Tryd.ntmps47
  go_wp2_with fail
  refine region_later (by kernel_rfl) (by kernel_rfl) ?_
  repeat (go_big_quiet_step ((first | (go_at_call 32; with_reducible exact Calls.later (unitof_any _ _ _ _)))))
  refine wpQuiet_nil ?_
  rintro _ ⟨u3, rfl⟩
  go_wp2_with fail
  go_ret
  exact ⟨by simp [*], (by repeat first | (with_reducible exact Below.refl _ _) | (with_reducible assumption) | (with_reducible refine below_on ?_ _) | (with_reducible refine below_dn ?_) | (with_reducible refine below_drew ?_) | (with_reducible refine below_alloc ?_ _) | (with_reducible refine below_set ?_ (by simp; try omega) _) | (exact below_alloc hq _))⟩
set_option maxRecDepth 100000 in
set_option maxHeartbeats 4000000 in
theorem fits_n3 (c e k k' : Int) (q1 : k ≠ k') (q2 : k' ≠ 3) (w : World) : Calls Tryd.prog 47 #[.agg #[.int .i64 c, .int .u8 e, .int .u8 k], .agg #[.int .i64 c, .int .u8 e, .int .u8 k']] w fun r w' => r = .returned (.bool false) ∧ Below w.heap.size w w' := by
  replace q1 := eqf q1
  replace q2 := eqf q2
  go_enter Tryd.func47, Tryd.ntmps47
  go_wp2_with fail
  refine region_later (by kernel_rfl) (by kernel_rfl) ?_
  repeat (go_big_quiet_step ((first | (go_at_call 32; with_reducible exact Calls.later (unitof_any _ _ _ _)))))
  refine wpQuiet_nil ?_
  rintro _ ⟨u3, rfl⟩
  go_wp2_with fail
  go_ret
  exact ⟨by simp [*], (by repeat first | (with_reducible exact Below.refl _ _) | (with_reducible assumption) | (with_reducible refine below_on ?_ _) | (with_reducible refine below_dn ?_) | (with_reducible refine below_drew ?_) | (with_reducible refine below_alloc ?_ _) | (with_reducible refine below_set ?_ (by simp; try omega) _) | (exact below_alloc hq _))⟩
theorem fits_is (c e k c' e' k' : Int) (F : Bool) (hF : fitB c e k c' e' k' = F) (w : World) : Calls Tryd.prog 47 #[.agg #[.int .i64 c, .int .u8 e, .int .u8 k], .agg #[.int .i64 c', .int .u8 e', .int .u8 k']] w fun r w' => r = .returned (.bool F) ∧ Below w.heap.size w w' := by
  unfold fitB at hF
  by_cases q1 : c = c'
  · subst q1
    by_cases q2 : e = e'
    · subst q2
      by_cases q3 : k = k'
      · subst q3
        simp at hF; subst hF
        exact fits_y1 c e k w
      · by_cases q4 : k' = 3
        · subst q4
          simp at hF; subst hF
          exact fits_y2 c e k q3 w
        · simp [q3, q4] at hF; subst hF
          exact fits_n3 c e k k' q3 q4 w
    · simp [q2] at hF; subst hF
      exact fits_n2 c e k e' k' q2 w
  · simp [q1] at hF; subst hF
    exact fits_n1 c e k c' e' k' q1 w
def FitC (n : Nat) (c e k c' e' k' : Nat → Int) : Prop := ∀ i, i < n → fitB (c i) (e i) (k i) (c' i) (e' i) (k' i) = true
theorem fitC_cases (n : Nat) (c e k c' e' k' : Nat → Int) : FitC n c e k c' e' k' ∨ ∃ m, m < n ∧ FitC m c e k c' e' k' ∧ fitB (c m) (e m) (k m) (c' m) (e' m) (k' m) = false := by
  induction n with
  | zero => exact .inl fun i hi => by omega
  | succ n ih =>
    rcases ih with h | ⟨m, h1, h2, h3⟩
    · cases hn : fitB (c n) (e n) (k n) (c' n) (e' n) (k' n) with
      | true =>
        refine .inl fun i hi => ?_
        rcases Nat.lt_or_ge i n with h' | h'
        · exact h i h'
        · have : i = n := by omega
          rw [this]; exact hn
      | false => exact .inr ⟨n, by omega, h, hn⟩
    · exact .inr ⟨m, by omega, h2, h3⟩
set_option maxRecDepth 100000 in
set_option maxHeartbeats 4000000 in
theorem efunc_loop (c e k : Nat → Int) (pa : Option Addr) (n ca : Nat) (c' e' k' : Nat → Int) (pb : Option Addr) (cb : Nat) (D : Bool) (q : Nat) (w : World) (hn : (n : Int) ≤ 4096) (hq0 : q ≤ n) (ra : Crs w pa n c e k) (rb : Crs w pb n c' e' k')
    (hno : FitC q c e k c' e' k') (hit : (q = n ∧ D = true) ∨ (q < n ∧ fitB (c q) (e q) (k q) (c' q) (e' q) (k' q) = false ∧ D = false)) :
    Calls Tryd.prog 46 #[.slice pa n ca, .slice pb n cb, .func (.func 47) #[] #[]] w fun r w' => r = .returned (.bool D) ∧ Below w.heap.size w w' := by
  go_enter Tryd.func46, Tryd.ntmps46
  go_wp2_with fail
  go_loopw [17] (fun iv wr => ∃ i : Nat, iv = .int .i64 i ∧ i ≤ q ∧ ∃ x : Later w, wr = on x) (fun iv _ => (n - intOf iv).toNat)
  case atStart => exact ⟨0, rfl, Nat.zero_le _, ⟨w, Below.refl _ _⟩, rfl⟩
  case round =>
    obtain ⟨i, rfl, hi, x, rfl⟩ := hrel
    have hq : Below w.heap.size w (on x) := x.b
    by_cases hin : i < n
    · have hin' : (i : Int) < n := by omega
      obtain ⟨ab, ao, pae, hab, f0, f1, f2⟩ := ra.at hq hin
      obtain ⟨bb, bo, pbe, hbb, g0, g1, g2⟩ := rb.at hq hin
      subst pae pbe
      by_cases him : i = q
      · subst him
        obtain ⟨h1, _⟩ | ⟨_, hd, rfl⟩ := hit
        · exact absurd h1 (by omega)
        clear ra rb hno
        go_wp2_with (first | (go_at_call 47; (with_reducible refine (fits_is _ _ _ _ _ _ false (by assumption) _).mono ?_); rintro e wx ⟨rfl, hx⟩; obtain ⟨ux, rfl⟩ := after hx; clear hx) | fail)
        (try simp only [Exit.inBlock, Exit.then])
        go_ret
        exact ⟨rfl, (by repeat first | (with_reducible exact Below.refl _ _) | (with_reducible assumption) | (with_reducible refine below_on ?_ _) | (with_reducible refine below_dn ?_) | (with_reducible refine below_drew ?_) | (with_reducible refine below_alloc ?_ _) | (with_reducible refine below_set ?_ (by simp; try omega) _) | (exact below_alloc hq _))⟩
      · have hy := hno i (by omega)
        clear ra rb hno hit
        go_wp2_with (first | (go_at_call 47; (with_reducible refine (fits_is _ _ _ _ _ _ true (by assumption) _).mono ?_); rintro e wx ⟨rfl, hx⟩; obtain ⟨ux, rfl⟩ := after hx; clear hx) | fail)
        exact ⟨⟨i + 1, by simp, by omega, ⟨on ux, (by repeat first | (with_reducible exact Below.refl _ _) | (with_reducible assumption) | (with_reducible refine below_on ?_ _) | (with_reducible refine below_dn ?_) | (with_reducible refine below_drew ?_) | (with_reducible refine below_alloc ?_ _) | (with_reducible refine below_set ?_ (by simp; try omega) _) | (exact below_alloc hq _))⟩, rfl⟩, by simp [intOf]; omega⟩
    · obtain ⟨hqn, rfl⟩ | h := hit
      · have hin' : ¬ (i : Int) < n := by omega
        clear ra rb hno
        go_wp2_with fail
        (try simp only [Exit.inBlock, Exit.then])
        go_ret
        exact ⟨rfl, (by repeat first | (with_reducible exact Below.refl _ _) | (with_reducible assumption) | (with_reducible refine below_on ?_ _) | (with_reducible refine below_dn ?_) | (with_reducible refine below_drew ?_) | (with_reducible refine below_alloc ?_ _) | (with_reducible refine below_set ?_ (by simp; try omega) _) | (exact below_alloc hq _))⟩
      · omega
set_option maxRecDepth 100000 in
set_option maxHeartbeats 4000000 in
theorem efunc_len (pa pb : Option Addr) (n m ca cb : Nat) (w : World) (hd : n ≠ m) :
    Calls Tryd.prog 46 #[.slice pa n ca, .slice pb m cb, .func (.func 47) #[] #[]] w fun r w' => r = .returned (.bool false) ∧ Below w.heap.size w w' := by
  have q3 : ((n : Int) == m) = false := eqf fun q => hd (by omega)
  clear hd
  go_enter Tryd.func46, Tryd.ntmps46
  go_wp2_with fail
  go_ret
  exact ⟨rfl, (by repeat first | (with_reducible exact Below.refl _ _) | (with_reducible assumption) | (with_reducible refine below_on ?_ _) | (with_reducible refine below_dn ?_) | (with_reducible refine below_drew ?_) | (with_reducible refine below_alloc ?_ _) | (with_reducible refine below_set ?_ (by simp; try omega) _) | (exact below_alloc hq _))⟩
theorem efunc_any (c e k : Nat → Int) (pa : Option Addr) (n ca : Nat) (c' e' k' : Nat → Int) (pb : Option Addr) (m cb : Nat) (w : World) (hn : (n : Int) ≤ 4096) (ra : Crs w pa n c e k) (rb : Crs w pb m c' e' k') :
    Calls Tryd.prog 46 #[.slice pa n ca, .slice pb m cb, .func (.func 47) #[] #[]] w fun r w' => (∃ D, (D = true ↔ n = m ∧ FitC n c e k c' e' k') ∧ r = .returned (.bool D)) ∧ Below w.heap.size w w' := by
  by_cases hd : n = m
  · subst hd
    rcases fitC_cases n c e k c' e' k' with h | ⟨q, h1', h2', h3'⟩
    · refine (efunc_loop c e k pa n ca c' e' k' pb cb true n w hn (Nat.le_refl _) ra rb h (.inl ⟨rfl, rfl⟩)).mono ?_
      rintro r w' ⟨rfl, hb⟩
      exact ⟨⟨true, ⟨fun _ => ⟨rfl, h⟩, fun _ => rfl⟩, rfl⟩, hb⟩
    · refine (efunc_loop c e k pa n ca c' e' k' pb cb false q w hn (Nat.le_of_lt h1') ra rb h2' (.inr ⟨h1', h3', rfl⟩)).mono ?_
      rintro r w' ⟨rfl, hb⟩
      exact ⟨⟨false, ⟨(fun h => by cases h), fun h => absurd (h.2 q h1') (by rw [h3']; exact (fun h => by cases h))⟩, rfl⟩, hb⟩
  · refine (efunc_len pa pb n m ca cb w hd).mono ?_
    rintro r w' ⟨rfl, hb⟩
    exact ⟨⟨false, ⟨(fun h => by cases h), fun h => absurd h.1 hd⟩, rfl⟩, hb⟩

end Go.Proofs.YtdnekeegpenioaaDoor
