/-
  Says: the error of a pattern, as both find it.
-/
import Derived.Test.YtbghfcllicfnpaaGreatDoorRkW
set_option linter.unusedVariables false
set_option linter.unusedSimpArgs false
namespace Go.Proofs.YtbghfcllicfnpaaGreatDoor
open Go Go.RowKit

open Classical in
theorem first_of {p : Nat → Prop} : ∀ n, (∃ i, i < n ∧ p i) → ∃ q, q < n ∧ p q ∧ ∀ i, i < q → ¬ p i
  | 0, h => by obtain ⟨i, h1, _⟩ := h; omega
  | n + 1, h => by
    by_cases h' : ∃ i, i < n ∧ p i
    · obtain ⟨q, h1, h2, h3⟩ := first_of n h'
      exact ⟨q, by omega, h2, h3⟩
    · obtain ⟨i, h1, h2⟩ := h
      have hin : i = n := by
        rcases Nat.lt_or_ge i n with h3 | h3
        · exact absurd ⟨i, h3, h2⟩ h'
        · omega
      subst hin
      exact ⟨i, h1, h2, fun j hj hp => h' ⟨j, hj, hp⟩⟩
theorem cmp_lt {c e x y : Int} : cmpU c e x y = -1 ↔ c < x ∨ c = x ∧ e < y := by
  unfold cmpU
  by_cases h : c < x ∨ c = x ∧ e < y
  · rw [if_pos h]; simp [h]
  · rw [if_neg h]
    constructor
    · intro h2
      split at h2 <;> omega
    · intro h2; exact absurd h2 h
theorem cmp_ge {c e x y : Int} (h : ¬ cmpU c e x y = -1) : cmpU c e x y = 0 ∨ cmpU c e x y = 1 := by
  unfold cmpU at h ⊢
  split at h
  · exact absurd rfl h
  · rename_i h1
    rw [if_neg h1]
    split
    · exact .inl rfl
    · exact .inr rfl
/-- What is known of the units of a sheet. -/
structure UF (a b m : Nat) (uc ue : Nat → Int) : Prop where
  asc : ∀ j, j + 1 < m → cmpU (uc j) (ue j) (uc (j + 1)) (ue (j + 1)) = -1
  mem : ∀ c e, 0 ≤ e → (isUB a b c e = true ↔ ∃ j, j < m ∧ uc j = c ∧ ue j = e)
  small : (m : Int) ≤ 4096
section
variable {a b m : Nat} {uc ue : Nat → Int} (U : UF a b m uc ue)
include U
theorem UF.lt : ∀ j i, i < j → j < m → uc i < uc j ∨ uc i = uc j ∧ ue i < ue j
  | 0, i, h, _ => by omega
  | j + 1, i, h, hj => by
    have h1 := cmp_lt.1 (U.asc j hj)
    by_cases hi : i = j
    · rw [hi]; exact h1
    · have h2 := UF.lt j i (by omega) (by omega)
      omega
theorem UF.atOf {c e : Int} {j : Nat} (hj : j < m) (h1 : uc j = c) (h2 : ue j = e) : ∀ k, k ≤ m → j < k → atK uc ue c e k = j
  | 0, _, h => by omega
  | k + 1, hk, h => by
    unfold atK
    by_cases hjk : j = k
    · rw [if_pos (by rw [← hjk]; exact ⟨h1, h2⟩), hjk]
    · have h3 := U.lt k j (by omega) (by omega)
      rw [if_neg (by omega)]
      exact UF.atOf hj h1 h2 k (by omega) (by omega)
omit U in
theorem at_some {c e : Int} : ∀ k, 0 ≤ atK uc ue c e k → ∃ j, j < k ∧ uc j = c ∧ ue j = e
  | 0, h => by simp [atK] at h
  | k + 1, h => by
    unfold atK at h
    split at h
    · rename_i h1
      exact ⟨k, by omega, h1⟩
    · obtain ⟨j, h1, h2⟩ := at_some k h
      exact ⟨j, by omega, h2⟩
theorem UF.at_iff {c e : Int} (he : 0 ≤ e) : 0 ≤ atK uc ue c e m ↔ isUB a b c e = true := by
  rw [U.mem c e he]
  constructor
  · exact at_some m
  · rintro ⟨j, h1, h2, h3⟩
    rw [U.atOf h1 h2 h3 m (Nat.le_refl _) h1]
    omega
theorem UF.le_iff {c e x y : Int} (he : 0 ≤ e) (hy : 0 ≤ y) (h1 : isUB a b c e = true) (h2 : isUB a b x y = true) : atK uc ue x y m ≤ atK uc ue c e m ↔ ¬ cmpU c e x y = -1 := by
  obtain ⟨i, i1, i2, i3⟩ := (U.mem c e he).1 h1
  obtain ⟨j, j1, j2, j3⟩ := (U.mem x y hy).1 h2
  rw [U.atOf i1 i2 i3 m (Nat.le_refl _) i1, U.atOf j1 j2 j3 m (Nat.le_refl _) j1, cmp_lt]
  rcases Nat.lt_trichotomy i j with h | h | h
  · have := U.lt j i h j1
    omega
  · subst h
    omega
  · have := U.lt i j h i1
    omega
end
open Classical in
/-- The error of a pattern at a valid sheet. -/
noncomputable def errP (a b n : Nat) (c e k : Nat → Int) : Int :=
  if ∃ i, i < n ∧ ¬ (1 ≤ k i ∧ k i ≤ 3) then 1 else if ∃ i, i < n ∧ isUB a b (c i) (e i) = false then 7 else if ∃ i, i + 1 < n ∧ ¬ cmpU (c i) (e i) (c (i + 1)) (e (i + 1)) = -1 then 6 else 0
theorem errP_cases (a b n : Nat) (c e k : Nat → Int) : (∃ q, q < n ∧ (∀ i, i < q → 1 ≤ k i ∧ k i ≤ 3) ∧ ¬ (1 ≤ k q ∧ k q ≤ 3) ∧ errP a b n c e k = 1) ∨ ((∀ i, i < n → 1 ≤ k i ∧ k i ≤ 3) ∧ ((∃ q, q < n ∧ (∀ i, i < q → isUB a b (c i) (e i) = true) ∧ isUB a b (c q) (e q) = false ∧ errP a b n c e k = 7) ∨
    ((∀ i, i < n → isUB a b (c i) (e i) = true) ∧ ((∃ q, q + 1 < n ∧ (∀ i, i + 1 < q + 1 → cmpU (c i) (e i) (c (i + 1)) (e (i + 1)) = -1) ∧ ¬ cmpU (c q) (e q) (c (q + 1)) (e (q + 1)) = -1 ∧ errP a b n c e k = 6) ∨ ((∀ i, i + 1 < n → cmpU (c i) (e i) (c (i + 1)) (e (i + 1)) = -1) ∧ errP a b n c e k = 0))))) := by
  unfold errP
  by_cases hA : ∃ i, i < n ∧ ¬ (1 ≤ k i ∧ k i ≤ 3)
  · rw [if_pos hA]
    obtain ⟨q, h1, h2, h3⟩ := first_of n hA
    exact .inl ⟨q, h1, fun i hi => Classical.byContradiction (h3 i hi), h2, rfl⟩
  · rw [if_neg hA]
    refine .inr ⟨fun i hi => Classical.byContradiction fun h => hA ⟨i, hi, h⟩, ?_⟩
    by_cases hB : ∃ i, i < n ∧ isUB a b (c i) (e i) = false
    · rw [if_pos hB]
      obtain ⟨q, h1, h2, h3⟩ := first_of n hB
      exact .inl ⟨q, h1, fun i hi => by simpa using h3 i hi, h2, rfl⟩
    · rw [if_neg hB]
      refine .inr ⟨fun i hi => by simpa using fun h => hB ⟨i, hi, h⟩, ?_⟩
      by_cases hC : ∃ i, i + 1 < n ∧ ¬ cmpU (c i) (e i) (c (i + 1)) (e (i + 1)) = -1
      · rw [if_pos hC]
        obtain ⟨i, g1, g2⟩ := hC
        obtain ⟨q, h1, h2, h3⟩ := first_of (p := fun i => ¬ cmpU (c i) (e i) (c (i + 1)) (e (i + 1)) = -1) (n - 1) ⟨i, by omega, g2⟩
        exact .inl ⟨q, by omega, fun i hi => Classical.byContradiction (h3 i (by omega)), h2, rfl⟩
      · rw [if_neg hC]
        exact .inr ⟨fun i hi => Classical.byContradiction fun h => hC ⟨i, hi, h⟩, rfl⟩
theorem ord_bad {uc ue : Nat → Int} {m : Nat} {c e : Nat → Int} : ∀ n q, q < n → atK uc ue (c q) (e q) m ≤ lastA uc ue m c e q → ordA uc ue m c e n = 6
  | 0, q, h, _ => by omega
  | n + 1, q, h, hq => by
    unfold ordA
    by_cases hn : q = n
    · rw [if_pos (by rw [← hn]; exact hq)]
    · split
      · rfl
      · exact ord_bad n q (by omega) hq
theorem ord_good {uc ue : Nat → Int} {m : Nat} {c e : Nat → Int} : ∀ n, (∀ q, q < n → ¬ atK uc ue (c q) (e q) m ≤ lastA uc ue m c e q) → ordA uc ue m c e n = 0
  | 0, _ => rfl
  | n + 1, h => by
    unfold ordA
    rw [if_neg (h n (by omega))]
    exact ord_good n fun q hq => h q (by omega)

end Go.Proofs.YtbghfcllicfnpaaGreatDoor
