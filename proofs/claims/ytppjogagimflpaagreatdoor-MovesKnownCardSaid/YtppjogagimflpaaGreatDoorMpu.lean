/-
  Says: Atoi takes what Itoa gives back; the pieces of a move's text (no program).
-/
import Derived.Test.YtppjogagimflpaaGreatDoorMv8
import Derived.Lib.AtoiAllCases
import Derived.Lib.CutLaws
import Derived.Lib.SplitLaws
import Derived.Lib.ItoaMem
set_option linter.unusedVariables false
set_option linter.unusedSimpArgs false
namespace Go.Proofs.YtppjogagimflpaaGreatDoor
open Go Go.RowKit

theorem dig_rng (n : Nat) : ∀ u, u ≤ n → ∀ b ∈ Lib.decDigits u, 48 ≤ b.toNat ∧ b.toNat ≤ 57 := by
  induction n with
  | zero =>
    intro u hn b hb
    rw [Lib.decDigits_one (by omega)] at hb
    rw [List.mem_singleton.1 hb, UInt8.toNat_ofNat']; omega
  | succ n ih =>
    intro u hn b hb
    by_cases h : u < 10
    · rw [Lib.decDigits_one h] at hb
      rw [List.mem_singleton.1 hb, UInt8.toNat_ofNat']; omega
    · rw [Lib.decDigits.eq_1 u, dif_neg h] at hb
      rcases List.mem_append.1 hb with hb | hb
      · exact ih (u / 10) (by omega) b hb
      · rw [List.mem_singleton.1 hb, UInt8.toNat_ofNat']; omega
theorem dig_ne (u : Nat) : Lib.decDigits u ≠ [] := by
  by_cases h : u < 10
  · rw [Lib.decDigits_one h]; simp
  · rw [Lib.decDigits.eq_1 u, dif_neg h]; simp
theorem parse_snoc (c : UInt8) (h1 : 48 ≤ c.toNat) (h2 : c.toNat ≤ 57) : ∀ (l : List UInt8) (acc v : Nat), Lib.parseUint10 acc l = .ok v → v ≤ 100000 → Lib.parseUint10 acc (l ++ [c]) = .ok (v * 10 + (c.toNat - 48))
  | [], acc, v, h, hv => by
    simp only [Lib.parseUint10] at h
    cases h
    simp only [List.nil_append, Lib.parseUint10]
    rw [if_pos ⟨h1, h2⟩, if_neg (by omega), if_neg (by omega)]
  | b :: l, acc, v, h, hv => by
    simp only [Lib.parseUint10, List.cons_append] at h ⊢
    split at h
    · rename_i hb
      rw [if_pos hb]
      split at h
      · cases h
      · rename_i ha
        rw [if_neg ha]
        split at h
        · cases h
        · rename_i hc
          rw [if_neg hc]
          exact parse_snoc c h1 h2 l _ v h hv
    · cases h
theorem parse_dig (n : Nat) : ∀ u, u ≤ n → u ≤ 100000 → Lib.parseUint10 0 (Lib.decDigits u) = .ok u := by
  induction n with
  | zero =>
    intro u hn h
    have : u = 0 := by omega
    subst this
    rw [Lib.decDigits_one (by omega)]
    rfl
  | succ n ih =>
    intro u hn h
    by_cases h10 : u < 10
    · rw [Lib.decDigits_one h10]
      have e : (UInt8.ofNat (48 + u)).toNat = 48 + u := by rw [UInt8.toNat_ofNat']; omega
      have := parse_snoc (UInt8.ofNat (48 + u)) (by omega) (by omega) [] 0 0 rfl (by omega)
      rw [List.nil_append] at this
      rw [this, e]
      congr 1; omega
    · rw [Lib.decDigits.eq_1 u, dif_neg h10]
      have e : (UInt8.ofNat (48 + u % 10)).toNat = 48 + u % 10 := by rw [UInt8.toNat_ofNat']; omega
      rw [parse_snoc _ (by omega) (by omega) _ 0 (u / 10) (ih (u / 10) (by omega) (by omega)) (by omega), e]
      congr 1; omega
theorem mag_dig (u : Nat) (h : u ≤ 100000) : Lib.parseMag (Lib.decDigits u) = .ok u := by
  unfold Lib.parseMag
  rw [if_neg (dig_ne u)]
  exact parse_dig u u (Nat.le_refl _) h
theorem atv_itoa (n : Int) (h1 : -100000 ≤ n) (h2 : n ≤ 100000) : atv (Lib.itoa n) = n := by
  have key : Lib.atoiAll (Lib.itoa n) = .ok n := by
    by_cases h : n < 0
    · obtain ⟨u, rfl⟩ : ∃ u : Nat, n = -(u : Int) := ⟨n.natAbs, by omega⟩
      rw [Lib.itoa_neg u (by omega), Lib.atoiAll_minus, mag_dig u (by omega)]
      unfold Lib.signed
      simp only
      rw [if_neg (by omega)]
    · obtain ⟨u, rfl⟩ : ∃ u : Nat, n = (u : Int) := ⟨n.natAbs, by omega⟩
      rw [Lib.itoa_nonneg u]
      have hm := mag_dig u (by omega)
      have hr := dig_rng u u (Nat.le_refl _)
      cases hd : Lib.decDigits u with
      | nil => exact absurd hd (dig_ne u)
      | cons c r =>
        have hc := hr c (by rw [hd]; exact List.mem_cons_self ..)
        rw [hd] at hm
        rw [Lib.atoiAll_plain c r (by omega) (by omega), hm]
        unfold Lib.signless
        simp only
        rw [if_neg (by omega)]
  unfold atv
  rw [key]
theorem itoa_no32 (n : Int) : ∀ b ∈ Lib.itoa n, b ≠ 32 := by
  intro b hb
  have key : b.toNat ≠ 32 := by
    by_cases h : n < 0
    · obtain ⟨u, rfl⟩ : ∃ u : Nat, n = -(u : Int) := ⟨n.natAbs, by omega⟩
      rw [Lib.itoa_neg u (by omega)] at hb
      rcases List.mem_cons.1 hb with hb | hb
      · rw [hb]; decide
      · have := dig_rng u u (Nat.le_refl _) b hb; omega
    · obtain ⟨u, rfl⟩ : ∃ u : Nat, n = (u : Int) := ⟨n.natAbs, by omega⟩
      rw [Lib.itoa_nonneg u] at hb
      have := dig_rng u u (Nat.le_refl _) b hb; omega
  intro e
  rw [e] at key
  exact key rfl
theorem idx_hit (r : List UInt8) : ∀ l : List UInt8, (∀ b ∈ l, b ≠ 32) → Lib.indexByte (l ++ 32 :: r) 32 = l.length
  | [], _ => rfl
  | b :: l, h => by
    have hb : (b == 32) = false := by simpa using h b (List.mem_cons_self ..)
    have ih := idx_hit r l (fun x hx => h x (List.mem_cons_of_mem _ hx))
    rw [List.cons_append, Lib.indexByte, ih, hb]
    have e : ((l.length : Int) == -1) = false := eqf (by omega)
    simp [e]
theorem splitK_hit (A r : List UInt8) (k : Nat) (h : ∀ b ∈ A, b ≠ 32) : Lib.splitK [32] 0 (k + 1) (A ++ 32 :: r) = A :: Lib.splitK [32] 0 k r := by
  have e := idx_hit r A h
  rw [Lib.splitK, Lib.index_one, e]
  have e1 : ((A.length : Int) == -1) = false := eqf (by omega)
  rw [e1]
  simp
theorem split_text (A B C : List UInt8) (ha : ∀ b ∈ A, b ≠ 32) (hb : ∀ b ∈ B, b ≠ 32) : Lib.splitB ⟨#[32]⟩ 0 2 ⟨(A ++ [32] ++ B ++ [32] ++ C).toArray⟩ = [⟨A.toArray⟩, ⟨B.toArray⟩, ⟨C.toArray⟩] := by
  have h := Lib.splitB_data ⟨#[32]⟩ 0 2 ⟨(A ++ [32] ++ B ++ [32] ++ C).toArray⟩
  have e : (ByteArray.mk (A ++ [32] ++ B ++ [32] ++ C).toArray).data.toList = A ++ 32 :: (B ++ 32 :: C) := by simp
  rw [e] at h
  rw [show (ByteArray.mk #[32]).data.toList = [32] from rfl, splitK_hit A _ 1 ha, splitK_hit B C 0 hb] at h
  have inj : ∀ (l m : List ByteArray), l.map (·.data.toList) = m.map (·.data.toList) → l = m := by
    intro l
    induction l with
    | nil => intro m hm; cases m with
      | nil => rfl
      | cons => simp at hm
    | cons x l ih => intro m hm; cases m with
      | nil => simp at hm
      | cons y m =>
        simp only [List.map_cons, List.cons.injEq] at hm
        obtain ⟨h1, h2⟩ := hm
        rw [ih m h2]
        congr 1
        cases x; cases y
        congr 1
        exact Array.toList_inj.1 h1
  refine inj _ _ ?_
  rw [h]
  simp [Lib.splitK]

end Go.Proofs.YtppjogagimflpaaGreatDoor
