/-
  Says: reading the text of a valid line gives that line (plain functions on bytes; no statement of the seat).
-/
import Derived.Test.YtkmmnlhmfiabfaaGreatDoorFnRd
set_option linter.unusedVariables false
set_option linter.unusedSimpArgs false
namespace Go.Proofs.YtkmmnlhmfiabfaaGreatDoor
open Go Go.RowKit

theorem letter_ascii (k : Int) : (letter k).toNat < 128 := by
  unfold letter
  repeat' split
  all_goals decide
theorem kindR_letter (k : Int) (h1 : 1 ≤ k) (h2 : k ≤ 4) : kindR ((letter k).toNat : Int) = k := by
  obtain rfl | rfl | rfl | rfl : k = 1 ∨ k = 2 ∨ k = 3 ∨ k = 4 := by omega
  all_goals rfl
/-- The same reading over a list of bytes. -/
def rdL : List UInt8 → Nat → Int × Int × Int → Int × Int × Int
  | [], _, st => st
  | b :: l, pos, st => rdL l (pos + 1) (stp pos (b.toNat : Int) st.1 st.2.1 st.2.2)
theorem rdL_snoc (b : UInt8) : ∀ (l : List UInt8) (pos : Nat) (st : Int × Int × Int), rdL (l ++ [b]) pos st = stp (pos + l.length) (b.toNat : Int) (rdL l pos st).1 (rdL l pos st).2.1 (rdL l pos st).2.2
  | [], pos, st => rfl
  | a :: l, pos, st => by
    show rdL (l ++ [b]) (pos + 1) _ = _
    rw [rdL_snoc b l (pos + 1)]
    show stp (pos + 1 + l.length) _ _ _ _ = stp (pos + (l.length + 1)) _ _ _ _
    rw [show pos + 1 + l.length = pos + (l.length + 1) by omega]
    rfl
theorem rdF_ascii (bs : List UInt8) (ha : ∀ b ∈ bs, b.toNat < 128) : ∀ (f pos : Nat) (st : Int × Int × Int), bs.length ≤ pos + f → rdF ⟨bs.toArray⟩ f pos st = rdL (bs.drop pos) pos st
  | 0, pos, st, h => by rw [List.drop_eq_nil_of_le (by omega)]; rfl
  | f + 1, pos, st, h => by
    by_cases hp : pos < bs.length
    · have hp' : pos < (ByteArray.mk bs.toArray).size := by show pos < bs.toArray.size; simpa using hp
      have hb : (ByteArray.mk bs.toArray)[pos]'hp' = bs[pos] := by show bs.toArray[pos] = _; simp
      have hd : Utf8.decode ⟨bs.toArray⟩ pos = ((bs[pos]).toNat, 1) := by
        rw [decode_ascii _ pos hp' (by rw [hb]; exact ha _ (List.getElem_mem hp)), hb]
      unfold rdF
      rw [if_pos hp', hd, rdF_ascii bs ha f (pos + 1) _ (by omega), List.drop_eq_getElem_cons hp]
      rfl
    · rw [rdF_end _ _ _ _ (by show ¬ pos < bs.toArray.size; simpa using hp), List.drop_eq_nil_of_le (by omega)]
      rfl
theorem dig_nat (u : Nat) : (UInt8.ofNat (48 + u % 10)).toNat = 48 + u % 10 := by
  rw [UInt8.toNat_ofNat']; omega
theorem dig_nat1 (u : Nat) (h : u < 10) : (UInt8.ofNat (48 + u)).toNat = 48 + u := by
  rw [UInt8.toNat_ofNat']; omega
theorem stp_dig (pos u : Nat) (k sg c : Int) (hp : 1 ≤ pos) (hu : u < 10) (hc : c ≤ 4096) : stp pos ((48 + u : Nat) : Int) k sg c = (k, sg, 10 * c + u) := by
  unfold stp
  rw [if_neg (by omega), if_neg (by omega), if_pos (by omega)]
  congr 2; omega
theorem rdL_digits (n : Nat) : ∀ (u pos : Nat) (k sg : Int), u ≤ n → u ≤ 40000 → 1 ≤ pos → rdL (Lib.decDigits u) pos (k, sg, 0) = (k, sg, (u : Int)) := by
  induction n with
  | zero =>
    intro u pos k sg hn h hp
    have : u = 0 := by omega
    subst this
    rw [Lib.decDigits_one (by omega)]
    show stp pos _ k sg 0 = _
    rw [dig_nat1 0 (by omega), stp_dig pos 0 k sg 0 hp (by omega) (by omega)]
    rfl
  | succ n ih =>
    intro u pos k sg hn h hp
    by_cases h10 : u < 10
    · rw [Lib.decDigits_one h10]
      show stp pos _ k sg 0 = _
      rw [dig_nat1 u h10, stp_dig pos u k sg 0 hp h10 (by omega)]
      congr 2; omega
    · rw [Lib.decDigits.eq_1 u, dif_neg h10, rdL_snoc, ih (u / 10) pos k sg (by omega) (by omega) hp, dig_nat]
      show stp _ ((48 + u % 10 : Nat) : Int) k sg ((u / 10 : Nat) : Int) = _
      rw [stp_dig _ (u % 10) k sg _ (by omega) (by omega) (by omega)]
      congr 2; omega
theorem digits_ascii (n : Nat) : ∀ u, u ≤ n → ∀ b ∈ Lib.decDigits u, b.toNat < 128 := by
  induction n with
  | zero =>
    intro u hu b hb
    rw [Lib.decDigits_one (by omega)] at hb
    rw [List.mem_singleton.1 hb, dig_nat1 u (by omega)]; omega
  | succ n ih =>
    intro u hu b hb
    by_cases h10 : u < 10
    · rw [Lib.decDigits_one h10] at hb
      rw [List.mem_singleton.1 hb, dig_nat1 u h10]; omega
    · rw [Lib.decDigits.eq_1 u, dif_neg h10] at hb
      rcases List.mem_append.1 hb with hb | hb
      · exact ih (u / 10) (by omega) b hb
      · rw [List.mem_singleton.1 hb, dig_nat]; omega
theorem textL_ascii (k c : Int) : ∀ b ∈ textL k c, b.toNat < 128 := by
  intro b hb
  unfold textL at hb
  rcases List.mem_cons.1 hb with rfl | hb
  · exact letter_ascii k
  rcases List.mem_cons.1 hb with rfl | hb
  · decide
  unfold Lib.itoa at hb
  split at hb
  · rcases List.mem_cons.1 hb with rfl | hb
    · decide
    · exact digits_ascii _ _ (Nat.le_refl _) b hb
  · exact digits_ascii _ _ (Nat.le_refl _) b hb
/-- Reading a line's text gives the line. -/
theorem rd_text (k c : Int) (h1 : 1 ≤ k) (h2 : k ≤ 4) (h3 : -4096 ≤ c) (h4 : c ≤ 4096) :
    rdF ⟨(textL k c).toArray⟩ (ByteArray.mk (textL k c).toArray).size 0 (0, 1, 0) = (k, if c < 0 then -1 else 1, if c < 0 then -c else c) := by
  rw [rdF_ascii _ (textL_ascii k c) _ _ _ (by show _ ≤ 0 + (textL k c).toArray.size; simp)]
  rw [List.drop_zero]
  unfold textL
  show rdL (Lib.itoa c) 2 (stp 1 32 (stp 0 ((letter k).toNat : Int) 0 1 0).1 (stp 0 ((letter k).toNat : Int) 0 1 0).2.1 (stp 0 ((letter k).toNat : Int) 0 1 0).2.2) = _
  have e0 : stp 0 ((letter k).toNat : Int) 0 1 0 = (k, 1, 0) := by unfold stp; rw [if_pos rfl, kindR_letter k h1 h2]
  have e1 : stp 1 32 k 1 0 = (k, 1, 0) := by unfold stp; rw [if_neg (by omega), if_neg (by omega), if_neg (by omega)]
  rw [e0]
  show rdL (Lib.itoa c) 2 (stp 1 32 k 1 0) = _
  rw [e1]
  by_cases hc : c < 0
  · rw [if_pos hc, if_pos hc]
    unfold Lib.itoa
    rw [if_pos hc]
    show rdL (Lib.decDigits c.natAbs) 3 (stp 2 45 k 1 0) = _
    have e2 : stp 2 45 k 1 0 = (k, -1, 0) := by unfold stp; rw [if_neg (by omega), if_pos rfl]
    rw [e2, rdL_digits _ _ 3 k (-1) (Nat.le_refl _) (by omega) (by omega)]
    congr 2; omega
  · rw [if_neg hc, if_neg hc]
    unfold Lib.itoa
    rw [if_neg hc, rdL_digits _ _ 2 k 1 (Nat.le_refl _) (by omega) (by omega)]
    congr 2; omega
theorem rd_range (s : ByteArray) : ∀ (f pos : Nat) (st : Int × Int × Int), 0 ≤ st.1 → st.1 ≤ 4 → (st.2.1 = 1 ∨ st.2.1 = -1) → 0 ≤ st.2.2 → st.2.2 ≤ 40969 →
    0 ≤ (rdF s f pos st).1 ∧ (rdF s f pos st).1 ≤ 4 ∧ ((rdF s f pos st).2.1 = 1 ∨ (rdF s f pos st).2.1 = -1) ∧ 0 ≤ (rdF s f pos st).2.2 ∧ (rdF s f pos st).2.2 ≤ 40969
  | 0, pos, st, a, b, c, d, e => ⟨a, b, c, d, e⟩
  | f + 1, pos, (k, sg, c), h1, h2, h3, h4, h5 => by
    unfold rdF
    split
    · have hk := kindR_range ((Utf8.decode s pos).1 : Int)
      apply rd_range s f
      all_goals unfold stp
      all_goals simp only at h1 h2 h3 h4 h5 ⊢
      all_goals repeat' split
      all_goals simp only
      all_goals first | omega | exact h3 | exact .inr rfl | exact .inr trivial | simp
    · exact ⟨h1, h2, h3, h4, h5⟩

end Go.Proofs.YtkmmnlhmfiabfaaGreatDoor
