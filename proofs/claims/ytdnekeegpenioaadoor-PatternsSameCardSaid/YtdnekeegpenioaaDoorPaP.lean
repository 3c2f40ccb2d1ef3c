/-
  Says: P.Of, for any P.
-/
import Derived.Test.YtdnekeegpenioaaDoorPaU
import Derived.Test.YtdnekeegpenioaaDoorPaW
import Derived.Test.YtdnekeegpenioaaDoorPaO
set_option linter.unusedVariables false
set_option linter.unusedSimpArgs false
namespace Go.Proofs.YtdnekeegpenioaaDoor
open Go Go.RowKit

/-- What P gives: the sheet, how many creases, and these. -/
def pW (W : Int) : Nat := 1 + (W % 4).toNat
noncomputable def pN (a b nk : Nat) (kd : Nat → Int) : Nat := crN (kdOf nk kd) (unN a b)
noncomputable def pC (a b nk : Nat) (kd : Nat → Int) : Nat → Int := cC (ucL (unRow a b)) (ueL (unRow a b)) (kdOf nk kd) (unN a b)
noncomputable def pE (a b nk : Nat) (kd : Nat → Int) : Nat → Int := cE (ucL (unRow a b)) (ueL (unRow a b)) (kdOf nk kd) (unN a b)
noncomputable def pK (a b nk : Nat) (kd : Nat → Int) : Nat → Int := cK (ucL (unRow a b)) (ueL (unRow a b)) (kdOf nk kd) (unN a b)
theorem pN_le {a b nk : Nat} {kd : Nat → Int} (h2 : a ≤ 4) (h4 : b ≤ 4) : pN a b nk kd ≤ 96 := by
  have h := crN_le (kdOf nk kd) (unN a b)
  have : a * b ≤ 4 * 4 := Nat.mul_le_mul h2 h4
  have e : unN a b ≤ 96 := by unfold unN; rw [Nat.mul_assoc]; omega
  unfold pN; omega
theorem pK_range {a b nk : Nat} {kd : Nat → Int} (hk : ∀ i, i < nk → 0 ≤ kd i ∧ kd i ≤ 255) (j : Nat) (hj : j < pN a b nk kd) : 1 ≤ pK a b nk kd j ∧ pK a b nk kd j ≤ 3 := by
  obtain ⟨_, _, _, t, h1, h2, _, _, h3⟩ := crV_cells (ucL (unRow a b)) (ueL (unRow a b)) (kdOf nk kd) (unN a b) j hj
  unfold pK
  rw [h3]
  unfold kdOf at h2 ⊢
  split at h2
  · rename_i hlt
    have := hk t hlt
    rw [if_pos hlt]
    have e := Int.tmod_eq_emod_of_nonneg (b := 4) this.1
    rw [e] at h2 ⊢
    omega
  · exact absurd rfl h2
theorem pof_any (W H : Int) (kd : Nat → Int) (pk : Option Addr) (nk ck : Nat) (w : World) (hL : Lay w) (hb : Byts w pk nk kd) (hW : 0 ≤ W) (hH : 0 ≤ H) (hnk : (nk : Int) ≤ 9223372036854775807) :
    Calls Tryd.prog 17 #[.agg #[.int .u8 W, .int .u8 H, .slice pk nk ck]] w fun r w' => PatAt w.heap.size (pW W) (pW H) (pN (pW W) (pW H) nk kd) (pC (pW W) (pW H) nk kd) (pE (pW W) (pW H) nk kd) (pK (pW W) (pW H) nk kd) r w' ∧ Below w.heap.size w w' := by
  have e1 := Int.tmod_eq_emod_of_nonneg (b := 4) hW
  have e2 := Int.tmod_eq_emod_of_nonneg (b := 4) hH
  have a1 : 1 ≤ pW W := by unfold pW; omega
  have a2 : pW W ≤ 4 := by unfold pW; omega
  have a3 : 1 ≤ pW H := by unfold pW; omega
  have a4 : pW H ≤ 4 := by unfold pW; omega
  have w1 : 1 + W.tmod 4 = ((pW W : Nat) : Int) := by unfold pW; omega
  have w2 : 1 + H.tmod 4 = ((pW H : Nat) : Int) := by unfold pW; omega
  have m1 : 1 ≤ pW W * pW H := Nat.mul_le_mul a1 a3
  have m2 : pW W * pW H ≤ 4 * 4 := Nat.mul_le_mul a2 a4
  have m3 : pW W * 1 ≤ pW W * pW H := Nat.mul_le_mul_left _ a3
  have m4 : 1 * pW H ≤ pW W * pW H := Nat.mul_le_mul_right _ a1
  have hle : min (unN (pW W) (pW H)) (6 * pW W * pW H) = unN (pW W) (pW H) := by unfold unN; omega
  have hun : unN (pW W) (pW H) ≤ 96 := by unfold unN; rw [Nat.mul_assoc]; omega
  refine of_walk W H (pW W : Nat) (pW H : Nat) (6 * (pW W : Nat) : Int) (6 * pW W * pW H) kd pk nk ck w hb (by omega) (by omega) (by omega) (by omega) w1 w2 rfl (by push_cast; rfl) (by omega) (by omega) (by rw [Nat.mul_assoc]; omega) (by rw [Nat.mul_assoc]; omega) hnk _ _ _ _ fun W' lb hB hlb hk => ?_
  have h := with_any (pW W : Nat) (pW H : Nat) (ucL (unRow (pW W) (pW H))) (ueL (unRow (pW W) (pW H))) (kdOf nk kd) (unN (pW W) (pW H)) lb 0 (6 * pW W * pW H) (6 * pW W * pW H) W' (by omega) (by rw [Nat.mul_assoc]; omega) (fun i hi => by rw [Nat.zero_add]; exact hk i hi)
    (fun W2 hB2 => units_any _ _ a1 a2 a3 a4 W2 (lay_below (lay_below hL hB) hB2))
  rw [hle] at h
  exact h

end Go.Proofs.YtdnekeegpenioaaDoor
