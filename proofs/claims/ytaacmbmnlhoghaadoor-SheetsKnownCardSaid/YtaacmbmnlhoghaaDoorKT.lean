/-
  Says: what Ends and Line answer at units.
-/
import Derived.Test.YtaacmbmnlhoghaaDoorKT1
import Derived.Test.YtaacmbmnlhoghaaDoorKT2
import Derived.Test.YtaacmbmnlhoghaaDoorKT3
import Derived.Test.YtaacmbmnlhoghaaDoorKT4
import Derived.Test.YtaacmbmnlhoghaaDoorKT5
import Derived.KernelRfl
set_option maxRecDepth 1000000
set_option linter.unusedVariables false
set_option linter.unusedSimpArgs false
namespace Go.Proofs.YtaacmbmnlhoghaaDoor
open Go Go.Vx
attribute [local instance] anyKeeps

theorem unE_all (t : Nat → TypeId) : allN (unE t 1 1) (12 * 1 * 1) 0 = true ∧ allN (unE t 1 2) (12 * 1 * 2) 0 = true ∧ allN (unE t 1 3) (12 * 1 * 3) 0 = true ∧ allN (unE t 1 4) (12 * 1 * 4) 0 = true ∧ allN (unE t 1 5) (12 * 1 * 5) 0 = true ∧ allN (unE t 2 1) (12 * 2 * 1) 0 = true ∧ allN (unE t 2 2) (12 * 2 * 2) 0 = true ∧ allN (unE t 2 3) (12 * 2 * 3) 0 = true ∧ allN (unE t 2 4) (12 * 2 * 4) 0 = true ∧ allN (unE t 2 5) (12 * 2 * 5) 0 = true ∧ allN (unE t 3 1) (12 * 3 * 1) 0 = true ∧ allN (unE t 3 2) (12 * 3 * 2) 0 = true ∧ allN (unE t 3 3) (12 * 3 * 3) 0 = true ∧ allN (unE t 3 4) (12 * 3 * 4) 0 = true ∧ allN (unE t 3 5) (12 * 3 * 5) 0 = true ∧ allN (unE t 4 1) (12 * 4 * 1) 0 = true ∧ allN (unE t 4 2) (12 * 4 * 2) 0 = true ∧ allN (unE t 4 3) (12 * 4 * 3) 0 = true ∧ allN (unE t 4 4) (12 * 4 * 4) 0 = true ∧ allN (unE t 4 5) (12 * 4 * 5) 0 = true ∧ allN (unE t 5 1) (12 * 5 * 1) 0 = true ∧ allN (unE t 5 2) (12 * 5 * 2) 0 = true ∧ allN (unE t 5 3) (12 * 5 * 3) 0 = true ∧ allN (unE t 5 4) (12 * 5 * 4) 0 = true ∧ allN (unE t 5 5) (12 * 5 * 5) 0 = true := ⟨ue_1_1 t, ue_1_2 t, ue_1_3 t, ue_1_4 t, ue_1_5 t, ue_2_1 t, ue_2_2 t, ue_2_3 t, ue_2_4 t, ue_2_5 t, ue_3_1 t, ue_3_2 t, ue_3_3 t, ue_3_4 t, ue_3_5 t, ue_4_1 t, ue_4_2 t, ue_4_3 t, ue_4_4 t, ue_4_5 t, ue_5_1 t, ue_5_2 t, ue_5_3 t, ue_5_4 t, ue_5_5 t⟩
theorem unE_get (t : Nat → TypeId) {W H id e : Nat} (hb : inU W H id e = true) : Entry Tryd.prog (tabG t) 21 ([va [vi W, vi H], va [vi id, vu e]], vp [enV W id e, vi 0]) ∧ Entry Tryd.prog (tabG t) 22 ([va [vi W, vi H], va [vi id, vu e]], vp [liV W id e, vi 0]) ∧ Entry Tryd.prog (tabG t) 23 ([va [vi W, vi H], va [vi id, vu e]], enV W id e) := by
  unfold inU inB at hb
  simp only [Bool.and_eq_true] at hb
  obtain ⟨⟨⟨h1, h2, h3, h4⟩, h5, h6⟩, hu⟩ := hb
  have h5 := (haveI := anySyms; blt_lt h5)
  have h6 := (haveI := anySyms; blt_lt h6)
  have hA := cls (p := fun W H => allN (unE t W H) (12 * W * H) 0 = true) (unE_all t) (Nat.le_of_ble_eq_true h1) (Nat.le_of_ble_eq_true h2) (Nat.le_of_ble_eq_true h3) (Nat.le_of_ble_eq_true h4)
  have hj : 3 * id + e < 0 + 12 * W * H := by
    have : Nat.mul 4 (Nat.mul W H) = 4 * (W * H) := rfl
    rw [this] at h5
    rw [show 12 * W * H = 12 * (W * H) from Nat.mul_assoc _ _ _]
    omega
  have := (haveI := anySyms; allN_get hA (3 * id + e) (Nat.zero_le _) hj)
  have d1 : Nat.div (3 * id + e) 3 = id := by show (3 * id + e) / 3 = id; omega
  have d2 : Nat.mod (3 * id + e) 3 = e := by show (3 * id + e) % 3 = e; omega
  unfold unE keyU at this
  rw [d1, d2, hu] at this
  simp only [Bool.and_eq_true] at this
  exact ⟨@entry_of anySyms anyKeeps _ _ (tabs_G t) (size_V t) (floor_V t) _ (@QA_ok t anySyms) _ _ this.1, @entry_of anySyms anyKeeps _ _ (tabs_G t) (size_V t) (floor_V t) _ (@QA_ok t anySyms) _ _ this.2.1, @entry_of anySyms anyKeeps _ _ (tabs_G t) (size_V t) (floor_V t) _ (@QA_ok t anySyms) _ _ this.2.2⟩
theorem a21 (t : Nat → TypeId) [Syms] : AnsOk Tryd.prog (tabG t) (fnAns 21 (ansU fun W id e => vp [enV W id e, vi 0])) := fnAns_ok (tabs_G t) (by
  intro args v h
  unfold ansU at h
  split at h
  · split at h
    · rename_i hb
      cases h
      exact (unE_get t hb).1
    · cases h
  · cases h)
theorem a22 (t : Nat → TypeId) [Syms] : AnsOk Tryd.prog (tabG t) (fnAns 22 (ansU fun W id e => vp [liV W id e, vi 0])) := fnAns_ok (tabs_G t) (by
  intro args v h
  unfold ansU at h
  split at h
  · split at h
    · rename_i hb
      cases h
      exact (unE_get t hb).2.1
    · cases h
  · cases h)
theorem a23 (t : Nat → TypeId) [Syms] : AnsOk Tryd.prog (tabG t) (fnAns 23 (ansU fun W id e => enV W id e)) := fnAns_ok (tabs_G t) (by
  intro args v h
  unfold ansU at h
  split at h
  · split at h
    · rename_i hb
      cases h
      exact (unE_get t hb).2.2
    · cases h
  · cases h)

noncomputable def AV : FuncId → List Value → Option Value := orAns (fnAns 21 (ansU fun W id e => vp [enV W id e, vi 0])) (orAns (fnAns 22 (ansU fun W id e => vp [liV W id e, vi 0])) (orAns (fnAns 23 (ansU fun W id e => enV W id e)) AU))
theorem AV_ok (t : Nat → TypeId) [Syms] : AnsOk Tryd.prog (tabG t) AV := (a21 t).or ((a22 t).or ((a23 t).or (AU_ok t)))
noncomputable def QV (t : Nat → TypeId) (l : List RowE) : Orc := rowOrc (fun _ => false) (tabG t) AV l
theorem QV_ok (t : Nat → TypeId) {l : List RowE} (h : RowsOk Tryd.prog (tabG t) l) [Syms] : OrcOk Tryd.prog (tabG t) (QV t l) := rowOrc_ok (tabs_G t) (base_G t) (AV_ok t) h
/-- SheetsUnits at a sheet. -/
noncomputable def unAt (t : Nat → TypeId) (W H : Nat) (l : List RowE) : Bool := isVal vt (@run (tabPrims [] []) Tryd.prog (orElse (valOrc (fun _ => false) (tabG t) (ansT [(8, [va [vy 0, vy 1]], va [vi W, vi H])])) (QV t l)) 1000000 (.call 5 [va [vy 0, vy 1]] (tabG t)))

end Go.Proofs.YtaacmbmnlhoghaaDoor
