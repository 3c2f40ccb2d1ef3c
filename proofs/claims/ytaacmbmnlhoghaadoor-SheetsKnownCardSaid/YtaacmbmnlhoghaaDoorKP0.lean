/-
  Says: what Neighbour answers, and the reference.
-/
import Derived.Test.YtaacmbmnlhoghaaDoorKN1
import Derived.Test.YtaacmbmnlhoghaaDoorKN2
import Derived.KernelRfl
set_option maxRecDepth 1000000
set_option linter.unusedVariables false
set_option linter.unusedSimpArgs false
namespace Go.Proofs.YtaacmbmnlhoghaaDoor
open Go Go.Vx
attribute [local instance] anyKeeps

attribute [local instance] anySyms

theorem n15_all (t : Nat → TypeId) : allN (fun j => entryOk Tryd.prog (QC0 t) (tabG t) 15 (keyN 1 1 j, nbV 1 1 (Nat.div j 3) (Nat.mod j 3))) (12 * 1 * 1) 0 = true ∧ allN (fun j => entryOk Tryd.prog (QC0 t) (tabG t) 15 (keyN 1 2 j, nbV 1 2 (Nat.div j 3) (Nat.mod j 3))) (12 * 1 * 2) 0 = true ∧ allN (fun j => entryOk Tryd.prog (QC0 t) (tabG t) 15 (keyN 1 3 j, nbV 1 3 (Nat.div j 3) (Nat.mod j 3))) (12 * 1 * 3) 0 = true ∧ allN (fun j => entryOk Tryd.prog (QC0 t) (tabG t) 15 (keyN 1 4 j, nbV 1 4 (Nat.div j 3) (Nat.mod j 3))) (12 * 1 * 4) 0 = true ∧ allN (fun j => entryOk Tryd.prog (QC0 t) (tabG t) 15 (keyN 1 5 j, nbV 1 5 (Nat.div j 3) (Nat.mod j 3))) (12 * 1 * 5) 0 = true ∧ allN (fun j => entryOk Tryd.prog (QC0 t) (tabG t) 15 (keyN 2 1 j, nbV 2 1 (Nat.div j 3) (Nat.mod j 3))) (12 * 2 * 1) 0 = true ∧ allN (fun j => entryOk Tryd.prog (QC0 t) (tabG t) 15 (keyN 2 2 j, nbV 2 2 (Nat.div j 3) (Nat.mod j 3))) (12 * 2 * 2) 0 = true ∧ allN (fun j => entryOk Tryd.prog (QC0 t) (tabG t) 15 (keyN 2 3 j, nbV 2 3 (Nat.div j 3) (Nat.mod j 3))) (12 * 2 * 3) 0 = true ∧ allN (fun j => entryOk Tryd.prog (QC0 t) (tabG t) 15 (keyN 2 4 j, nbV 2 4 (Nat.div j 3) (Nat.mod j 3))) (12 * 2 * 4) 0 = true ∧ allN (fun j => entryOk Tryd.prog (QC0 t) (tabG t) 15 (keyN 2 5 j, nbV 2 5 (Nat.div j 3) (Nat.mod j 3))) (12 * 2 * 5) 0 = true ∧ allN (fun j => entryOk Tryd.prog (QC0 t) (tabG t) 15 (keyN 3 1 j, nbV 3 1 (Nat.div j 3) (Nat.mod j 3))) (12 * 3 * 1) 0 = true ∧ allN (fun j => entryOk Tryd.prog (QC0 t) (tabG t) 15 (keyN 3 2 j, nbV 3 2 (Nat.div j 3) (Nat.mod j 3))) (12 * 3 * 2) 0 = true ∧ allN (fun j => entryOk Tryd.prog (QC0 t) (tabG t) 15 (keyN 3 3 j, nbV 3 3 (Nat.div j 3) (Nat.mod j 3))) (12 * 3 * 3) 0 = true ∧ allN (fun j => entryOk Tryd.prog (QC0 t) (tabG t) 15 (keyN 3 4 j, nbV 3 4 (Nat.div j 3) (Nat.mod j 3))) (12 * 3 * 4) 0 = true ∧ allN (fun j => entryOk Tryd.prog (QC0 t) (tabG t) 15 (keyN 3 5 j, nbV 3 5 (Nat.div j 3) (Nat.mod j 3))) (12 * 3 * 5) 0 = true ∧ allN (fun j => entryOk Tryd.prog (QC0 t) (tabG t) 15 (keyN 4 1 j, nbV 4 1 (Nat.div j 3) (Nat.mod j 3))) (12 * 4 * 1) 0 = true ∧ allN (fun j => entryOk Tryd.prog (QC0 t) (tabG t) 15 (keyN 4 2 j, nbV 4 2 (Nat.div j 3) (Nat.mod j 3))) (12 * 4 * 2) 0 = true ∧ allN (fun j => entryOk Tryd.prog (QC0 t) (tabG t) 15 (keyN 4 3 j, nbV 4 3 (Nat.div j 3) (Nat.mod j 3))) (12 * 4 * 3) 0 = true ∧ allN (fun j => entryOk Tryd.prog (QC0 t) (tabG t) 15 (keyN 4 4 j, nbV 4 4 (Nat.div j 3) (Nat.mod j 3))) (12 * 4 * 4) 0 = true ∧ allN (fun j => entryOk Tryd.prog (QC0 t) (tabG t) 15 (keyN 4 5 j, nbV 4 5 (Nat.div j 3) (Nat.mod j 3))) (12 * 4 * 5) 0 = true ∧ allN (fun j => entryOk Tryd.prog (QC0 t) (tabG t) 15 (keyN 5 1 j, nbV 5 1 (Nat.div j 3) (Nat.mod j 3))) (12 * 5 * 1) 0 = true ∧ allN (fun j => entryOk Tryd.prog (QC0 t) (tabG t) 15 (keyN 5 2 j, nbV 5 2 (Nat.div j 3) (Nat.mod j 3))) (12 * 5 * 2) 0 = true ∧ allN (fun j => entryOk Tryd.prog (QC0 t) (tabG t) 15 (keyN 5 3 j, nbV 5 3 (Nat.div j 3) (Nat.mod j 3))) (12 * 5 * 3) 0 = true ∧ allN (fun j => entryOk Tryd.prog (QC0 t) (tabG t) 15 (keyN 5 4 j, nbV 5 4 (Nat.div j 3) (Nat.mod j 3))) (12 * 5 * 4) 0 = true ∧ allN (fun j => entryOk Tryd.prog (QC0 t) (tabG t) 15 (keyN 5 5 j, nbV 5 5 (Nat.div j 3) (Nat.mod j 3))) (12 * 5 * 5) 0 = true := ⟨n15_1_1 t, n15_1_2 t, n15_1_3 t, n15_1_4 t, n15_1_5 t, n15_2_1 t, n15_2_2 t, n15_2_3 t, n15_2_4 t, n15_2_5 t, n15_3_1 t, n15_3_2 t, n15_3_3 t, n15_3_4 t, n15_3_5 t, n15_4_1 t, n15_4_2 t, n15_4_3 t, n15_4_4 t, n15_4_5 t, n15_5_1 t, n15_5_2 t, n15_5_3 t, n15_5_4 t, n15_5_5 t⟩
theorem e15 (t : Nat → TypeId) {W H id e : Nat} (hb : inB W H id e = true) : Entry Tryd.prog (tabG t) 15 ([va [vi W, vi H], vi id, vu e], nbV W H id e) := by
  unfold inB at hb
  simp only [Bool.and_eq_true] at hb
  obtain ⟨⟨h1, h2, h3, h4⟩, h5, h6⟩ := hb
  have h5 := blt_lt h5
  have h6 := blt_lt h6
  have hA := cls (p := fun W H => allN (fun j => entryOk Tryd.prog (QC0 t) (tabG t) 15 (keyN W H j, nbV W H (Nat.div j 3) (Nat.mod j 3))) (12 * W * H) 0 = true) (n15_all t) (Nat.le_of_ble_eq_true h1) (Nat.le_of_ble_eq_true h2) (Nat.le_of_ble_eq_true h3) (Nat.le_of_ble_eq_true h4)
  have hj : 3 * id + e < 0 + 12 * W * H := by
    have : Nat.mul 4 (Nat.mul W H) = 4 * (W * H) := rfl
    rw [this] at h5
    rw [show 12 * W * H = 12 * (W * H) from Nat.mul_assoc _ _ _]
    omega
  have := entries_allN (tabs_G t) (size_V t) (floor_V t) (QC0_ok t) hA (3 * id + e) (Nat.zero_le _) hj
  have d1 : Nat.div (3 * id + e) 3 = id := by show (3 * id + e) / 3 = id; omega
  have d2 : Nat.mod (3 * id + e) 3 = e := by show (3 * id + e) % 3 = e; omega
  unfold keyN at this
  rw [d1, d2] at this
  exact this
noncomputable def A15 (args : List Value) : Option Value := match args with
  | [.agg ⟨[.int .i64 (.ofNat W), .int .i64 (.ofNat H)]⟩, .int .i64 (.ofNat id), .int .u8 (.ofNat e)] => (match inB W H id e with | true => some (nbV W H id e) | false => none)
  | _ => none
theorem a15 (t : Nat → TypeId) [Syms] : AnsOk Tryd.prog (tabG t) (fnAns 15 A15) := fnAns_ok (tabs_G t) (by
  intro args v h
  unfold A15 at h
  split at h
  · split at h
    · rename_i hb
      cases h
      exact e15 t hb
    · cases h
  · cases h)

theorem n17_all (t : Nat → TypeId) : allN (fun j => entryOk Tryd.prog (QC0 t) (tabG t) 17 (keyR 1 1 j, rfV 1 1 (Nat.div j 3) (Nat.mod j 3))) (12 * 1 * 1) 0 = true ∧ allN (fun j => entryOk Tryd.prog (QC0 t) (tabG t) 17 (keyR 1 2 j, rfV 1 2 (Nat.div j 3) (Nat.mod j 3))) (12 * 1 * 2) 0 = true ∧ allN (fun j => entryOk Tryd.prog (QC0 t) (tabG t) 17 (keyR 1 3 j, rfV 1 3 (Nat.div j 3) (Nat.mod j 3))) (12 * 1 * 3) 0 = true ∧ allN (fun j => entryOk Tryd.prog (QC0 t) (tabG t) 17 (keyR 1 4 j, rfV 1 4 (Nat.div j 3) (Nat.mod j 3))) (12 * 1 * 4) 0 = true ∧ allN (fun j => entryOk Tryd.prog (QC0 t) (tabG t) 17 (keyR 1 5 j, rfV 1 5 (Nat.div j 3) (Nat.mod j 3))) (12 * 1 * 5) 0 = true ∧ allN (fun j => entryOk Tryd.prog (QC0 t) (tabG t) 17 (keyR 2 1 j, rfV 2 1 (Nat.div j 3) (Nat.mod j 3))) (12 * 2 * 1) 0 = true ∧ allN (fun j => entryOk Tryd.prog (QC0 t) (tabG t) 17 (keyR 2 2 j, rfV 2 2 (Nat.div j 3) (Nat.mod j 3))) (12 * 2 * 2) 0 = true ∧ allN (fun j => entryOk Tryd.prog (QC0 t) (tabG t) 17 (keyR 2 3 j, rfV 2 3 (Nat.div j 3) (Nat.mod j 3))) (12 * 2 * 3) 0 = true ∧ allN (fun j => entryOk Tryd.prog (QC0 t) (tabG t) 17 (keyR 2 4 j, rfV 2 4 (Nat.div j 3) (Nat.mod j 3))) (12 * 2 * 4) 0 = true ∧ allN (fun j => entryOk Tryd.prog (QC0 t) (tabG t) 17 (keyR 2 5 j, rfV 2 5 (Nat.div j 3) (Nat.mod j 3))) (12 * 2 * 5) 0 = true ∧ allN (fun j => entryOk Tryd.prog (QC0 t) (tabG t) 17 (keyR 3 1 j, rfV 3 1 (Nat.div j 3) (Nat.mod j 3))) (12 * 3 * 1) 0 = true ∧ allN (fun j => entryOk Tryd.prog (QC0 t) (tabG t) 17 (keyR 3 2 j, rfV 3 2 (Nat.div j 3) (Nat.mod j 3))) (12 * 3 * 2) 0 = true ∧ allN (fun j => entryOk Tryd.prog (QC0 t) (tabG t) 17 (keyR 3 3 j, rfV 3 3 (Nat.div j 3) (Nat.mod j 3))) (12 * 3 * 3) 0 = true ∧ allN (fun j => entryOk Tryd.prog (QC0 t) (tabG t) 17 (keyR 3 4 j, rfV 3 4 (Nat.div j 3) (Nat.mod j 3))) (12 * 3 * 4) 0 = true ∧ allN (fun j => entryOk Tryd.prog (QC0 t) (tabG t) 17 (keyR 3 5 j, rfV 3 5 (Nat.div j 3) (Nat.mod j 3))) (12 * 3 * 5) 0 = true ∧ allN (fun j => entryOk Tryd.prog (QC0 t) (tabG t) 17 (keyR 4 1 j, rfV 4 1 (Nat.div j 3) (Nat.mod j 3))) (12 * 4 * 1) 0 = true ∧ allN (fun j => entryOk Tryd.prog (QC0 t) (tabG t) 17 (keyR 4 2 j, rfV 4 2 (Nat.div j 3) (Nat.mod j 3))) (12 * 4 * 2) 0 = true ∧ allN (fun j => entryOk Tryd.prog (QC0 t) (tabG t) 17 (keyR 4 3 j, rfV 4 3 (Nat.div j 3) (Nat.mod j 3))) (12 * 4 * 3) 0 = true ∧ allN (fun j => entryOk Tryd.prog (QC0 t) (tabG t) 17 (keyR 4 4 j, rfV 4 4 (Nat.div j 3) (Nat.mod j 3))) (12 * 4 * 4) 0 = true ∧ allN (fun j => entryOk Tryd.prog (QC0 t) (tabG t) 17 (keyR 4 5 j, rfV 4 5 (Nat.div j 3) (Nat.mod j 3))) (12 * 4 * 5) 0 = true ∧ allN (fun j => entryOk Tryd.prog (QC0 t) (tabG t) 17 (keyR 5 1 j, rfV 5 1 (Nat.div j 3) (Nat.mod j 3))) (12 * 5 * 1) 0 = true ∧ allN (fun j => entryOk Tryd.prog (QC0 t) (tabG t) 17 (keyR 5 2 j, rfV 5 2 (Nat.div j 3) (Nat.mod j 3))) (12 * 5 * 2) 0 = true ∧ allN (fun j => entryOk Tryd.prog (QC0 t) (tabG t) 17 (keyR 5 3 j, rfV 5 3 (Nat.div j 3) (Nat.mod j 3))) (12 * 5 * 3) 0 = true ∧ allN (fun j => entryOk Tryd.prog (QC0 t) (tabG t) 17 (keyR 5 4 j, rfV 5 4 (Nat.div j 3) (Nat.mod j 3))) (12 * 5 * 4) 0 = true ∧ allN (fun j => entryOk Tryd.prog (QC0 t) (tabG t) 17 (keyR 5 5 j, rfV 5 5 (Nat.div j 3) (Nat.mod j 3))) (12 * 5 * 5) 0 = true := ⟨n17_1_1 t, n17_1_2 t, n17_1_3 t, n17_1_4 t, n17_1_5 t, n17_2_1 t, n17_2_2 t, n17_2_3 t, n17_2_4 t, n17_2_5 t, n17_3_1 t, n17_3_2 t, n17_3_3 t, n17_3_4 t, n17_3_5 t, n17_4_1 t, n17_4_2 t, n17_4_3 t, n17_4_4 t, n17_4_5 t, n17_5_1 t, n17_5_2 t, n17_5_3 t, n17_5_4 t, n17_5_5 t⟩
theorem e17 (t : Nat → TypeId) {W H id e : Nat} (hb : inB W H id e = true) : Entry Tryd.prog (tabG t) 17 ([va [vi W, vi H], vi id, vi e], rfV W H id e) := by
  unfold inB at hb
  simp only [Bool.and_eq_true] at hb
  obtain ⟨⟨h1, h2, h3, h4⟩, h5, h6⟩ := hb
  have h5 := blt_lt h5
  have h6 := blt_lt h6
  have hA := cls (p := fun W H => allN (fun j => entryOk Tryd.prog (QC0 t) (tabG t) 17 (keyR W H j, rfV W H (Nat.div j 3) (Nat.mod j 3))) (12 * W * H) 0 = true) (n17_all t) (Nat.le_of_ble_eq_true h1) (Nat.le_of_ble_eq_true h2) (Nat.le_of_ble_eq_true h3) (Nat.le_of_ble_eq_true h4)
  have hj : 3 * id + e < 0 + 12 * W * H := by
    have : Nat.mul 4 (Nat.mul W H) = 4 * (W * H) := rfl
    rw [this] at h5
    rw [show 12 * W * H = 12 * (W * H) from Nat.mul_assoc _ _ _]
    omega
  have := entries_allN (tabs_G t) (size_V t) (floor_V t) (QC0_ok t) hA (3 * id + e) (Nat.zero_le _) hj
  have d1 : Nat.div (3 * id + e) 3 = id := by show (3 * id + e) / 3 = id; omega
  have d2 : Nat.mod (3 * id + e) 3 = e := by show (3 * id + e) % 3 = e; omega
  unfold keyR at this
  rw [d1, d2] at this
  exact this
noncomputable def A17 (args : List Value) : Option Value := match args with
  | [.agg ⟨[.int .i64 (.ofNat W), .int .i64 (.ofNat H)]⟩, .int .i64 (.ofNat id), .int .i64 (.ofNat e)] => (match inB W H id e with | true => some (rfV W H id e) | false => none)
  | _ => none
theorem a17 (t : Nat → TypeId) [Syms] : AnsOk Tryd.prog (tabG t) (fnAns 17 A17) := fnAns_ok (tabs_G t) (by
  intro args v h
  unfold A17 at h
  split at h
  · split at h
    · rename_i hb
      cases h
      exact e17 t hb
    · cases h
  · cases h)

noncomputable def QC1 (t : Nat → TypeId) : Orc := valOrc (fun _ => false) (tabG t) (fnAns 15 A15)
theorem QC1_ok (t : Nat → TypeId) [Syms] : OrcOk Tryd.prog (tabG t) (QC1 t) := valOrc_ok (base_G t) (a15 t)

end Go.Proofs.YtaacmbmnlhoghaaDoor
