/-
  Says: what Meet gives for every two lines.
-/
import Derived.Test.YtbcmfenekpllhaaDoorFnB
import Derived.Test.YtbcmfenekpllhaaDoorFnL
set_option linter.unusedVariables false
set_option linter.unusedSimpArgs false
namespace Go.Proofs.YtbcmfenekpllhaaDoor
open Go Go.RowKit

set_option maxHeartbeats 1600000 in
theorem meet_12 (c d : Int) (w : World) (h1 : -4096 ≤ c) (h2 : c ≤ 4096) (h3 : -4096 ≤ d) (h4 : d ≤ 4096) : Calls Tryd.prog 50 #[ln 1 c, ln 2 d] w fun e w' => e = .returned (.tuple #[pt ((2) * c + (0) * d) ((0) * c + (2) * d), .int .i64 0]) ∧ Below w.heap.size w w' := by
  go_enter Tryd.func50, Tryd.ntmps50
  go_wp2_with (first | (go_at_call 42; refine (check_ok _ _ _ (by omega) (by omega) (by omega) (by omega)).mono ?_; rintro e w1 ⟨rfl, hb1⟩; obtain ⟨u1, rfl⟩ := after hb1; clear hb1) | fail)
  refine region_free2 8 6 6 31 7 7 31 _ _ (by kernel_rfl) (by kernel_rfl) (by decide) (by kernel_rfl) alloc26 (by kernel_rfl) alloc26 ?_
  simp only [List.take_succ_cons, List.take_zero, List.drop_succ_cons, List.drop_zero]
  repeat (first
    | (refine wpLex_plain (by rfl) (by rfl) (by rfl) (fun K hK => ?_); go_big_quiet_op; refine hK _ ?_; clear hK K)
    | (refine wpLex_call (by rfl) (by rfl) (fun K hK => ?_); go_simp; apply Exists.intro; refine ⟨fun _ => ?_, hK _ ?_⟩; ((first | (go_at_call 84; with_reducible exact Calls.laterL (slope_1 _)) | (go_at_call 84; with_reducible exact Calls.laterL (slope_2 _)))); clear hK K)
    | (refine wpLex_new (by rfl) ?_; simp only [Act.put, List.setIfInBounds_toArray, List.set_cons_zero, List.set_cons_succ]))
  refine wpLex_nil ?_
  intro b b2 u hb hk hb2 hk2 hne
  simp only [Act.put, List.setIfInBounds_toArray, List.set_cons_zero, List.set_cons_succ]
  have hne2 : b2 ≠ b := Ne.symm hne
  have e0 : (on u).cell? ⟨b, 0, none⟩ = some (.int .i64 0) := held_cell hk 0
  have e1 : (on u).cell? ⟨b, 1, none⟩ = some (.int .i64 0) := held_cell hk 1
  have f0 : (on u).frozen? ⟨b, 0, none⟩ = false := held_free hk 0
  have f1 : (on u).frozen? ⟨b, 1, none⟩ = false := held_free hk 1
  have e2 : ∀ v v', (((on u).setCell ⟨b, 0, none⟩ v).setCell ⟨b, 1, none⟩ v').cell? ⟨b2, 0, none⟩ = some (.int .i64 0) := fun v v' => held_cell (held_set_other (held_set_other hk2 hne2 _ _) hne2 _ _) 0
  have e3 : ∀ v v', (((on u).setCell ⟨b, 0, none⟩ v).setCell ⟨b, 1, none⟩ v').cell? ⟨b2, 1, none⟩ = some (.int .i64 0) := fun v v' => held_cell (held_set_other (held_set_other hk2 hne2 _ _) hne2 _ _) 1
  have f2 : (on u).frozen? ⟨b2, 0, none⟩ = false := held_free hk2 0
  have f3 : (on u).frozen? ⟨b2, 1, none⟩ = false := held_free hk2 1
  obtain ⟨v, hv, hl, hl2⟩ := stored22 hb hk hb2 hk2 hne (.int .i64 (1)) (.int .i64 (0)) (.int .i64 (0)) (.int .i64 (1))
  have E0 : (on v).cell? ⟨b, 0, none⟩ = some (.int .i64 (1)) := held_cell hl 0
  have E1 : (on v).cell? ⟨b, 1, none⟩ = some (.int .i64 (0)) := held_cell hl 1
  have E2 : (on v).cell? ⟨b2, 0, none⟩ = some (.int .i64 (0)) := held_cell hl2 0
  have E3 : (on v).cell? ⟨b2, 1, none⟩ = some (.int .i64 (1)) := held_cell hl2 1
  clear hl hl2 hne hne2 hb hb2 hk hk2
  go_wp2_with fail
  clear e0 e1 e2 e3 f0 f1 f2 f3 hv

  refine region_tail 29 (by kernel_rfl) (by kernel_rfl) ?_
  simp only [List.take_succ_cons, List.take_zero, List.drop_succ_cons, List.drop_zero]
  repeat (first
    | (refine wpLex_plain (by rfl) (by rfl) (by rfl) (fun K hK => ?_); go_big_quiet_op; refine hK _ ?_; clear hK K)
    | (refine wpLex_call (by rfl) (by rfl) (fun K hK => ?_); go_simp; apply Exists.intro; refine ⟨fun _ => ?_, hK _ ?_⟩; ((first | (go_at_call 0; with_reducible exact Calls.laterL (trivial)))); clear hK K)
    | (refine wpLex_new (by rfl) ?_; simp only [Act.put, List.setIfInBounds_toArray, List.set_cons_zero, List.set_cons_succ]))
  refine wpLex_nil ?_
  intro u9
  go_wp2
  exact bodyPost_ret (v := .tuple #[pt ((2) * c + (0) * d) ((0) * c + (2) * d), .int .i64 0]) (by simp [results, Tryd.results50, go_sem] <;> omega) rfl ⟨rfl, by repeat first | (with_reducible exact Below.refl _ _) | (with_reducible refine below_on ?_ _) | (with_reducible refine below_alloc ?_ _) | (with_reducible refine below_set ?_ (by simp; try omega) _) | (with_reducible refine below_drew ?_)⟩

set_option maxHeartbeats 1600000 in
theorem meet_13 (c d : Int) (w : World) (h1 : -4096 ≤ c) (h2 : c ≤ 4096) (h3 : -4096 ≤ d) (h4 : d ≤ 4096) : Calls Tryd.prog 50 #[ln 1 c, ln 3 d] w fun e w' => e = .returned (.tuple #[pt ((2) * c + (0) * d) ((-2) * c + (2) * d), .int .i64 0]) ∧ Below w.heap.size w w' := by
  go_enter Tryd.func50, Tryd.ntmps50
  go_wp2_with (first | (go_at_call 42; refine (check_ok _ _ _ (by omega) (by omega) (by omega) (by omega)).mono ?_; rintro e w1 ⟨rfl, hb1⟩; obtain ⟨u1, rfl⟩ := after hb1; clear hb1) | fail)
  refine region_free2 8 6 6 31 7 7 31 _ _ (by kernel_rfl) (by kernel_rfl) (by decide) (by kernel_rfl) alloc26 (by kernel_rfl) alloc26 ?_
  simp only [List.take_succ_cons, List.take_zero, List.drop_succ_cons, List.drop_zero]
  repeat (first
    | (refine wpLex_plain (by rfl) (by rfl) (by rfl) (fun K hK => ?_); go_big_quiet_op; refine hK _ ?_; clear hK K)
    | (refine wpLex_call (by rfl) (by rfl) (fun K hK => ?_); go_simp; apply Exists.intro; refine ⟨fun _ => ?_, hK _ ?_⟩; ((first | (go_at_call 84; with_reducible exact Calls.laterL (slope_1 _)) | (go_at_call 84; with_reducible exact Calls.laterL (slope_3 _)))); clear hK K)
    | (refine wpLex_new (by rfl) ?_; simp only [Act.put, List.setIfInBounds_toArray, List.set_cons_zero, List.set_cons_succ]))
  refine wpLex_nil ?_
  intro b b2 u hb hk hb2 hk2 hne
  simp only [Act.put, List.setIfInBounds_toArray, List.set_cons_zero, List.set_cons_succ]
  have hne2 : b2 ≠ b := Ne.symm hne
  have e0 : (on u).cell? ⟨b, 0, none⟩ = some (.int .i64 0) := held_cell hk 0
  have e1 : (on u).cell? ⟨b, 1, none⟩ = some (.int .i64 0) := held_cell hk 1
  have f0 : (on u).frozen? ⟨b, 0, none⟩ = false := held_free hk 0
  have f1 : (on u).frozen? ⟨b, 1, none⟩ = false := held_free hk 1
  have e2 : ∀ v v', (((on u).setCell ⟨b, 0, none⟩ v).setCell ⟨b, 1, none⟩ v').cell? ⟨b2, 0, none⟩ = some (.int .i64 0) := fun v v' => held_cell (held_set_other (held_set_other hk2 hne2 _ _) hne2 _ _) 0
  have e3 : ∀ v v', (((on u).setCell ⟨b, 0, none⟩ v).setCell ⟨b, 1, none⟩ v').cell? ⟨b2, 1, none⟩ = some (.int .i64 0) := fun v v' => held_cell (held_set_other (held_set_other hk2 hne2 _ _) hne2 _ _) 1
  have f2 : (on u).frozen? ⟨b2, 0, none⟩ = false := held_free hk2 0
  have f3 : (on u).frozen? ⟨b2, 1, none⟩ = false := held_free hk2 1
  obtain ⟨v, hv, hl, hl2⟩ := stored22 hb hk hb2 hk2 hne (.int .i64 (1)) (.int .i64 (0)) (.int .i64 (1)) (.int .i64 (1))
  have E0 : (on v).cell? ⟨b, 0, none⟩ = some (.int .i64 (1)) := held_cell hl 0
  have E1 : (on v).cell? ⟨b, 1, none⟩ = some (.int .i64 (0)) := held_cell hl 1
  have E2 : (on v).cell? ⟨b2, 0, none⟩ = some (.int .i64 (1)) := held_cell hl2 0
  have E3 : (on v).cell? ⟨b2, 1, none⟩ = some (.int .i64 (1)) := held_cell hl2 1
  clear hl hl2 hne hne2 hb hb2 hk hk2
  go_wp2_with fail
  clear e0 e1 e2 e3 f0 f1 f2 f3 hv

  refine region_tail 29 (by kernel_rfl) (by kernel_rfl) ?_
  simp only [List.take_succ_cons, List.take_zero, List.drop_succ_cons, List.drop_zero]
  repeat (first
    | (refine wpLex_plain (by rfl) (by rfl) (by rfl) (fun K hK => ?_); go_big_quiet_op; refine hK _ ?_; clear hK K)
    | (refine wpLex_call (by rfl) (by rfl) (fun K hK => ?_); go_simp; apply Exists.intro; refine ⟨fun _ => ?_, hK _ ?_⟩; ((first | (go_at_call 0; with_reducible exact Calls.laterL (trivial)))); clear hK K)
    | (refine wpLex_new (by rfl) ?_; simp only [Act.put, List.setIfInBounds_toArray, List.set_cons_zero, List.set_cons_succ]))
  refine wpLex_nil ?_
  intro u9
  go_wp2
  exact bodyPost_ret (v := .tuple #[pt ((2) * c + (0) * d) ((-2) * c + (2) * d), .int .i64 0]) (by simp [results, Tryd.results50, go_sem] <;> omega) rfl ⟨rfl, by repeat first | (with_reducible exact Below.refl _ _) | (with_reducible refine below_on ?_ _) | (with_reducible refine below_alloc ?_ _) | (with_reducible refine below_set ?_ (by simp; try omega) _) | (with_reducible refine below_drew ?_)⟩

set_option maxHeartbeats 1600000 in
theorem meet_14 (c d : Int) (w : World) (h1 : -4096 ≤ c) (h2 : c ≤ 4096) (h3 : -4096 ≤ d) (h4 : d ≤ 4096) : Calls Tryd.prog 50 #[ln 1 c, ln 4 d] w fun e w' => e = .returned (.tuple #[pt ((2) * c + (0) * d) ((2) * c + (2) * d), .int .i64 0]) ∧ Below w.heap.size w w' := by
  go_enter Tryd.func50, Tryd.ntmps50
  go_wp2_with (first | (go_at_call 42; refine (check_ok _ _ _ (by omega) (by omega) (by omega) (by omega)).mono ?_; rintro e w1 ⟨rfl, hb1⟩; obtain ⟨u1, rfl⟩ := after hb1; clear hb1) | fail)
  refine region_free2 8 6 6 31 7 7 31 _ _ (by kernel_rfl) (by kernel_rfl) (by decide) (by kernel_rfl) alloc26 (by kernel_rfl) alloc26 ?_
  simp only [List.take_succ_cons, List.take_zero, List.drop_succ_cons, List.drop_zero]
  repeat (first
    | (refine wpLex_plain (by rfl) (by rfl) (by rfl) (fun K hK => ?_); go_big_quiet_op; refine hK _ ?_; clear hK K)
    | (refine wpLex_call (by rfl) (by rfl) (fun K hK => ?_); go_simp; apply Exists.intro; refine ⟨fun _ => ?_, hK _ ?_⟩; ((first | (go_at_call 84; with_reducible exact Calls.laterL (slope_1 _)) | (go_at_call 84; with_reducible exact Calls.laterL (slope_4 _)))); clear hK K)
    | (refine wpLex_new (by rfl) ?_; simp only [Act.put, List.setIfInBounds_toArray, List.set_cons_zero, List.set_cons_succ]))
  refine wpLex_nil ?_
  intro b b2 u hb hk hb2 hk2 hne
  simp only [Act.put, List.setIfInBounds_toArray, List.set_cons_zero, List.set_cons_succ]
  have hne2 : b2 ≠ b := Ne.symm hne
  have e0 : (on u).cell? ⟨b, 0, none⟩ = some (.int .i64 0) := held_cell hk 0
  have e1 : (on u).cell? ⟨b, 1, none⟩ = some (.int .i64 0) := held_cell hk 1
  have f0 : (on u).frozen? ⟨b, 0, none⟩ = false := held_free hk 0
  have f1 : (on u).frozen? ⟨b, 1, none⟩ = false := held_free hk 1
  have e2 : ∀ v v', (((on u).setCell ⟨b, 0, none⟩ v).setCell ⟨b, 1, none⟩ v').cell? ⟨b2, 0, none⟩ = some (.int .i64 0) := fun v v' => held_cell (held_set_other (held_set_other hk2 hne2 _ _) hne2 _ _) 0
  have e3 : ∀ v v', (((on u).setCell ⟨b, 0, none⟩ v).setCell ⟨b, 1, none⟩ v').cell? ⟨b2, 1, none⟩ = some (.int .i64 0) := fun v v' => held_cell (held_set_other (held_set_other hk2 hne2 _ _) hne2 _ _) 1
  have f2 : (on u).frozen? ⟨b2, 0, none⟩ = false := held_free hk2 0
  have f3 : (on u).frozen? ⟨b2, 1, none⟩ = false := held_free hk2 1
  obtain ⟨v, hv, hl, hl2⟩ := stored22 hb hk hb2 hk2 hne (.int .i64 (1)) (.int .i64 (0)) (.int .i64 (-1)) (.int .i64 (1))
  have E0 : (on v).cell? ⟨b, 0, none⟩ = some (.int .i64 (1)) := held_cell hl 0
  have E1 : (on v).cell? ⟨b, 1, none⟩ = some (.int .i64 (0)) := held_cell hl 1
  have E2 : (on v).cell? ⟨b2, 0, none⟩ = some (.int .i64 (-1)) := held_cell hl2 0
  have E3 : (on v).cell? ⟨b2, 1, none⟩ = some (.int .i64 (1)) := held_cell hl2 1
  clear hl hl2 hne hne2 hb hb2 hk hk2
  go_wp2_with fail
  clear e0 e1 e2 e3 f0 f1 f2 f3 hv

  refine region_tail 29 (by kernel_rfl) (by kernel_rfl) ?_
  simp only [List.take_succ_cons, List.take_zero, List.drop_succ_cons, List.drop_zero]
  repeat (first
    | (refine wpLex_plain (by rfl) (by rfl) (by rfl) (fun K hK => ?_); go_big_quiet_op; refine hK _ ?_; clear hK K)
    | (refine wpLex_call (by rfl) (by rfl) (fun K hK => ?_); go_simp; apply Exists.intro; refine ⟨fun _ => ?_, hK _ ?_⟩; ((first | (go_at_call 0; with_reducible exact Calls.laterL (trivial)))); clear hK K)
    | (refine wpLex_new (by rfl) ?_; simp only [Act.put, List.setIfInBounds_toArray, List.set_cons_zero, List.set_cons_succ]))
  refine wpLex_nil ?_
  intro u9
  go_wp2
  exact bodyPost_ret (v := .tuple #[pt ((2) * c + (0) * d) ((2) * c + (2) * d), .int .i64 0]) (by simp [results, Tryd.results50, go_sem] <;> omega) rfl ⟨rfl, by repeat first | (with_reducible exact Below.refl _ _) | (with_reducible refine below_on ?_ _) | (with_reducible refine below_alloc ?_ _) | (with_reducible refine below_set ?_ (by simp; try omega) _) | (with_reducible refine below_drew ?_)⟩

set_option maxHeartbeats 1600000 in
theorem meet_21 (c d : Int) (w : World) (h1 : -4096 ≤ c) (h2 : c ≤ 4096) (h3 : -4096 ≤ d) (h4 : d ≤ 4096) : Calls Tryd.prog 50 #[ln 2 c, ln 1 d] w fun e w' => e = .returned (.tuple #[pt ((0) * c + (2) * d) ((2) * c + (0) * d), .int .i64 0]) ∧ Below w.heap.size w w' := by
  go_enter Tryd.func50, Tryd.ntmps50
  go_wp2_with (first | (go_at_call 42; refine (check_ok _ _ _ (by omega) (by omega) (by omega) (by omega)).mono ?_; rintro e w1 ⟨rfl, hb1⟩; obtain ⟨u1, rfl⟩ := after hb1; clear hb1) | fail)
  refine region_free2 8 6 6 31 7 7 31 _ _ (by kernel_rfl) (by kernel_rfl) (by decide) (by kernel_rfl) alloc26 (by kernel_rfl) alloc26 ?_
  simp only [List.take_succ_cons, List.take_zero, List.drop_succ_cons, List.drop_zero]
  repeat (first
    | (refine wpLex_plain (by rfl) (by rfl) (by rfl) (fun K hK => ?_); go_big_quiet_op; refine hK _ ?_; clear hK K)
    | (refine wpLex_call (by rfl) (by rfl) (fun K hK => ?_); go_simp; apply Exists.intro; refine ⟨fun _ => ?_, hK _ ?_⟩; ((first | (go_at_call 84; with_reducible exact Calls.laterL (slope_2 _)) | (go_at_call 84; with_reducible exact Calls.laterL (slope_1 _)))); clear hK K)
    | (refine wpLex_new (by rfl) ?_; simp only [Act.put, List.setIfInBounds_toArray, List.set_cons_zero, List.set_cons_succ]))
  refine wpLex_nil ?_
  intro b b2 u hb hk hb2 hk2 hne
  simp only [Act.put, List.setIfInBounds_toArray, List.set_cons_zero, List.set_cons_succ]
  have hne2 : b2 ≠ b := Ne.symm hne
  have e0 : (on u).cell? ⟨b, 0, none⟩ = some (.int .i64 0) := held_cell hk 0
  have e1 : (on u).cell? ⟨b, 1, none⟩ = some (.int .i64 0) := held_cell hk 1
  have f0 : (on u).frozen? ⟨b, 0, none⟩ = false := held_free hk 0
  have f1 : (on u).frozen? ⟨b, 1, none⟩ = false := held_free hk 1
  have e2 : ∀ v v', (((on u).setCell ⟨b, 0, none⟩ v).setCell ⟨b, 1, none⟩ v').cell? ⟨b2, 0, none⟩ = some (.int .i64 0) := fun v v' => held_cell (held_set_other (held_set_other hk2 hne2 _ _) hne2 _ _) 0
  have e3 : ∀ v v', (((on u).setCell ⟨b, 0, none⟩ v).setCell ⟨b, 1, none⟩ v').cell? ⟨b2, 1, none⟩ = some (.int .i64 0) := fun v v' => held_cell (held_set_other (held_set_other hk2 hne2 _ _) hne2 _ _) 1
  have f2 : (on u).frozen? ⟨b2, 0, none⟩ = false := held_free hk2 0
  have f3 : (on u).frozen? ⟨b2, 1, none⟩ = false := held_free hk2 1
  obtain ⟨v, hv, hl, hl2⟩ := stored22 hb hk hb2 hk2 hne (.int .i64 (0)) (.int .i64 (1)) (.int .i64 (1)) (.int .i64 (0))
  have E0 : (on v).cell? ⟨b, 0, none⟩ = some (.int .i64 (0)) := held_cell hl 0
  have E1 : (on v).cell? ⟨b, 1, none⟩ = some (.int .i64 (1)) := held_cell hl 1
  have E2 : (on v).cell? ⟨b2, 0, none⟩ = some (.int .i64 (1)) := held_cell hl2 0
  have E3 : (on v).cell? ⟨b2, 1, none⟩ = some (.int .i64 (0)) := held_cell hl2 1
  clear hl hl2 hne hne2 hb hb2 hk hk2
  go_wp2_with fail
  clear e0 e1 e2 e3 f0 f1 f2 f3 hv

  refine region_tail 29 (by kernel_rfl) (by kernel_rfl) ?_
  simp only [List.take_succ_cons, List.take_zero, List.drop_succ_cons, List.drop_zero]
  repeat (first
    | (refine wpLex_plain (by rfl) (by rfl) (by rfl) (fun K hK => ?_); go_big_quiet_op; refine hK _ ?_; clear hK K)
    | (refine wpLex_call (by rfl) (by rfl) (fun K hK => ?_); go_simp; apply Exists.intro; refine ⟨fun _ => ?_, hK _ ?_⟩; ((first | (go_at_call 0; with_reducible exact Calls.laterL (trivial)))); clear hK K)
    | (refine wpLex_new (by rfl) ?_; simp only [Act.put, List.setIfInBounds_toArray, List.set_cons_zero, List.set_cons_succ]))
  refine wpLex_nil ?_
  intro u9
  go_wp2
  exact bodyPost_ret (v := .tuple #[pt ((0) * c + (2) * d) ((2) * c + (0) * d), .int .i64 0]) (by simp [results, Tryd.results50, go_sem] <;> omega) rfl ⟨rfl, by repeat first | (with_reducible exact Below.refl _ _) | (with_reducible refine below_on ?_ _) | (with_reducible refine below_alloc ?_ _) | (with_reducible refine below_set ?_ (by simp; try omega) _) | (with_reducible refine below_drew ?_)⟩

set_option maxHeartbeats 1600000 in
theorem meet_23 (c d : Int) (w : World) (h1 : -4096 ≤ c) (h2 : c ≤ 4096) (h3 : -4096 ≤ d) (h4 : d ≤ 4096) : Calls Tryd.prog 50 #[ln 2 c, ln 3 d] w fun e w' => e = .returned (.tuple #[pt ((-2) * c + (2) * d) ((2) * c + (0) * d), .int .i64 0]) ∧ Below w.heap.size w w' := by
  go_enter Tryd.func50, Tryd.ntmps50
  go_wp2_with (first | (go_at_call 42; refine (check_ok _ _ _ (by omega) (by omega) (by omega) (by omega)).mono ?_; rintro e w1 ⟨rfl, hb1⟩; obtain ⟨u1, rfl⟩ := after hb1; clear hb1) | fail)
  refine region_free2 8 6 6 31 7 7 31 _ _ (by kernel_rfl) (by kernel_rfl) (by decide) (by kernel_rfl) alloc26 (by kernel_rfl) alloc26 ?_
  simp only [List.take_succ_cons, List.take_zero, List.drop_succ_cons, List.drop_zero]
  repeat (first
    | (refine wpLex_plain (by rfl) (by rfl) (by rfl) (fun K hK => ?_); go_big_quiet_op; refine hK _ ?_; clear hK K)
    | (refine wpLex_call (by rfl) (by rfl) (fun K hK => ?_); go_simp; apply Exists.intro; refine ⟨fun _ => ?_, hK _ ?_⟩; ((first | (go_at_call 84; with_reducible exact Calls.laterL (slope_2 _)) | (go_at_call 84; with_reducible exact Calls.laterL (slope_3 _)))); clear hK K)
    | (refine wpLex_new (by rfl) ?_; simp only [Act.put, List.setIfInBounds_toArray, List.set_cons_zero, List.set_cons_succ]))
  refine wpLex_nil ?_
  intro b b2 u hb hk hb2 hk2 hne
  simp only [Act.put, List.setIfInBounds_toArray, List.set_cons_zero, List.set_cons_succ]
  have hne2 : b2 ≠ b := Ne.symm hne
  have e0 : (on u).cell? ⟨b, 0, none⟩ = some (.int .i64 0) := held_cell hk 0
  have e1 : (on u).cell? ⟨b, 1, none⟩ = some (.int .i64 0) := held_cell hk 1
  have f0 : (on u).frozen? ⟨b, 0, none⟩ = false := held_free hk 0
  have f1 : (on u).frozen? ⟨b, 1, none⟩ = false := held_free hk 1
  have e2 : ∀ v v', (((on u).setCell ⟨b, 0, none⟩ v).setCell ⟨b, 1, none⟩ v').cell? ⟨b2, 0, none⟩ = some (.int .i64 0) := fun v v' => held_cell (held_set_other (held_set_other hk2 hne2 _ _) hne2 _ _) 0
  have e3 : ∀ v v', (((on u).setCell ⟨b, 0, none⟩ v).setCell ⟨b, 1, none⟩ v').cell? ⟨b2, 1, none⟩ = some (.int .i64 0) := fun v v' => held_cell (held_set_other (held_set_other hk2 hne2 _ _) hne2 _ _) 1
  have f2 : (on u).frozen? ⟨b2, 0, none⟩ = false := held_free hk2 0
  have f3 : (on u).frozen? ⟨b2, 1, none⟩ = false := held_free hk2 1
  obtain ⟨v, hv, hl, hl2⟩ := stored22 hb hk hb2 hk2 hne (.int .i64 (0)) (.int .i64 (1)) (.int .i64 (1)) (.int .i64 (1))
  have E0 : (on v).cell? ⟨b, 0, none⟩ = some (.int .i64 (0)) := held_cell hl 0
  have E1 : (on v).cell? ⟨b, 1, none⟩ = some (.int .i64 (1)) := held_cell hl 1
  have E2 : (on v).cell? ⟨b2, 0, none⟩ = some (.int .i64 (1)) := held_cell hl2 0
  have E3 : (on v).cell? ⟨b2, 1, none⟩ = some (.int .i64 (1)) := held_cell hl2 1
  clear hl hl2 hne hne2 hb hb2 hk hk2
  go_wp2_with fail
  clear e0 e1 e2 e3 f0 f1 f2 f3 hv

  refine region_tail 29 (by kernel_rfl) (by kernel_rfl) ?_
  simp only [List.take_succ_cons, List.take_zero, List.drop_succ_cons, List.drop_zero]
  repeat (first
    | (refine wpLex_plain (by rfl) (by rfl) (by rfl) (fun K hK => ?_); go_big_quiet_op; refine hK _ ?_; clear hK K)
    | (refine wpLex_call (by rfl) (by rfl) (fun K hK => ?_); go_simp; apply Exists.intro; refine ⟨fun _ => ?_, hK _ ?_⟩; ((first | (go_at_call 0; with_reducible exact Calls.laterL (trivial)))); clear hK K)
    | (refine wpLex_new (by rfl) ?_; simp only [Act.put, List.setIfInBounds_toArray, List.set_cons_zero, List.set_cons_succ]))
  refine wpLex_nil ?_
  intro u9
  go_wp2
  exact bodyPost_ret (v := .tuple #[pt ((-2) * c + (2) * d) ((2) * c + (0) * d), .int .i64 0]) (by simp [results, Tryd.results50, go_sem] <;> omega) rfl ⟨rfl, by repeat first | (with_reducible exact Below.refl _ _) | (with_reducible refine below_on ?_ _) | (with_reducible refine below_alloc ?_ _) | (with_reducible refine below_set ?_ (by simp; try omega) _) | (with_reducible refine below_drew ?_)⟩

set_option maxHeartbeats 1600000 in
theorem meet_24 (c d : Int) (w : World) (h1 : -4096 ≤ c) (h2 : c ≤ 4096) (h3 : -4096 ≤ d) (h4 : d ≤ 4096) : Calls Tryd.prog 50 #[ln 2 c, ln 4 d] w fun e w' => e = .returned (.tuple #[pt ((2) * c + (-2) * d) ((2) * c + (0) * d), .int .i64 0]) ∧ Below w.heap.size w w' := by
  go_enter Tryd.func50, Tryd.ntmps50
  go_wp2_with (first | (go_at_call 42; refine (check_ok _ _ _ (by omega) (by omega) (by omega) (by omega)).mono ?_; rintro e w1 ⟨rfl, hb1⟩; obtain ⟨u1, rfl⟩ := after hb1; clear hb1) | fail)
  refine region_free2 8 6 6 31 7 7 31 _ _ (by kernel_rfl) (by kernel_rfl) (by decide) (by kernel_rfl) alloc26 (by kernel_rfl) alloc26 ?_
  simp only [List.take_succ_cons, List.take_zero, List.drop_succ_cons, List.drop_zero]
  repeat (first
    | (refine wpLex_plain (by rfl) (by rfl) (by rfl) (fun K hK => ?_); go_big_quiet_op; refine hK _ ?_; clear hK K)
    | (refine wpLex_call (by rfl) (by rfl) (fun K hK => ?_); go_simp; apply Exists.intro; refine ⟨fun _ => ?_, hK _ ?_⟩; ((first | (go_at_call 84; with_reducible exact Calls.laterL (slope_2 _)) | (go_at_call 84; with_reducible exact Calls.laterL (slope_4 _)))); clear hK K)
    | (refine wpLex_new (by rfl) ?_; simp only [Act.put, List.setIfInBounds_toArray, List.set_cons_zero, List.set_cons_succ]))
  refine wpLex_nil ?_
  intro b b2 u hb hk hb2 hk2 hne
  simp only [Act.put, List.setIfInBounds_toArray, List.set_cons_zero, List.set_cons_succ]
  have hne2 : b2 ≠ b := Ne.symm hne
  have e0 : (on u).cell? ⟨b, 0, none⟩ = some (.int .i64 0) := held_cell hk 0
  have e1 : (on u).cell? ⟨b, 1, none⟩ = some (.int .i64 0) := held_cell hk 1
  have f0 : (on u).frozen? ⟨b, 0, none⟩ = false := held_free hk 0
  have f1 : (on u).frozen? ⟨b, 1, none⟩ = false := held_free hk 1
  have e2 : ∀ v v', (((on u).setCell ⟨b, 0, none⟩ v).setCell ⟨b, 1, none⟩ v').cell? ⟨b2, 0, none⟩ = some (.int .i64 0) := fun v v' => held_cell (held_set_other (held_set_other hk2 hne2 _ _) hne2 _ _) 0
  have e3 : ∀ v v', (((on u).setCell ⟨b, 0, none⟩ v).setCell ⟨b, 1, none⟩ v').cell? ⟨b2, 1, none⟩ = some (.int .i64 0) := fun v v' => held_cell (held_set_other (held_set_other hk2 hne2 _ _) hne2 _ _) 1
  have f2 : (on u).frozen? ⟨b2, 0, none⟩ = false := held_free hk2 0
  have f3 : (on u).frozen? ⟨b2, 1, none⟩ = false := held_free hk2 1
  obtain ⟨v, hv, hl, hl2⟩ := stored22 hb hk hb2 hk2 hne (.int .i64 (0)) (.int .i64 (1)) (.int .i64 (-1)) (.int .i64 (1))
  have E0 : (on v).cell? ⟨b, 0, none⟩ = some (.int .i64 (0)) := held_cell hl 0
  have E1 : (on v).cell? ⟨b, 1, none⟩ = some (.int .i64 (1)) := held_cell hl 1
  have E2 : (on v).cell? ⟨b2, 0, none⟩ = some (.int .i64 (-1)) := held_cell hl2 0
  have E3 : (on v).cell? ⟨b2, 1, none⟩ = some (.int .i64 (1)) := held_cell hl2 1
  clear hl hl2 hne hne2 hb hb2 hk hk2
  go_wp2_with fail
  clear e0 e1 e2 e3 f0 f1 f2 f3 hv

  refine region_tail 29 (by kernel_rfl) (by kernel_rfl) ?_
  simp only [List.take_succ_cons, List.take_zero, List.drop_succ_cons, List.drop_zero]
  repeat (first
    | (refine wpLex_plain (by rfl) (by rfl) (by rfl) (fun K hK => ?_); go_big_quiet_op; refine hK _ ?_; clear hK K)
    | (refine wpLex_call (by rfl) (by rfl) (fun K hK => ?_); go_simp; apply Exists.intro; refine ⟨fun _ => ?_, hK _ ?_⟩; ((first | (go_at_call 0; with_reducible exact Calls.laterL (trivial)))); clear hK K)
    | (refine wpLex_new (by rfl) ?_; simp only [Act.put, List.setIfInBounds_toArray, List.set_cons_zero, List.set_cons_succ]))
  refine wpLex_nil ?_
  intro u9
  go_wp2
  exact bodyPost_ret (v := .tuple #[pt ((2) * c + (-2) * d) ((2) * c + (0) * d), .int .i64 0]) (by simp [results, Tryd.results50, go_sem] <;> omega) rfl ⟨rfl, by repeat first | (with_reducible exact Below.refl _ _) | (with_reducible refine below_on ?_ _) | (with_reducible refine below_alloc ?_ _) | (with_reducible refine below_set ?_ (by simp; try omega) _) | (with_reducible refine below_drew ?_)⟩

set_option maxHeartbeats 1600000 in
theorem meet_31 (c d : Int) (w : World) (h1 : -4096 ≤ c) (h2 : c ≤ 4096) (h3 : -4096 ≤ d) (h4 : d ≤ 4096) : Calls Tryd.prog 50 #[ln 3 c, ln 1 d] w fun e w' => e = .returned (.tuple #[pt ((0) * c + (2) * d) ((2) * c + (-2) * d), .int .i64 0]) ∧ Below w.heap.size w w' := by
  go_enter Tryd.func50, Tryd.ntmps50
  go_wp2_with (first | (go_at_call 42; refine (check_ok _ _ _ (by omega) (by omega) (by omega) (by omega)).mono ?_; rintro e w1 ⟨rfl, hb1⟩; obtain ⟨u1, rfl⟩ := after hb1; clear hb1) | fail)
  refine region_free2 8 6 6 31 7 7 31 _ _ (by kernel_rfl) (by kernel_rfl) (by decide) (by kernel_rfl) alloc26 (by kernel_rfl) alloc26 ?_
  simp only [List.take_succ_cons, List.take_zero, List.drop_succ_cons, List.drop_zero]
  repeat (first
    | (refine wpLex_plain (by rfl) (by rfl) (by rfl) (fun K hK => ?_); go_big_quiet_op; refine hK _ ?_; clear hK K)
    | (refine wpLex_call (by rfl) (by rfl) (fun K hK => ?_); go_simp; apply Exists.intro; refine ⟨fun _ => ?_, hK _ ?_⟩; ((first | (go_at_call 84; with_reducible exact Calls.laterL (slope_3 _)) | (go_at_call 84; with_reducible exact Calls.laterL (slope_1 _)))); clear hK K)
    | (refine wpLex_new (by rfl) ?_; simp only [Act.put, List.setIfInBounds_toArray, List.set_cons_zero, List.set_cons_succ]))
  refine wpLex_nil ?_
  intro b b2 u hb hk hb2 hk2 hne
  simp only [Act.put, List.setIfInBounds_toArray, List.set_cons_zero, List.set_cons_succ]
  have hne2 : b2 ≠ b := Ne.symm hne
  have e0 : (on u).cell? ⟨b, 0, none⟩ = some (.int .i64 0) := held_cell hk 0
  have e1 : (on u).cell? ⟨b, 1, none⟩ = some (.int .i64 0) := held_cell hk 1
  have f0 : (on u).frozen? ⟨b, 0, none⟩ = false := held_free hk 0
  have f1 : (on u).frozen? ⟨b, 1, none⟩ = false := held_free hk 1
  have e2 : ∀ v v', (((on u).setCell ⟨b, 0, none⟩ v).setCell ⟨b, 1, none⟩ v').cell? ⟨b2, 0, none⟩ = some (.int .i64 0) := fun v v' => held_cell (held_set_other (held_set_other hk2 hne2 _ _) hne2 _ _) 0
  have e3 : ∀ v v', (((on u).setCell ⟨b, 0, none⟩ v).setCell ⟨b, 1, none⟩ v').cell? ⟨b2, 1, none⟩ = some (.int .i64 0) := fun v v' => held_cell (held_set_other (held_set_other hk2 hne2 _ _) hne2 _ _) 1
  have f2 : (on u).frozen? ⟨b2, 0, none⟩ = false := held_free hk2 0
  have f3 : (on u).frozen? ⟨b2, 1, none⟩ = false := held_free hk2 1
  obtain ⟨v, hv, hl, hl2⟩ := stored22 hb hk hb2 hk2 hne (.int .i64 (1)) (.int .i64 (1)) (.int .i64 (1)) (.int .i64 (0))
  have E0 : (on v).cell? ⟨b, 0, none⟩ = some (.int .i64 (1)) := held_cell hl 0
  have E1 : (on v).cell? ⟨b, 1, none⟩ = some (.int .i64 (1)) := held_cell hl 1
  have E2 : (on v).cell? ⟨b2, 0, none⟩ = some (.int .i64 (1)) := held_cell hl2 0
  have E3 : (on v).cell? ⟨b2, 1, none⟩ = some (.int .i64 (0)) := held_cell hl2 1
  clear hl hl2 hne hne2 hb hb2 hk hk2
  go_wp2_with fail
  clear e0 e1 e2 e3 f0 f1 f2 f3 hv

  refine region_tail 29 (by kernel_rfl) (by kernel_rfl) ?_
  simp only [List.take_succ_cons, List.take_zero, List.drop_succ_cons, List.drop_zero]
  repeat (first
    | (refine wpLex_plain (by rfl) (by rfl) (by rfl) (fun K hK => ?_); go_big_quiet_op; refine hK _ ?_; clear hK K)
    | (refine wpLex_call (by rfl) (by rfl) (fun K hK => ?_); go_simp; apply Exists.intro; refine ⟨fun _ => ?_, hK _ ?_⟩; ((first | (go_at_call 0; with_reducible exact Calls.laterL (trivial)))); clear hK K)
    | (refine wpLex_new (by rfl) ?_; simp only [Act.put, List.setIfInBounds_toArray, List.set_cons_zero, List.set_cons_succ]))
  refine wpLex_nil ?_
  intro u9
  go_wp2
  exact bodyPost_ret (v := .tuple #[pt ((0) * c + (2) * d) ((2) * c + (-2) * d), .int .i64 0]) (by simp [results, Tryd.results50, go_sem] <;> omega) rfl ⟨rfl, by repeat first | (with_reducible exact Below.refl _ _) | (with_reducible refine below_on ?_ _) | (with_reducible refine below_alloc ?_ _) | (with_reducible refine below_set ?_ (by simp; try omega) _) | (with_reducible refine below_drew ?_)⟩

set_option maxHeartbeats 1600000 in
theorem meet_32 (c d : Int) (w : World) (h1 : -4096 ≤ c) (h2 : c ≤ 4096) (h3 : -4096 ≤ d) (h4 : d ≤ 4096) : Calls Tryd.prog 50 #[ln 3 c, ln 2 d] w fun e w' => e = .returned (.tuple #[pt ((2) * c + (-2) * d) ((0) * c + (2) * d), .int .i64 0]) ∧ Below w.heap.size w w' := by
  go_enter Tryd.func50, Tryd.ntmps50
  go_wp2_with (first | (go_at_call 42; refine (check_ok _ _ _ (by omega) (by omega) (by omega) (by omega)).mono ?_; rintro e w1 ⟨rfl, hb1⟩; obtain ⟨u1, rfl⟩ := after hb1; clear hb1) | fail)
  refine region_free2 8 6 6 31 7 7 31 _ _ (by kernel_rfl) (by kernel_rfl) (by decide) (by kernel_rfl) alloc26 (by kernel_rfl) alloc26 ?_
  simp only [List.take_succ_cons, List.take_zero, List.drop_succ_cons, List.drop_zero]
  repeat (first
    | (refine wpLex_plain (by rfl) (by rfl) (by rfl) (fun K hK => ?_); go_big_quiet_op; refine hK _ ?_; clear hK K)
    | (refine wpLex_call (by rfl) (by rfl) (fun K hK => ?_); go_simp; apply Exists.intro; refine ⟨fun _ => ?_, hK _ ?_⟩; ((first | (go_at_call 84; with_reducible exact Calls.laterL (slope_3 _)) | (go_at_call 84; with_reducible exact Calls.laterL (slope_2 _)))); clear hK K)
    | (refine wpLex_new (by rfl) ?_; simp only [Act.put, List.setIfInBounds_toArray, List.set_cons_zero, List.set_cons_succ]))
  refine wpLex_nil ?_
  intro b b2 u hb hk hb2 hk2 hne
  simp only [Act.put, List.setIfInBounds_toArray, List.set_cons_zero, List.set_cons_succ]
  have hne2 : b2 ≠ b := Ne.symm hne
  have e0 : (on u).cell? ⟨b, 0, none⟩ = some (.int .i64 0) := held_cell hk 0
  have e1 : (on u).cell? ⟨b, 1, none⟩ = some (.int .i64 0) := held_cell hk 1
  have f0 : (on u).frozen? ⟨b, 0, none⟩ = false := held_free hk 0
  have f1 : (on u).frozen? ⟨b, 1, none⟩ = false := held_free hk 1
  have e2 : ∀ v v', (((on u).setCell ⟨b, 0, none⟩ v).setCell ⟨b, 1, none⟩ v').cell? ⟨b2, 0, none⟩ = some (.int .i64 0) := fun v v' => held_cell (held_set_other (held_set_other hk2 hne2 _ _) hne2 _ _) 0
  have e3 : ∀ v v', (((on u).setCell ⟨b, 0, none⟩ v).setCell ⟨b, 1, none⟩ v').cell? ⟨b2, 1, none⟩ = some (.int .i64 0) := fun v v' => held_cell (held_set_other (held_set_other hk2 hne2 _ _) hne2 _ _) 1
  have f2 : (on u).frozen? ⟨b2, 0, none⟩ = false := held_free hk2 0
  have f3 : (on u).frozen? ⟨b2, 1, none⟩ = false := held_free hk2 1
  obtain ⟨v, hv, hl, hl2⟩ := stored22 hb hk hb2 hk2 hne (.int .i64 (1)) (.int .i64 (1)) (.int .i64 (0)) (.int .i64 (1))
  have E0 : (on v).cell? ⟨b, 0, none⟩ = some (.int .i64 (1)) := held_cell hl 0
  have E1 : (on v).cell? ⟨b, 1, none⟩ = some (.int .i64 (1)) := held_cell hl 1
  have E2 : (on v).cell? ⟨b2, 0, none⟩ = some (.int .i64 (0)) := held_cell hl2 0
  have E3 : (on v).cell? ⟨b2, 1, none⟩ = some (.int .i64 (1)) := held_cell hl2 1
  clear hl hl2 hne hne2 hb hb2 hk hk2
  go_wp2_with fail
  clear e0 e1 e2 e3 f0 f1 f2 f3 hv

  refine region_tail 29 (by kernel_rfl) (by kernel_rfl) ?_
  simp only [List.take_succ_cons, List.take_zero, List.drop_succ_cons, List.drop_zero]
  repeat (first
    | (refine wpLex_plain (by rfl) (by rfl) (by rfl) (fun K hK => ?_); go_big_quiet_op; refine hK _ ?_; clear hK K)
    | (refine wpLex_call (by rfl) (by rfl) (fun K hK => ?_); go_simp; apply Exists.intro; refine ⟨fun _ => ?_, hK _ ?_⟩; ((first | (go_at_call 0; with_reducible exact Calls.laterL (trivial)))); clear hK K)
    | (refine wpLex_new (by rfl) ?_; simp only [Act.put, List.setIfInBounds_toArray, List.set_cons_zero, List.set_cons_succ]))
  refine wpLex_nil ?_
  intro u9
  go_wp2
  exact bodyPost_ret (v := .tuple #[pt ((2) * c + (-2) * d) ((0) * c + (2) * d), .int .i64 0]) (by simp [results, Tryd.results50, go_sem] <;> omega) rfl ⟨rfl, by repeat first | (with_reducible exact Below.refl _ _) | (with_reducible refine below_on ?_ _) | (with_reducible refine below_alloc ?_ _) | (with_reducible refine below_set ?_ (by simp; try omega) _) | (with_reducible refine below_drew ?_)⟩

set_option maxHeartbeats 1600000 in
theorem meet_34 (c d : Int) (w : World) (h1 : -4096 ≤ c) (h2 : c ≤ 4096) (h3 : -4096 ≤ d) (h4 : d ≤ 4096) : Calls Tryd.prog 50 #[ln 3 c, ln 4 d] w fun e w' => e = .returned (.tuple #[pt ((1) * c + (-1) * d) ((1) * c + (1) * d), .int .i64 0]) ∧ Below w.heap.size w w' := by
  go_enter Tryd.func50, Tryd.ntmps50
  go_wp2_with (first | (go_at_call 42; refine (check_ok _ _ _ (by omega) (by omega) (by omega) (by omega)).mono ?_; rintro e w1 ⟨rfl, hb1⟩; obtain ⟨u1, rfl⟩ := after hb1; clear hb1) | fail)
  refine region_free2 8 6 6 31 7 7 31 _ _ (by kernel_rfl) (by kernel_rfl) (by decide) (by kernel_rfl) alloc26 (by kernel_rfl) alloc26 ?_
  simp only [List.take_succ_cons, List.take_zero, List.drop_succ_cons, List.drop_zero]
  repeat (first
    | (refine wpLex_plain (by rfl) (by rfl) (by rfl) (fun K hK => ?_); go_big_quiet_op; refine hK _ ?_; clear hK K)
    | (refine wpLex_call (by rfl) (by rfl) (fun K hK => ?_); go_simp; apply Exists.intro; refine ⟨fun _ => ?_, hK _ ?_⟩; ((first | (go_at_call 84; with_reducible exact Calls.laterL (slope_3 _)) | (go_at_call 84; with_reducible exact Calls.laterL (slope_4 _)))); clear hK K)
    | (refine wpLex_new (by rfl) ?_; simp only [Act.put, List.setIfInBounds_toArray, List.set_cons_zero, List.set_cons_succ]))
  refine wpLex_nil ?_
  intro b b2 u hb hk hb2 hk2 hne
  simp only [Act.put, List.setIfInBounds_toArray, List.set_cons_zero, List.set_cons_succ]
  have hne2 : b2 ≠ b := Ne.symm hne
  have e0 : (on u).cell? ⟨b, 0, none⟩ = some (.int .i64 0) := held_cell hk 0
  have e1 : (on u).cell? ⟨b, 1, none⟩ = some (.int .i64 0) := held_cell hk 1
  have f0 : (on u).frozen? ⟨b, 0, none⟩ = false := held_free hk 0
  have f1 : (on u).frozen? ⟨b, 1, none⟩ = false := held_free hk 1
  have e2 : ∀ v v', (((on u).setCell ⟨b, 0, none⟩ v).setCell ⟨b, 1, none⟩ v').cell? ⟨b2, 0, none⟩ = some (.int .i64 0) := fun v v' => held_cell (held_set_other (held_set_other hk2 hne2 _ _) hne2 _ _) 0
  have e3 : ∀ v v', (((on u).setCell ⟨b, 0, none⟩ v).setCell ⟨b, 1, none⟩ v').cell? ⟨b2, 1, none⟩ = some (.int .i64 0) := fun v v' => held_cell (held_set_other (held_set_other hk2 hne2 _ _) hne2 _ _) 1
  have f2 : (on u).frozen? ⟨b2, 0, none⟩ = false := held_free hk2 0
  have f3 : (on u).frozen? ⟨b2, 1, none⟩ = false := held_free hk2 1
  obtain ⟨v, hv, hl, hl2⟩ := stored22 hb hk hb2 hk2 hne (.int .i64 (1)) (.int .i64 (1)) (.int .i64 (-1)) (.int .i64 (1))
  have E0 : (on v).cell? ⟨b, 0, none⟩ = some (.int .i64 (1)) := held_cell hl 0
  have E1 : (on v).cell? ⟨b, 1, none⟩ = some (.int .i64 (1)) := held_cell hl 1
  have E2 : (on v).cell? ⟨b2, 0, none⟩ = some (.int .i64 (-1)) := held_cell hl2 0
  have E3 : (on v).cell? ⟨b2, 1, none⟩ = some (.int .i64 (1)) := held_cell hl2 1
  clear hl hl2 hne hne2 hb hb2 hk hk2
  go_wp2_with fail
  clear e0 e1 e2 e3 f0 f1 f2 f3 hv

  refine region_tail 29 (by kernel_rfl) (by kernel_rfl) ?_
  simp only [List.take_succ_cons, List.take_zero, List.drop_succ_cons, List.drop_zero]
  repeat (first
    | (refine wpLex_plain (by rfl) (by rfl) (by rfl) (fun K hK => ?_); go_big_quiet_op; refine hK _ ?_; clear hK K)
    | (refine wpLex_call (by rfl) (by rfl) (fun K hK => ?_); go_simp; apply Exists.intro; refine ⟨fun _ => ?_, hK _ ?_⟩; ((first | (go_at_call 0; with_reducible exact Calls.laterL (trivial)))); clear hK K)
    | (refine wpLex_new (by rfl) ?_; simp only [Act.put, List.setIfInBounds_toArray, List.set_cons_zero, List.set_cons_succ]))
  refine wpLex_nil ?_
  intro u9
  go_wp2
  exact bodyPost_ret (v := .tuple #[pt ((1) * c + (-1) * d) ((1) * c + (1) * d), .int .i64 0]) (by simp [results, Tryd.results50, go_sem] <;> omega) rfl ⟨rfl, by repeat first | (with_reducible exact Below.refl _ _) | (with_reducible refine below_on ?_ _) | (with_reducible refine below_alloc ?_ _) | (with_reducible refine below_set ?_ (by simp; try omega) _) | (with_reducible refine below_drew ?_)⟩

set_option maxHeartbeats 1600000 in
theorem meet_41 (c d : Int) (w : World) (h1 : -4096 ≤ c) (h2 : c ≤ 4096) (h3 : -4096 ≤ d) (h4 : d ≤ 4096) : Calls Tryd.prog 50 #[ln 4 c, ln 1 d] w fun e w' => e = .returned (.tuple #[pt ((0) * c + (2) * d) ((2) * c + (2) * d), .int .i64 0]) ∧ Below w.heap.size w w' := by
  go_enter Tryd.func50, Tryd.ntmps50
  go_wp2_with (first | (go_at_call 42; refine (check_ok _ _ _ (by omega) (by omega) (by omega) (by omega)).mono ?_; rintro e w1 ⟨rfl, hb1⟩; obtain ⟨u1, rfl⟩ := after hb1; clear hb1) | fail)
  refine region_free2 8 6 6 31 7 7 31 _ _ (by kernel_rfl) (by kernel_rfl) (by decide) (by kernel_rfl) alloc26 (by kernel_rfl) alloc26 ?_
  simp only [List.take_succ_cons, List.take_zero, List.drop_succ_cons, List.drop_zero]
  repeat (first
    | (refine wpLex_plain (by rfl) (by rfl) (by rfl) (fun K hK => ?_); go_big_quiet_op; refine hK _ ?_; clear hK K)
    | (refine wpLex_call (by rfl) (by rfl) (fun K hK => ?_); go_simp; apply Exists.intro; refine ⟨fun _ => ?_, hK _ ?_⟩; ((first | (go_at_call 84; with_reducible exact Calls.laterL (slope_4 _)) | (go_at_call 84; with_reducible exact Calls.laterL (slope_1 _)))); clear hK K)
    | (refine wpLex_new (by rfl) ?_; simp only [Act.put, List.setIfInBounds_toArray, List.set_cons_zero, List.set_cons_succ]))
  refine wpLex_nil ?_
  intro b b2 u hb hk hb2 hk2 hne
  simp only [Act.put, List.setIfInBounds_toArray, List.set_cons_zero, List.set_cons_succ]
  have hne2 : b2 ≠ b := Ne.symm hne
  have e0 : (on u).cell? ⟨b, 0, none⟩ = some (.int .i64 0) := held_cell hk 0
  have e1 : (on u).cell? ⟨b, 1, none⟩ = some (.int .i64 0) := held_cell hk 1
  have f0 : (on u).frozen? ⟨b, 0, none⟩ = false := held_free hk 0
  have f1 : (on u).frozen? ⟨b, 1, none⟩ = false := held_free hk 1
  have e2 : ∀ v v', (((on u).setCell ⟨b, 0, none⟩ v).setCell ⟨b, 1, none⟩ v').cell? ⟨b2, 0, none⟩ = some (.int .i64 0) := fun v v' => held_cell (held_set_other (held_set_other hk2 hne2 _ _) hne2 _ _) 0
  have e3 : ∀ v v', (((on u).setCell ⟨b, 0, none⟩ v).setCell ⟨b, 1, none⟩ v').cell? ⟨b2, 1, none⟩ = some (.int .i64 0) := fun v v' => held_cell (held_set_other (held_set_other hk2 hne2 _ _) hne2 _ _) 1
  have f2 : (on u).frozen? ⟨b2, 0, none⟩ = false := held_free hk2 0
  have f3 : (on u).frozen? ⟨b2, 1, none⟩ = false := held_free hk2 1
  obtain ⟨v, hv, hl, hl2⟩ := stored22 hb hk hb2 hk2 hne (.int .i64 (-1)) (.int .i64 (1)) (.int .i64 (1)) (.int .i64 (0))
  have E0 : (on v).cell? ⟨b, 0, none⟩ = some (.int .i64 (-1)) := held_cell hl 0
  have E1 : (on v).cell? ⟨b, 1, none⟩ = some (.int .i64 (1)) := held_cell hl 1
  have E2 : (on v).cell? ⟨b2, 0, none⟩ = some (.int .i64 (1)) := held_cell hl2 0
  have E3 : (on v).cell? ⟨b2, 1, none⟩ = some (.int .i64 (0)) := held_cell hl2 1
  clear hl hl2 hne hne2 hb hb2 hk hk2
  go_wp2_with fail
  clear e0 e1 e2 e3 f0 f1 f2 f3 hv

  refine region_tail 29 (by kernel_rfl) (by kernel_rfl) ?_
  simp only [List.take_succ_cons, List.take_zero, List.drop_succ_cons, List.drop_zero]
  repeat (first
    | (refine wpLex_plain (by rfl) (by rfl) (by rfl) (fun K hK => ?_); go_big_quiet_op; refine hK _ ?_; clear hK K)
    | (refine wpLex_call (by rfl) (by rfl) (fun K hK => ?_); go_simp; apply Exists.intro; refine ⟨fun _ => ?_, hK _ ?_⟩; ((first | (go_at_call 0; with_reducible exact Calls.laterL (trivial)))); clear hK K)
    | (refine wpLex_new (by rfl) ?_; simp only [Act.put, List.setIfInBounds_toArray, List.set_cons_zero, List.set_cons_succ]))
  refine wpLex_nil ?_
  intro u9
  go_wp2
  exact bodyPost_ret (v := .tuple #[pt ((0) * c + (2) * d) ((2) * c + (2) * d), .int .i64 0]) (by simp [results, Tryd.results50, go_sem] <;> omega) rfl ⟨rfl, by repeat first | (with_reducible exact Below.refl _ _) | (with_reducible refine below_on ?_ _) | (with_reducible refine below_alloc ?_ _) | (with_reducible refine below_set ?_ (by simp; try omega) _) | (with_reducible refine below_drew ?_)⟩

set_option maxHeartbeats 1600000 in
theorem meet_42 (c d : Int) (w : World) (h1 : -4096 ≤ c) (h2 : c ≤ 4096) (h3 : -4096 ≤ d) (h4 : d ≤ 4096) : Calls Tryd.prog 50 #[ln 4 c, ln 2 d] w fun e w' => e = .returned (.tuple #[pt ((-2) * c + (2) * d) ((0) * c + (2) * d), .int .i64 0]) ∧ Below w.heap.size w w' := by
  go_enter Tryd.func50, Tryd.ntmps50
  go_wp2_with (first | (go_at_call 42; refine (check_ok _ _ _ (by omega) (by omega) (by omega) (by omega)).mono ?_; rintro e w1 ⟨rfl, hb1⟩; obtain ⟨u1, rfl⟩ := after hb1; clear hb1) | fail)
  refine region_free2 8 6 6 31 7 7 31 _ _ (by kernel_rfl) (by kernel_rfl) (by decide) (by kernel_rfl) alloc26 (by kernel_rfl) alloc26 ?_
  simp only [List.take_succ_cons, List.take_zero, List.drop_succ_cons, List.drop_zero]
  repeat (first
    | (refine wpLex_plain (by rfl) (by rfl) (by rfl) (fun K hK => ?_); go_big_quiet_op; refine hK _ ?_; clear hK K)
    | (refine wpLex_call (by rfl) (by rfl) (fun K hK => ?_); go_simp; apply Exists.intro; refine ⟨fun _ => ?_, hK _ ?_⟩; ((first | (go_at_call 84; with_reducible exact Calls.laterL (slope_4 _)) | (go_at_call 84; with_reducible exact Calls.laterL (slope_2 _)))); clear hK K)
    | (refine wpLex_new (by rfl) ?_; simp only [Act.put, List.setIfInBounds_toArray, List.set_cons_zero, List.set_cons_succ]))
  refine wpLex_nil ?_
  intro b b2 u hb hk hb2 hk2 hne
  simp only [Act.put, List.setIfInBounds_toArray, List.set_cons_zero, List.set_cons_succ]
  have hne2 : b2 ≠ b := Ne.symm hne
  have e0 : (on u).cell? ⟨b, 0, none⟩ = some (.int .i64 0) := held_cell hk 0
  have e1 : (on u).cell? ⟨b, 1, none⟩ = some (.int .i64 0) := held_cell hk 1
  have f0 : (on u).frozen? ⟨b, 0, none⟩ = false := held_free hk 0
  have f1 : (on u).frozen? ⟨b, 1, none⟩ = false := held_free hk 1
  have e2 : ∀ v v', (((on u).setCell ⟨b, 0, none⟩ v).setCell ⟨b, 1, none⟩ v').cell? ⟨b2, 0, none⟩ = some (.int .i64 0) := fun v v' => held_cell (held_set_other (held_set_other hk2 hne2 _ _) hne2 _ _) 0
  have e3 : ∀ v v', (((on u).setCell ⟨b, 0, none⟩ v).setCell ⟨b, 1, none⟩ v').cell? ⟨b2, 1, none⟩ = some (.int .i64 0) := fun v v' => held_cell (held_set_other (held_set_other hk2 hne2 _ _) hne2 _ _) 1
  have f2 : (on u).frozen? ⟨b2, 0, none⟩ = false := held_free hk2 0
  have f3 : (on u).frozen? ⟨b2, 1, none⟩ = false := held_free hk2 1
  obtain ⟨v, hv, hl, hl2⟩ := stored22 hb hk hb2 hk2 hne (.int .i64 (-1)) (.int .i64 (1)) (.int .i64 (0)) (.int .i64 (1))
  have E0 : (on v).cell? ⟨b, 0, none⟩ = some (.int .i64 (-1)) := held_cell hl 0
  have E1 : (on v).cell? ⟨b, 1, none⟩ = some (.int .i64 (1)) := held_cell hl 1
  have E2 : (on v).cell? ⟨b2, 0, none⟩ = some (.int .i64 (0)) := held_cell hl2 0
  have E3 : (on v).cell? ⟨b2, 1, none⟩ = some (.int .i64 (1)) := held_cell hl2 1
  clear hl hl2 hne hne2 hb hb2 hk hk2
  go_wp2_with fail
  clear e0 e1 e2 e3 f0 f1 f2 f3 hv

  refine region_tail 29 (by kernel_rfl) (by kernel_rfl) ?_
  simp only [List.take_succ_cons, List.take_zero, List.drop_succ_cons, List.drop_zero]
  repeat (first
    | (refine wpLex_plain (by rfl) (by rfl) (by rfl) (fun K hK => ?_); go_big_quiet_op; refine hK _ ?_; clear hK K)
    | (refine wpLex_call (by rfl) (by rfl) (fun K hK => ?_); go_simp; apply Exists.intro; refine ⟨fun _ => ?_, hK _ ?_⟩; ((first | (go_at_call 0; with_reducible exact Calls.laterL (trivial)))); clear hK K)
    | (refine wpLex_new (by rfl) ?_; simp only [Act.put, List.setIfInBounds_toArray, List.set_cons_zero, List.set_cons_succ]))
  refine wpLex_nil ?_
  intro u9
  go_wp2
  exact bodyPost_ret (v := .tuple #[pt ((-2) * c + (2) * d) ((0) * c + (2) * d), .int .i64 0]) (by simp [results, Tryd.results50, go_sem] <;> omega) rfl ⟨rfl, by repeat first | (with_reducible exact Below.refl _ _) | (with_reducible refine below_on ?_ _) | (with_reducible refine below_alloc ?_ _) | (with_reducible refine below_set ?_ (by simp; try omega) _) | (with_reducible refine below_drew ?_)⟩

set_option maxHeartbeats 1600000 in
theorem meet_43 (c d : Int) (w : World) (h1 : -4096 ≤ c) (h2 : c ≤ 4096) (h3 : -4096 ≤ d) (h4 : d ≤ 4096) : Calls Tryd.prog 50 #[ln 4 c, ln 3 d] w fun e w' => e = .returned (.tuple #[pt ((-1) * c + (1) * d) ((1) * c + (1) * d), .int .i64 0]) ∧ Below w.heap.size w w' := by
  go_enter Tryd.func50, Tryd.ntmps50
  go_wp2_with (first | (go_at_call 42; refine (check_ok _ _ _ (by omega) (by omega) (by omega) (by omega)).mono ?_; rintro e w1 ⟨rfl, hb1⟩; obtain ⟨u1, rfl⟩ := after hb1; clear hb1) | fail)
  refine region_free2 8 6 6 31 7 7 31 _ _ (by kernel_rfl) (by kernel_rfl) (by decide) (by kernel_rfl) alloc26 (by kernel_rfl) alloc26 ?_
  simp only [List.take_succ_cons, List.take_zero, List.drop_succ_cons, List.drop_zero]
  repeat (first
    | (refine wpLex_plain (by rfl) (by rfl) (by rfl) (fun K hK => ?_); go_big_quiet_op; refine hK _ ?_; clear hK K)
    | (refine wpLex_call (by rfl) (by rfl) (fun K hK => ?_); go_simp; apply Exists.intro; refine ⟨fun _ => ?_, hK _ ?_⟩; ((first | (go_at_call 84; with_reducible exact Calls.laterL (slope_4 _)) | (go_at_call 84; with_reducible exact Calls.laterL (slope_3 _)))); clear hK K)
    | (refine wpLex_new (by rfl) ?_; simp only [Act.put, List.setIfInBounds_toArray, List.set_cons_zero, List.set_cons_succ]))
  refine wpLex_nil ?_
  intro b b2 u hb hk hb2 hk2 hne
  simp only [Act.put, List.setIfInBounds_toArray, List.set_cons_zero, List.set_cons_succ]
  have hne2 : b2 ≠ b := Ne.symm hne
  have e0 : (on u).cell? ⟨b, 0, none⟩ = some (.int .i64 0) := held_cell hk 0
  have e1 : (on u).cell? ⟨b, 1, none⟩ = some (.int .i64 0) := held_cell hk 1
  have f0 : (on u).frozen? ⟨b, 0, none⟩ = false := held_free hk 0
  have f1 : (on u).frozen? ⟨b, 1, none⟩ = false := held_free hk 1
  have e2 : ∀ v v', (((on u).setCell ⟨b, 0, none⟩ v).setCell ⟨b, 1, none⟩ v').cell? ⟨b2, 0, none⟩ = some (.int .i64 0) := fun v v' => held_cell (held_set_other (held_set_other hk2 hne2 _ _) hne2 _ _) 0
  have e3 : ∀ v v', (((on u).setCell ⟨b, 0, none⟩ v).setCell ⟨b, 1, none⟩ v').cell? ⟨b2, 1, none⟩ = some (.int .i64 0) := fun v v' => held_cell (held_set_other (held_set_other hk2 hne2 _ _) hne2 _ _) 1
  have f2 : (on u).frozen? ⟨b2, 0, none⟩ = false := held_free hk2 0
  have f3 : (on u).frozen? ⟨b2, 1, none⟩ = false := held_free hk2 1
  obtain ⟨v, hv, hl, hl2⟩ := stored22 hb hk hb2 hk2 hne (.int .i64 (-1)) (.int .i64 (1)) (.int .i64 (1)) (.int .i64 (1))
  have E0 : (on v).cell? ⟨b, 0, none⟩ = some (.int .i64 (-1)) := held_cell hl 0
  have E1 : (on v).cell? ⟨b, 1, none⟩ = some (.int .i64 (1)) := held_cell hl 1
  have E2 : (on v).cell? ⟨b2, 0, none⟩ = some (.int .i64 (1)) := held_cell hl2 0
  have E3 : (on v).cell? ⟨b2, 1, none⟩ = some (.int .i64 (1)) := held_cell hl2 1
  clear hl hl2 hne hne2 hb hb2 hk hk2
  go_wp2_with fail
  clear e0 e1 e2 e3 f0 f1 f2 f3 hv

  refine region_tail 29 (by kernel_rfl) (by kernel_rfl) ?_
  simp only [List.take_succ_cons, List.take_zero, List.drop_succ_cons, List.drop_zero]
  repeat (first
    | (refine wpLex_plain (by rfl) (by rfl) (by rfl) (fun K hK => ?_); go_big_quiet_op; refine hK _ ?_; clear hK K)
    | (refine wpLex_call (by rfl) (by rfl) (fun K hK => ?_); go_simp; apply Exists.intro; refine ⟨fun _ => ?_, hK _ ?_⟩; ((first | (go_at_call 0; with_reducible exact Calls.laterL (trivial)))); clear hK K)
    | (refine wpLex_new (by rfl) ?_; simp only [Act.put, List.setIfInBounds_toArray, List.set_cons_zero, List.set_cons_succ]))
  refine wpLex_nil ?_
  intro u9
  go_wp2
  exact bodyPost_ret (v := .tuple #[pt ((-1) * c + (1) * d) ((1) * c + (1) * d), .int .i64 0]) (by simp [results, Tryd.results50, go_sem] <;> omega) rfl ⟨rfl, by repeat first | (with_reducible exact Below.refl _ _) | (with_reducible refine below_on ?_ _) | (with_reducible refine below_alloc ?_ _) | (with_reducible refine below_set ?_ (by simp; try omega) _) | (with_reducible refine below_drew ?_)⟩

/-- What Meet answers for two lines of different kinds. -/
def MeetPost (k c l d : Int) (w : World) (e : Ending) (w' : World) : Prop := ∃ x y : Int, e = .returned (.tuple #[pt x y, .int .i64 0]) ∧ val k x y = 2 * c ∧ val l x y = 2 * d ∧ -16384 ≤ x ∧ x ≤ 16384 ∧ -16384 ≤ y ∧ y ≤ 16384 ∧ Below w.heap.size w w'
theorem meet_any (k c l d : Int) (w : World) (a1 : 1 ≤ k) (a2 : k ≤ 4) (b1 : 1 ≤ l) (b2 : l ≤ 4) (hkl : k ≠ l) (h1 : -4096 ≤ c) (h2 : c ≤ 4096) (h3 : -4096 ≤ d) (h4 : d ≤ 4096) : Calls Tryd.prog 50 #[ln k c, ln l d] w (MeetPost k c l d w) := by
  obtain rfl | rfl | rfl | rfl : k = 1 ∨ k = 2 ∨ k = 3 ∨ k = 4 := by omega
  · obtain rfl | rfl | rfl : l = 2 ∨ l = 3 ∨ l = 4 := by omega
    · exact (meet_12 c d w h1 h2 h3 h4).mono fun e w' ⟨he, hb⟩ => ⟨_, _, he, by rw [val1]; omega, by rw [val2]; omega, by omega, by omega, by omega, by omega, hb⟩
    · exact (meet_13 c d w h1 h2 h3 h4).mono fun e w' ⟨he, hb⟩ => ⟨_, _, he, by rw [val1]; omega, by rw [val3]; omega, by omega, by omega, by omega, by omega, hb⟩
    · exact (meet_14 c d w h1 h2 h3 h4).mono fun e w' ⟨he, hb⟩ => ⟨_, _, he, by rw [val1]; omega, by rw [val4]; omega, by omega, by omega, by omega, by omega, hb⟩
  · obtain rfl | rfl | rfl : l = 1 ∨ l = 3 ∨ l = 4 := by omega
    · exact (meet_21 c d w h1 h2 h3 h4).mono fun e w' ⟨he, hb⟩ => ⟨_, _, he, by rw [val2]; omega, by rw [val1]; omega, by omega, by omega, by omega, by omega, hb⟩
    · exact (meet_23 c d w h1 h2 h3 h4).mono fun e w' ⟨he, hb⟩ => ⟨_, _, he, by rw [val2]; omega, by rw [val3]; omega, by omega, by omega, by omega, by omega, hb⟩
    · exact (meet_24 c d w h1 h2 h3 h4).mono fun e w' ⟨he, hb⟩ => ⟨_, _, he, by rw [val2]; omega, by rw [val4]; omega, by omega, by omega, by omega, by omega, hb⟩
  · obtain rfl | rfl | rfl : l = 1 ∨ l = 2 ∨ l = 4 := by omega
    · exact (meet_31 c d w h1 h2 h3 h4).mono fun e w' ⟨he, hb⟩ => ⟨_, _, he, by rw [val3]; omega, by rw [val1]; omega, by omega, by omega, by omega, by omega, hb⟩
    · exact (meet_32 c d w h1 h2 h3 h4).mono fun e w' ⟨he, hb⟩ => ⟨_, _, he, by rw [val3]; omega, by rw [val2]; omega, by omega, by omega, by omega, by omega, hb⟩
    · exact (meet_34 c d w h1 h2 h3 h4).mono fun e w' ⟨he, hb⟩ => ⟨_, _, he, by rw [val3]; omega, by rw [val4]; omega, by omega, by omega, by omega, by omega, hb⟩
  · obtain rfl | rfl | rfl : l = 1 ∨ l = 2 ∨ l = 3 := by omega
    · exact (meet_41 c d w h1 h2 h3 h4).mono fun e w' ⟨he, hb⟩ => ⟨_, _, he, by rw [val4]; omega, by rw [val1]; omega, by omega, by omega, by omega, by omega, hb⟩
    · exact (meet_42 c d w h1 h2 h3 h4).mono fun e w' ⟨he, hb⟩ => ⟨_, _, he, by rw [val4]; omega, by rw [val2]; omega, by omega, by omega, by omega, by omega, hb⟩
    · exact (meet_43 c d w h1 h2 h3 h4).mono fun e w' ⟨he, hb⟩ => ⟨_, _, he, by rw [val4]; omega, by rw [val3]; omega, by omega, by omega, by omega, by omega, hb⟩

set_option maxHeartbeats 400000 in
theorem meet_same (k c d : Int) (w : World) (h1 : 1 ≤ k) (h2 : k ≤ 4) (h3 : -4096 ≤ c) (h4 : c ≤ 4096) (h5 : -4096 ≤ d) (h6 : d ≤ 4096) : Calls Tryd.prog 50 #[ln k c, ln k d] w fun e w' => e = .returned (.tuple #[pt 0 0, .int .i64 7]) ∧ Below w.heap.size w w' := by
  go_enter Tryd.func50, Tryd.ntmps50
  go_wp2_with (first | (go_at_call 42; refine (check_ok _ _ _ (by omega) (by omega) (by omega) (by omega)).mono ?_; rintro e w1 ⟨rfl, hb1⟩; obtain ⟨u1, rfl⟩ := after hb1; clear hb1) | fail)
  exact bodyPost_ret (v := .tuple #[pt 0 0, .int .i64 7]) (by simp [results, Tryd.results50, go_sem]) rfl ⟨rfl, by repeat first | (with_reducible exact Below.refl _ _) | (with_reducible refine below_on ?_ _) | (with_reducible refine below_alloc ?_ _) | (with_reducible refine below_set ?_ (by simp; try omega) _) | (with_reducible refine below_drew ?_)⟩
set_option maxHeartbeats 400000 in
theorem meet_bad1 (k c l d : Int) (w : World) (h : k < 1 ∨ 4 < k ∨ c < -4096 ∨ 4096 < c) : Calls Tryd.prog 50 #[ln k c, ln l d] w fun e w' => e = .returned (.tuple #[pt 0 0, .int .i64 1]) ∧ Below w.heap.size w w' := by
  have H : Hid (k < 1 ∨ 4 < k ∨ c < -4096 ∨ 4096 < c) := h
  clear h
  go_enter Tryd.func50, Tryd.ntmps50
  go_wp2_with (first | (go_at_call 42; refine (check_bad _ _ _ H.out).mono ?_; rintro e w1 ⟨rfl, hb1⟩; obtain ⟨u1, rfl⟩ := after hb1; clear hb1) | fail)
  exact bodyPost_ret (v := .tuple #[pt 0 0, .int .i64 1]) (by simp [results, Tryd.results50, go_sem]) rfl ⟨rfl, by repeat first | (with_reducible exact Below.refl _ _) | (with_reducible refine below_on ?_ _) | (with_reducible refine below_alloc ?_ _) | (with_reducible refine below_set ?_ (by simp; try omega) _) | (with_reducible refine below_drew ?_)⟩
set_option maxHeartbeats 400000 in
theorem meet_bad2 (k c l d : Int) (w : World) (h1 : 1 ≤ k) (h2 : k ≤ 4) (h3 : -4096 ≤ c) (h4 : c ≤ 4096) (h : l < 1 ∨ 4 < l ∨ d < -4096 ∨ 4096 < d) : Calls Tryd.prog 50 #[ln k c, ln l d] w fun e w' => e = .returned (.tuple #[pt 0 0, .int .i64 1]) ∧ Below w.heap.size w w' := by
  have H : Hid (l < 1 ∨ 4 < l ∨ d < -4096 ∨ 4096 < d) := h
  clear h
  go_enter Tryd.func50, Tryd.ntmps50
  go_wp2_with fail
  (go_at_call 42; refine (check_ok _ _ _ h1 h2 h3 h4).mono ?_; rintro e w1 ⟨rfl, hb1⟩; obtain ⟨u1, rfl⟩ := after hb1; clear hb1)
  go_wp2_with (first | (go_at_call 42; refine (check_bad _ _ _ H.out).mono ?_; rintro e w1 ⟨rfl, hb1⟩; obtain ⟨u1, rfl⟩ := after hb1; clear hb1) | fail)
  exact bodyPost_ret (v := .tuple #[pt 0 0, .int .i64 1]) (by simp [results, Tryd.results50, go_sem]) rfl ⟨rfl, by repeat first | (with_reducible exact Below.refl _ _) | (with_reducible refine below_on ?_ _) | (with_reducible refine below_alloc ?_ _) | (with_reducible refine below_set ?_ (by simp; try omega) _) | (with_reducible refine below_drew ?_)⟩

end Go.Proofs.YtbcmfenekpllhaaDoor
