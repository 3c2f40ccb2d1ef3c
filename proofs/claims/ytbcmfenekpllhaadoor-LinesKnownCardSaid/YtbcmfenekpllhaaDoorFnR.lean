/-
  Says: what Reflect gives for every line and every point, valid or not; that it changes no memory that was there.
-/
import Derived.Test.YtbcmfenekpllhaaDoorFnB
set_option linter.unusedVariables false
set_option linter.unusedSimpArgs false
namespace Go.Proofs.YtbcmfenekpllhaaDoor
open Go Go.RowKit

set_option maxHeartbeats 800000 in
theorem reflect_ok1 (c x y : Int) (w : World) (h3 : -4096 ≤ c) (h4 : c ≤ 4096) (h5 : -65536 ≤ x) (h6 : x ≤ 65536) (h7 : -65536 ≤ y) (h8 : y ≤ 65536) (h9 : -65536 ≤ 2 * (2 * c) - x) (h10 : 2 * (2 * c) - x ≤ 65536) (h11 : -65536 ≤ y) (h12 : y ≤ 65536) :
    Calls Tryd.prog 49 #[ln 1 c, pt x y] w fun e w' => e = .returned (.tuple #[pt (2 * (2 * c) - x) (y), .int .i64 0]) ∧ Below w.heap.size w w' := by
  go_enter Tryd.func49, Tryd.ntmps49
  go_wp2_with (first | (go_at_call 42; refine (check_ok _ _ _ (by omega) (by omega) (by omega) (by omega)).mono ?_; rintro e w1 ⟨rfl, hb1⟩; obtain ⟨u1, rfl⟩ := after hb1; clear hb1) | (go_at_call 54; refine (pcheck_ok _ _ _ (by omega) (by omega) (by omega) (by omega)).mono ?_; rintro e w2 ⟨rfl, hb2⟩; obtain ⟨u2, rfl⟩ := after hb2; clear hb2) | fail)
  refine region_free1 10 9 6 31 _ (by kernel_rfl) (by kernel_rfl) (by kernel_rfl) alloc26 ?_
  simp only [List.take_succ_cons, List.take_zero, List.drop_succ_cons, List.drop_zero]
  repeat (first
    | (refine wpLex_plain (by rfl) (by rfl) (by rfl) (fun K hK => ?_); go_big_quiet_op; refine hK _ ?_; clear hK K)
    | (refine wpLex_call (by rfl) (by rfl) (fun K hK => ?_); go_simp; apply Exists.intro; refine ⟨fun _ => ?_, hK _ ?_⟩; ((first | (go_at_call 46; with_reducible exact Calls.laterL (way_1 _)) | (go_at_call 73; with_reducible exact Calls.laterL (mirror_1 _ _ _ _ (by omega) (by omega) (by omega) (by omega) (by omega) (by omega))))); clear hK K)
    | (refine wpLex_new (by rfl) ?_; simp only [Act.put, List.setIfInBounds_toArray, List.set_cons_zero, List.set_cons_succ]))
  refine wpLex_nil ?_
  intro b u hb hk
  simp only [Act.put, List.setIfInBounds_toArray, List.set_cons_zero, List.set_cons_succ]
  have e0 : (on u).cell? ⟨b, 0, none⟩ = some (.int .i64 0) := held_cell hk 0
  have e1 : (on u).cell? ⟨b, 1, none⟩ = some (.int .i64 0) := held_cell hk 1
  have f0 : (on u).frozen? ⟨b, 0, none⟩ = false := held_free hk 0
  have f1 : (on u).frozen? ⟨b, 1, none⟩ = false := held_free hk 1
  have g1 : ∀ v, ((on u).setCell ⟨b, 0, none⟩ v).frozen? ⟨b, 1, none⟩ = false := fun v => held_free (held_set hk 0 v) 1
  go_wp2_with fail
  obtain ⟨v, hv, hl⟩ := stored2 hb hk (.int .i64 (2 * (2 * c) - x)) (.int .i64 (y))
  rw [hv]
  clear e0 e1 f0 f1 g1 hv hk
  have e0 : (on v).cell? ⟨b, 0, none⟩ = some (.int .i64 (2 * (2 * c) - x)) := held_cell hl 0
  have e1 : (on v).cell? ⟨b, 1, none⟩ = some (.int .i64 (y)) := held_cell hl 1
  have bb := below_on (below_on (below_on (below_alloc (below_alloc (below_alloc (Below.refl w.heap.size w) _) _) _) u1) u2) v
  refine (pcheck_ok _ _ _ (by omega) (by omega) (by omega) (by omega)).mono ?_
  rintro e w4 ⟨rfl, hb4⟩
  obtain ⟨u4, rfl⟩ := after hb4
  clear hb4 hl
  go_wp2
  exact bodyPost_ret (v := .tuple #[pt (2 * (2 * c) - x) (y), .int .i64 0]) (by simp [results, Tryd.results49, go_sem]) rfl ⟨rfl, below_set (below_set (below_on bb u4) (by simp; omega) _) (by simp; omega) _⟩

set_option maxHeartbeats 800000 in
theorem reflect_far1 (c x y : Int) (w : World) (h3 : -4096 ≤ c) (h4 : c ≤ 4096) (h5 : -65536 ≤ x) (h6 : x ≤ 65536) (h7 : -65536 ≤ y) (h8 : y ≤ 65536) (h : 2 * (2 * c) - x < -65536 ∨ 65536 < 2 * (2 * c) - x ∨ y < -65536 ∨ 65536 < y) :
    Calls Tryd.prog 49 #[ln 1 c, pt x y] w fun e w' => e = .returned (.tuple #[pt 0 0, .int .i64 3]) ∧ Below w.heap.size w w' := by
  have H : Hid (2 * (2 * c) - x < -65536 ∨ 65536 < 2 * (2 * c) - x ∨ y < -65536 ∨ 65536 < y) := h
  clear h
  go_enter Tryd.func49, Tryd.ntmps49
  go_wp2_with (first | (go_at_call 42; refine (check_ok _ _ _ (by omega) (by omega) (by omega) (by omega)).mono ?_; rintro e w1 ⟨rfl, hb1⟩; obtain ⟨u1, rfl⟩ := after hb1; clear hb1) | (go_at_call 54; refine (pcheck_ok _ _ _ (by omega) (by omega) (by omega) (by omega)).mono ?_; rintro e w2 ⟨rfl, hb2⟩; obtain ⟨u2, rfl⟩ := after hb2; clear hb2) | fail)
  refine region_free1 10 9 6 31 _ (by kernel_rfl) (by kernel_rfl) (by kernel_rfl) alloc26 ?_
  simp only [List.take_succ_cons, List.take_zero, List.drop_succ_cons, List.drop_zero]
  repeat (first
    | (refine wpLex_plain (by rfl) (by rfl) (by rfl) (fun K hK => ?_); go_big_quiet_op; refine hK _ ?_; clear hK K)
    | (refine wpLex_call (by rfl) (by rfl) (fun K hK => ?_); go_simp; apply Exists.intro; refine ⟨fun _ => ?_, hK _ ?_⟩; ((first | (go_at_call 46; with_reducible exact Calls.laterL (way_1 _)) | (go_at_call 73; with_reducible exact Calls.laterL (mirror_1 _ _ _ _ (by omega) (by omega) (by omega) (by omega) (by omega) (by omega))))); clear hK K)
    | (refine wpLex_new (by rfl) ?_; simp only [Act.put, List.setIfInBounds_toArray, List.set_cons_zero, List.set_cons_succ]))
  refine wpLex_nil ?_
  intro b u hb hk
  simp only [Act.put, List.setIfInBounds_toArray, List.set_cons_zero, List.set_cons_succ]
  have e0 : (on u).cell? ⟨b, 0, none⟩ = some (.int .i64 0) := held_cell hk 0
  have e1 : (on u).cell? ⟨b, 1, none⟩ = some (.int .i64 0) := held_cell hk 1
  have f0 : (on u).frozen? ⟨b, 0, none⟩ = false := held_free hk 0
  have f1 : (on u).frozen? ⟨b, 1, none⟩ = false := held_free hk 1
  have g1 : ∀ v, ((on u).setCell ⟨b, 0, none⟩ v).frozen? ⟨b, 1, none⟩ = false := fun v => held_free (held_set hk 0 v) 1
  go_wp2_with fail
  obtain ⟨v, hv, hl⟩ := stored2 hb hk (.int .i64 (2 * (2 * c) - x)) (.int .i64 (y))
  rw [hv]
  clear e0 e1 f0 f1 g1 hv hk
  have e0 : (on v).cell? ⟨b, 0, none⟩ = some (.int .i64 (2 * (2 * c) - x)) := held_cell hl 0
  have e1 : (on v).cell? ⟨b, 1, none⟩ = some (.int .i64 (y)) := held_cell hl 1
  have bb := below_on (below_on (below_on (below_alloc (below_alloc (below_alloc (Below.refl w.heap.size w) _) _) _) u1) u2) v
  refine (pcheck_bad _ _ _ H.out).mono ?_
  rintro e w4 ⟨rfl, hb4⟩
  obtain ⟨u4, rfl⟩ := after hb4
  clear hb4 hl
  go_wp2
  exact bodyPost_ret (v := .tuple #[pt 0 0, .int .i64 3]) (by simp [results, Tryd.results49, go_sem]) rfl ⟨rfl, below_set (below_set (below_on bb u4) (by simp; omega) _) (by simp; omega) _⟩

set_option maxHeartbeats 800000 in
theorem reflect_ok2 (c x y : Int) (w : World) (h3 : -4096 ≤ c) (h4 : c ≤ 4096) (h5 : -65536 ≤ x) (h6 : x ≤ 65536) (h7 : -65536 ≤ y) (h8 : y ≤ 65536) (h9 : -65536 ≤ x) (h10 : x ≤ 65536) (h11 : -65536 ≤ 2 * (2 * c) - y) (h12 : 2 * (2 * c) - y ≤ 65536) :
    Calls Tryd.prog 49 #[ln 2 c, pt x y] w fun e w' => e = .returned (.tuple #[pt (x) (2 * (2 * c) - y), .int .i64 0]) ∧ Below w.heap.size w w' := by
  go_enter Tryd.func49, Tryd.ntmps49
  go_wp2_with (first | (go_at_call 42; refine (check_ok _ _ _ (by omega) (by omega) (by omega) (by omega)).mono ?_; rintro e w1 ⟨rfl, hb1⟩; obtain ⟨u1, rfl⟩ := after hb1; clear hb1) | (go_at_call 54; refine (pcheck_ok _ _ _ (by omega) (by omega) (by omega) (by omega)).mono ?_; rintro e w2 ⟨rfl, hb2⟩; obtain ⟨u2, rfl⟩ := after hb2; clear hb2) | fail)
  refine region_free1 10 9 6 31 _ (by kernel_rfl) (by kernel_rfl) (by kernel_rfl) alloc26 ?_
  simp only [List.take_succ_cons, List.take_zero, List.drop_succ_cons, List.drop_zero]
  repeat (first
    | (refine wpLex_plain (by rfl) (by rfl) (by rfl) (fun K hK => ?_); go_big_quiet_op; refine hK _ ?_; clear hK K)
    | (refine wpLex_call (by rfl) (by rfl) (fun K hK => ?_); go_simp; apply Exists.intro; refine ⟨fun _ => ?_, hK _ ?_⟩; ((first | (go_at_call 46; with_reducible exact Calls.laterL (way_2 _)) | (go_at_call 76; with_reducible exact Calls.laterL (mirror_2 _ _ _ _ (by omega) (by omega) (by omega) (by omega) (by omega) (by omega))))); clear hK K)
    | (refine wpLex_new (by rfl) ?_; simp only [Act.put, List.setIfInBounds_toArray, List.set_cons_zero, List.set_cons_succ]))
  refine wpLex_nil ?_
  intro b u hb hk
  simp only [Act.put, List.setIfInBounds_toArray, List.set_cons_zero, List.set_cons_succ]
  have e0 : (on u).cell? ⟨b, 0, none⟩ = some (.int .i64 0) := held_cell hk 0
  have e1 : (on u).cell? ⟨b, 1, none⟩ = some (.int .i64 0) := held_cell hk 1
  have f0 : (on u).frozen? ⟨b, 0, none⟩ = false := held_free hk 0
  have f1 : (on u).frozen? ⟨b, 1, none⟩ = false := held_free hk 1
  have g1 : ∀ v, ((on u).setCell ⟨b, 0, none⟩ v).frozen? ⟨b, 1, none⟩ = false := fun v => held_free (held_set hk 0 v) 1
  go_wp2_with fail
  obtain ⟨v, hv, hl⟩ := stored2 hb hk (.int .i64 (x)) (.int .i64 (2 * (2 * c) - y))
  rw [hv]
  clear e0 e1 f0 f1 g1 hv hk
  have e0 : (on v).cell? ⟨b, 0, none⟩ = some (.int .i64 (x)) := held_cell hl 0
  have e1 : (on v).cell? ⟨b, 1, none⟩ = some (.int .i64 (2 * (2 * c) - y)) := held_cell hl 1
  have bb := below_on (below_on (below_on (below_alloc (below_alloc (below_alloc (Below.refl w.heap.size w) _) _) _) u1) u2) v
  refine (pcheck_ok _ _ _ (by omega) (by omega) (by omega) (by omega)).mono ?_
  rintro e w4 ⟨rfl, hb4⟩
  obtain ⟨u4, rfl⟩ := after hb4
  clear hb4 hl
  go_wp2
  exact bodyPost_ret (v := .tuple #[pt (x) (2 * (2 * c) - y), .int .i64 0]) (by simp [results, Tryd.results49, go_sem]) rfl ⟨rfl, below_set (below_set (below_on bb u4) (by simp; omega) _) (by simp; omega) _⟩

set_option maxHeartbeats 800000 in
theorem reflect_far2 (c x y : Int) (w : World) (h3 : -4096 ≤ c) (h4 : c ≤ 4096) (h5 : -65536 ≤ x) (h6 : x ≤ 65536) (h7 : -65536 ≤ y) (h8 : y ≤ 65536) (h : x < -65536 ∨ 65536 < x ∨ 2 * (2 * c) - y < -65536 ∨ 65536 < 2 * (2 * c) - y) :
    Calls Tryd.prog 49 #[ln 2 c, pt x y] w fun e w' => e = .returned (.tuple #[pt 0 0, .int .i64 3]) ∧ Below w.heap.size w w' := by
  have H : Hid (x < -65536 ∨ 65536 < x ∨ 2 * (2 * c) - y < -65536 ∨ 65536 < 2 * (2 * c) - y) := h
  clear h
  go_enter Tryd.func49, Tryd.ntmps49
  go_wp2_with (first | (go_at_call 42; refine (check_ok _ _ _ (by omega) (by omega) (by omega) (by omega)).mono ?_; rintro e w1 ⟨rfl, hb1⟩; obtain ⟨u1, rfl⟩ := after hb1; clear hb1) | (go_at_call 54; refine (pcheck_ok _ _ _ (by omega) (by omega) (by omega) (by omega)).mono ?_; rintro e w2 ⟨rfl, hb2⟩; obtain ⟨u2, rfl⟩ := after hb2; clear hb2) | fail)
  refine region_free1 10 9 6 31 _ (by kernel_rfl) (by kernel_rfl) (by kernel_rfl) alloc26 ?_
  simp only [List.take_succ_cons, List.take_zero, List.drop_succ_cons, List.drop_zero]
  repeat (first
    | (refine wpLex_plain (by rfl) (by rfl) (by rfl) (fun K hK => ?_); go_big_quiet_op; refine hK _ ?_; clear hK K)
    | (refine wpLex_call (by rfl) (by rfl) (fun K hK => ?_); go_simp; apply Exists.intro; refine ⟨fun _ => ?_, hK _ ?_⟩; ((first | (go_at_call 46; with_reducible exact Calls.laterL (way_2 _)) | (go_at_call 76; with_reducible exact Calls.laterL (mirror_2 _ _ _ _ (by omega) (by omega) (by omega) (by omega) (by omega) (by omega))))); clear hK K)
    | (refine wpLex_new (by rfl) ?_; simp only [Act.put, List.setIfInBounds_toArray, List.set_cons_zero, List.set_cons_succ]))
  refine wpLex_nil ?_
  intro b u hb hk
  simp only [Act.put, List.setIfInBounds_toArray, List.set_cons_zero, List.set_cons_succ]
  have e0 : (on u).cell? ⟨b, 0, none⟩ = some (.int .i64 0) := held_cell hk 0
  have e1 : (on u).cell? ⟨b, 1, none⟩ = some (.int .i64 0) := held_cell hk 1
  have f0 : (on u).frozen? ⟨b, 0, none⟩ = false := held_free hk 0
  have f1 : (on u).frozen? ⟨b, 1, none⟩ = false := held_free hk 1
  have g1 : ∀ v, ((on u).setCell ⟨b, 0, none⟩ v).frozen? ⟨b, 1, none⟩ = false := fun v => held_free (held_set hk 0 v) 1
  go_wp2_with fail
  obtain ⟨v, hv, hl⟩ := stored2 hb hk (.int .i64 (x)) (.int .i64 (2 * (2 * c) - y))
  rw [hv]
  clear e0 e1 f0 f1 g1 hv hk
  have e0 : (on v).cell? ⟨b, 0, none⟩ = some (.int .i64 (x)) := held_cell hl 0
  have e1 : (on v).cell? ⟨b, 1, none⟩ = some (.int .i64 (2 * (2 * c) - y)) := held_cell hl 1
  have bb := below_on (below_on (below_on (below_alloc (below_alloc (below_alloc (Below.refl w.heap.size w) _) _) _) u1) u2) v
  refine (pcheck_bad _ _ _ H.out).mono ?_
  rintro e w4 ⟨rfl, hb4⟩
  obtain ⟨u4, rfl⟩ := after hb4
  clear hb4 hl
  go_wp2
  exact bodyPost_ret (v := .tuple #[pt 0 0, .int .i64 3]) (by simp [results, Tryd.results49, go_sem]) rfl ⟨rfl, below_set (below_set (below_on bb u4) (by simp; omega) _) (by simp; omega) _⟩

set_option maxHeartbeats 800000 in
theorem reflect_ok3 (c x y : Int) (w : World) (h3 : -4096 ≤ c) (h4 : c ≤ 4096) (h5 : -65536 ≤ x) (h6 : x ≤ 65536) (h7 : -65536 ≤ y) (h8 : y ≤ 65536) (h9 : -65536 ≤ (2 * c) - y) (h10 : (2 * c) - y ≤ 65536) (h11 : -65536 ≤ (2 * c) - x) (h12 : (2 * c) - x ≤ 65536) :
    Calls Tryd.prog 49 #[ln 3 c, pt x y] w fun e w' => e = .returned (.tuple #[pt ((2 * c) - y) ((2 * c) - x), .int .i64 0]) ∧ Below w.heap.size w w' := by
  go_enter Tryd.func49, Tryd.ntmps49
  go_wp2_with (first | (go_at_call 42; refine (check_ok _ _ _ (by omega) (by omega) (by omega) (by omega)).mono ?_; rintro e w1 ⟨rfl, hb1⟩; obtain ⟨u1, rfl⟩ := after hb1; clear hb1) | (go_at_call 54; refine (pcheck_ok _ _ _ (by omega) (by omega) (by omega) (by omega)).mono ?_; rintro e w2 ⟨rfl, hb2⟩; obtain ⟨u2, rfl⟩ := after hb2; clear hb2) | fail)
  refine region_free1 10 9 6 31 _ (by kernel_rfl) (by kernel_rfl) (by kernel_rfl) alloc26 ?_
  simp only [List.take_succ_cons, List.take_zero, List.drop_succ_cons, List.drop_zero]
  repeat (first
    | (refine wpLex_plain (by rfl) (by rfl) (by rfl) (fun K hK => ?_); go_big_quiet_op; refine hK _ ?_; clear hK K)
    | (refine wpLex_call (by rfl) (by rfl) (fun K hK => ?_); go_simp; apply Exists.intro; refine ⟨fun _ => ?_, hK _ ?_⟩; ((first | (go_at_call 46; with_reducible exact Calls.laterL (way_3 _)) | (go_at_call 79; with_reducible exact Calls.laterL (mirror_3 _ _ _ _ (by omega) (by omega) (by omega) (by omega) (by omega) (by omega))))); clear hK K)
    | (refine wpLex_new (by rfl) ?_; simp only [Act.put, List.setIfInBounds_toArray, List.set_cons_zero, List.set_cons_succ]))
  refine wpLex_nil ?_
  intro b u hb hk
  simp only [Act.put, List.setIfInBounds_toArray, List.set_cons_zero, List.set_cons_succ]
  have e0 : (on u).cell? ⟨b, 0, none⟩ = some (.int .i64 0) := held_cell hk 0
  have e1 : (on u).cell? ⟨b, 1, none⟩ = some (.int .i64 0) := held_cell hk 1
  have f0 : (on u).frozen? ⟨b, 0, none⟩ = false := held_free hk 0
  have f1 : (on u).frozen? ⟨b, 1, none⟩ = false := held_free hk 1
  have g1 : ∀ v, ((on u).setCell ⟨b, 0, none⟩ v).frozen? ⟨b, 1, none⟩ = false := fun v => held_free (held_set hk 0 v) 1
  go_wp2_with fail
  obtain ⟨v, hv, hl⟩ := stored2 hb hk (.int .i64 ((2 * c) - y)) (.int .i64 ((2 * c) - x))
  rw [hv]
  clear e0 e1 f0 f1 g1 hv hk
  have e0 : (on v).cell? ⟨b, 0, none⟩ = some (.int .i64 ((2 * c) - y)) := held_cell hl 0
  have e1 : (on v).cell? ⟨b, 1, none⟩ = some (.int .i64 ((2 * c) - x)) := held_cell hl 1
  have bb := below_on (below_on (below_on (below_alloc (below_alloc (below_alloc (Below.refl w.heap.size w) _) _) _) u1) u2) v
  refine (pcheck_ok _ _ _ (by omega) (by omega) (by omega) (by omega)).mono ?_
  rintro e w4 ⟨rfl, hb4⟩
  obtain ⟨u4, rfl⟩ := after hb4
  clear hb4 hl
  go_wp2
  exact bodyPost_ret (v := .tuple #[pt ((2 * c) - y) ((2 * c) - x), .int .i64 0]) (by simp [results, Tryd.results49, go_sem]) rfl ⟨rfl, below_set (below_set (below_on bb u4) (by simp; omega) _) (by simp; omega) _⟩

set_option maxHeartbeats 800000 in
theorem reflect_far3 (c x y : Int) (w : World) (h3 : -4096 ≤ c) (h4 : c ≤ 4096) (h5 : -65536 ≤ x) (h6 : x ≤ 65536) (h7 : -65536 ≤ y) (h8 : y ≤ 65536) (h : (2 * c) - y < -65536 ∨ 65536 < (2 * c) - y ∨ (2 * c) - x < -65536 ∨ 65536 < (2 * c) - x) :
    Calls Tryd.prog 49 #[ln 3 c, pt x y] w fun e w' => e = .returned (.tuple #[pt 0 0, .int .i64 3]) ∧ Below w.heap.size w w' := by
  have H : Hid ((2 * c) - y < -65536 ∨ 65536 < (2 * c) - y ∨ (2 * c) - x < -65536 ∨ 65536 < (2 * c) - x) := h
  clear h
  go_enter Tryd.func49, Tryd.ntmps49
  go_wp2_with (first | (go_at_call 42; refine (check_ok _ _ _ (by omega) (by omega) (by omega) (by omega)).mono ?_; rintro e w1 ⟨rfl, hb1⟩; obtain ⟨u1, rfl⟩ := after hb1; clear hb1) | (go_at_call 54; refine (pcheck_ok _ _ _ (by omega) (by omega) (by omega) (by omega)).mono ?_; rintro e w2 ⟨rfl, hb2⟩; obtain ⟨u2, rfl⟩ := after hb2; clear hb2) | fail)
  refine region_free1 10 9 6 31 _ (by kernel_rfl) (by kernel_rfl) (by kernel_rfl) alloc26 ?_
  simp only [List.take_succ_cons, List.take_zero, List.drop_succ_cons, List.drop_zero]
  repeat (first
    | (refine wpLex_plain (by rfl) (by rfl) (by rfl) (fun K hK => ?_); go_big_quiet_op; refine hK _ ?_; clear hK K)
    | (refine wpLex_call (by rfl) (by rfl) (fun K hK => ?_); go_simp; apply Exists.intro; refine ⟨fun _ => ?_, hK _ ?_⟩; ((first | (go_at_call 46; with_reducible exact Calls.laterL (way_3 _)) | (go_at_call 79; with_reducible exact Calls.laterL (mirror_3 _ _ _ _ (by omega) (by omega) (by omega) (by omega) (by omega) (by omega))))); clear hK K)
    | (refine wpLex_new (by rfl) ?_; simp only [Act.put, List.setIfInBounds_toArray, List.set_cons_zero, List.set_cons_succ]))
  refine wpLex_nil ?_
  intro b u hb hk
  simp only [Act.put, List.setIfInBounds_toArray, List.set_cons_zero, List.set_cons_succ]
  have e0 : (on u).cell? ⟨b, 0, none⟩ = some (.int .i64 0) := held_cell hk 0
  have e1 : (on u).cell? ⟨b, 1, none⟩ = some (.int .i64 0) := held_cell hk 1
  have f0 : (on u).frozen? ⟨b, 0, none⟩ = false := held_free hk 0
  have f1 : (on u).frozen? ⟨b, 1, none⟩ = false := held_free hk 1
  have g1 : ∀ v, ((on u).setCell ⟨b, 0, none⟩ v).frozen? ⟨b, 1, none⟩ = false := fun v => held_free (held_set hk 0 v) 1
  go_wp2_with fail
  obtain ⟨v, hv, hl⟩ := stored2 hb hk (.int .i64 ((2 * c) - y)) (.int .i64 ((2 * c) - x))
  rw [hv]
  clear e0 e1 f0 f1 g1 hv hk
  have e0 : (on v).cell? ⟨b, 0, none⟩ = some (.int .i64 ((2 * c) - y)) := held_cell hl 0
  have e1 : (on v).cell? ⟨b, 1, none⟩ = some (.int .i64 ((2 * c) - x)) := held_cell hl 1
  have bb := below_on (below_on (below_on (below_alloc (below_alloc (below_alloc (Below.refl w.heap.size w) _) _) _) u1) u2) v
  refine (pcheck_bad _ _ _ H.out).mono ?_
  rintro e w4 ⟨rfl, hb4⟩
  obtain ⟨u4, rfl⟩ := after hb4
  clear hb4 hl
  go_wp2
  exact bodyPost_ret (v := .tuple #[pt 0 0, .int .i64 3]) (by simp [results, Tryd.results49, go_sem]) rfl ⟨rfl, below_set (below_set (below_on bb u4) (by simp; omega) _) (by simp; omega) _⟩

set_option maxHeartbeats 800000 in
theorem reflect_ok4 (c x y : Int) (w : World) (h3 : -4096 ≤ c) (h4 : c ≤ 4096) (h5 : -65536 ≤ x) (h6 : x ≤ 65536) (h7 : -65536 ≤ y) (h8 : y ≤ 65536) (h9 : -65536 ≤ y - (2 * c)) (h10 : y - (2 * c) ≤ 65536) (h11 : -65536 ≤ x + (2 * c)) (h12 : x + (2 * c) ≤ 65536) :
    Calls Tryd.prog 49 #[ln 4 c, pt x y] w fun e w' => e = .returned (.tuple #[pt (y - (2 * c)) (x + (2 * c)), .int .i64 0]) ∧ Below w.heap.size w w' := by
  go_enter Tryd.func49, Tryd.ntmps49
  go_wp2_with (first | (go_at_call 42; refine (check_ok _ _ _ (by omega) (by omega) (by omega) (by omega)).mono ?_; rintro e w1 ⟨rfl, hb1⟩; obtain ⟨u1, rfl⟩ := after hb1; clear hb1) | (go_at_call 54; refine (pcheck_ok _ _ _ (by omega) (by omega) (by omega) (by omega)).mono ?_; rintro e w2 ⟨rfl, hb2⟩; obtain ⟨u2, rfl⟩ := after hb2; clear hb2) | fail)
  refine region_free1 10 9 6 31 _ (by kernel_rfl) (by kernel_rfl) (by kernel_rfl) alloc26 ?_
  simp only [List.take_succ_cons, List.take_zero, List.drop_succ_cons, List.drop_zero]
  repeat (first
    | (refine wpLex_plain (by rfl) (by rfl) (by rfl) (fun K hK => ?_); go_big_quiet_op; refine hK _ ?_; clear hK K)
    | (refine wpLex_call (by rfl) (by rfl) (fun K hK => ?_); go_simp; apply Exists.intro; refine ⟨fun _ => ?_, hK _ ?_⟩; ((first | (go_at_call 46; with_reducible exact Calls.laterL (way_4 _)) | (go_at_call 82; with_reducible exact Calls.laterL (mirror_4 _ _ _ _ (by omega) (by omega) (by omega) (by omega) (by omega) (by omega))))); clear hK K)
    | (refine wpLex_new (by rfl) ?_; simp only [Act.put, List.setIfInBounds_toArray, List.set_cons_zero, List.set_cons_succ]))
  refine wpLex_nil ?_
  intro b u hb hk
  simp only [Act.put, List.setIfInBounds_toArray, List.set_cons_zero, List.set_cons_succ]
  have e0 : (on u).cell? ⟨b, 0, none⟩ = some (.int .i64 0) := held_cell hk 0
  have e1 : (on u).cell? ⟨b, 1, none⟩ = some (.int .i64 0) := held_cell hk 1
  have f0 : (on u).frozen? ⟨b, 0, none⟩ = false := held_free hk 0
  have f1 : (on u).frozen? ⟨b, 1, none⟩ = false := held_free hk 1
  have g1 : ∀ v, ((on u).setCell ⟨b, 0, none⟩ v).frozen? ⟨b, 1, none⟩ = false := fun v => held_free (held_set hk 0 v) 1
  go_wp2_with fail
  obtain ⟨v, hv, hl⟩ := stored2 hb hk (.int .i64 (y - (2 * c))) (.int .i64 (x + (2 * c)))
  rw [hv]
  clear e0 e1 f0 f1 g1 hv hk
  have e0 : (on v).cell? ⟨b, 0, none⟩ = some (.int .i64 (y - (2 * c))) := held_cell hl 0
  have e1 : (on v).cell? ⟨b, 1, none⟩ = some (.int .i64 (x + (2 * c))) := held_cell hl 1
  have bb := below_on (below_on (below_on (below_alloc (below_alloc (below_alloc (Below.refl w.heap.size w) _) _) _) u1) u2) v
  refine (pcheck_ok _ _ _ (by omega) (by omega) (by omega) (by omega)).mono ?_
  rintro e w4 ⟨rfl, hb4⟩
  obtain ⟨u4, rfl⟩ := after hb4
  clear hb4 hl
  go_wp2
  exact bodyPost_ret (v := .tuple #[pt (y - (2 * c)) (x + (2 * c)), .int .i64 0]) (by simp [results, Tryd.results49, go_sem]) rfl ⟨rfl, below_set (below_set (below_on bb u4) (by simp; omega) _) (by simp; omega) _⟩

set_option maxHeartbeats 800000 in
theorem reflect_far4 (c x y : Int) (w : World) (h3 : -4096 ≤ c) (h4 : c ≤ 4096) (h5 : -65536 ≤ x) (h6 : x ≤ 65536) (h7 : -65536 ≤ y) (h8 : y ≤ 65536) (h : y - (2 * c) < -65536 ∨ 65536 < y - (2 * c) ∨ x + (2 * c) < -65536 ∨ 65536 < x + (2 * c)) :
    Calls Tryd.prog 49 #[ln 4 c, pt x y] w fun e w' => e = .returned (.tuple #[pt 0 0, .int .i64 3]) ∧ Below w.heap.size w w' := by
  have H : Hid (y - (2 * c) < -65536 ∨ 65536 < y - (2 * c) ∨ x + (2 * c) < -65536 ∨ 65536 < x + (2 * c)) := h
  clear h
  go_enter Tryd.func49, Tryd.ntmps49
  go_wp2_with (first | (go_at_call 42; refine (check_ok _ _ _ (by omega) (by omega) (by omega) (by omega)).mono ?_; rintro e w1 ⟨rfl, hb1⟩; obtain ⟨u1, rfl⟩ := after hb1; clear hb1) | (go_at_call 54; refine (pcheck_ok _ _ _ (by omega) (by omega) (by omega) (by omega)).mono ?_; rintro e w2 ⟨rfl, hb2⟩; obtain ⟨u2, rfl⟩ := after hb2; clear hb2) | fail)
  refine region_free1 10 9 6 31 _ (by kernel_rfl) (by kernel_rfl) (by kernel_rfl) alloc26 ?_
  simp only [List.take_succ_cons, List.take_zero, List.drop_succ_cons, List.drop_zero]
  repeat (first
    | (refine wpLex_plain (by rfl) (by rfl) (by rfl) (fun K hK => ?_); go_big_quiet_op; refine hK _ ?_; clear hK K)
    | (refine wpLex_call (by rfl) (by rfl) (fun K hK => ?_); go_simp; apply Exists.intro; refine ⟨fun _ => ?_, hK _ ?_⟩; ((first | (go_at_call 46; with_reducible exact Calls.laterL (way_4 _)) | (go_at_call 82; with_reducible exact Calls.laterL (mirror_4 _ _ _ _ (by omega) (by omega) (by omega) (by omega) (by omega) (by omega))))); clear hK K)
    | (refine wpLex_new (by rfl) ?_; simp only [Act.put, List.setIfInBounds_toArray, List.set_cons_zero, List.set_cons_succ]))
  refine wpLex_nil ?_
  intro b u hb hk
  simp only [Act.put, List.setIfInBounds_toArray, List.set_cons_zero, List.set_cons_succ]
  have e0 : (on u).cell? ⟨b, 0, none⟩ = some (.int .i64 0) := held_cell hk 0
  have e1 : (on u).cell? ⟨b, 1, none⟩ = some (.int .i64 0) := held_cell hk 1
  have f0 : (on u).frozen? ⟨b, 0, none⟩ = false := held_free hk 0
  have f1 : (on u).frozen? ⟨b, 1, none⟩ = false := held_free hk 1
  have g1 : ∀ v, ((on u).setCell ⟨b, 0, none⟩ v).frozen? ⟨b, 1, none⟩ = false := fun v => held_free (held_set hk 0 v) 1
  go_wp2_with fail
  obtain ⟨v, hv, hl⟩ := stored2 hb hk (.int .i64 (y - (2 * c))) (.int .i64 (x + (2 * c)))
  rw [hv]
  clear e0 e1 f0 f1 g1 hv hk
  have e0 : (on v).cell? ⟨b, 0, none⟩ = some (.int .i64 (y - (2 * c))) := held_cell hl 0
  have e1 : (on v).cell? ⟨b, 1, none⟩ = some (.int .i64 (x + (2 * c))) := held_cell hl 1
  have bb := below_on (below_on (below_on (below_alloc (below_alloc (below_alloc (Below.refl w.heap.size w) _) _) _) u1) u2) v
  refine (pcheck_bad _ _ _ H.out).mono ?_
  rintro e w4 ⟨rfl, hb4⟩
  obtain ⟨u4, rfl⟩ := after hb4
  clear hb4 hl
  go_wp2
  exact bodyPost_ret (v := .tuple #[pt 0 0, .int .i64 3]) (by simp [results, Tryd.results49, go_sem]) rfl ⟨rfl, below_set (below_set (below_on bb u4) (by simp; omega) _) (by simp; omega) _⟩

theorem reflect_ok (k c x y : Int) (w : World) (h1 : 1 ≤ k) (h2 : k ≤ 4) (h3 : -4096 ≤ c) (h4 : c ≤ 4096) (h5 : -65536 ≤ x) (h6 : x ≤ 65536) (h7 : -65536 ≤ y) (h8 : y ≤ 65536) (h9 : -65536 ≤ mirX k (2 * c) x y) (h10 : mirX k (2 * c) x y ≤ 65536) (h11 : -65536 ≤ mirY k (2 * c) x y) (h12 : mirY k (2 * c) x y ≤ 65536) :
    Calls Tryd.prog 49 #[ln k c, pt x y] w fun e w' => e = .returned (.tuple #[pt (mirX k (2 * c) x y) (mirY k (2 * c) x y), .int .i64 0]) ∧ Below w.heap.size w w' := by
  obtain rfl | rfl | rfl | rfl : k = 1 ∨ k = 2 ∨ k = 3 ∨ k = 4 := by omega
  · rw [mirX1, mirY1] at *; exact reflect_ok1 c x y w h3 h4 h5 h6 h7 h8 h9 h10 h11 h12
  · rw [mirX2, mirY2] at *; exact reflect_ok2 c x y w h3 h4 h5 h6 h7 h8 h9 h10 h11 h12
  · rw [mirX3, mirY3] at *; exact reflect_ok3 c x y w h3 h4 h5 h6 h7 h8 h9 h10 h11 h12
  · rw [mirX4, mirY4] at *; exact reflect_ok4 c x y w h3 h4 h5 h6 h7 h8 h9 h10 h11 h12

theorem reflect_far (k c x y : Int) (w : World) (h1 : 1 ≤ k) (h2 : k ≤ 4) (h3 : -4096 ≤ c) (h4 : c ≤ 4096) (h5 : -65536 ≤ x) (h6 : x ≤ 65536) (h7 : -65536 ≤ y) (h8 : y ≤ 65536) (h : mirX k (2 * c) x y < -65536 ∨ 65536 < mirX k (2 * c) x y ∨ mirY k (2 * c) x y < -65536 ∨ 65536 < mirY k (2 * c) x y) :
    Calls Tryd.prog 49 #[ln k c, pt x y] w fun e w' => e = .returned (.tuple #[pt 0 0, .int .i64 3]) ∧ Below w.heap.size w w' := by
  obtain rfl | rfl | rfl | rfl : k = 1 ∨ k = 2 ∨ k = 3 ∨ k = 4 := by omega
  · rw [mirX1, mirY1] at *; exact reflect_far1 c x y w h3 h4 h5 h6 h7 h8 h
  · rw [mirX2, mirY2] at *; exact reflect_far2 c x y w h3 h4 h5 h6 h7 h8 h
  · rw [mirX3, mirY3] at *; exact reflect_far3 c x y w h3 h4 h5 h6 h7 h8 h
  · rw [mirX4, mirY4] at *; exact reflect_far4 c x y w h3 h4 h5 h6 h7 h8 h

set_option maxHeartbeats 400000 in
theorem reflect_badl (k c x y : Int) (w : World) (h : k < 1 ∨ 4 < k ∨ c < -4096 ∨ 4096 < c) :
    Calls Tryd.prog 49 #[ln k c, pt x y] w fun e w' => e = .returned (.tuple #[pt 0 0, .int .i64 1]) ∧ Below w.heap.size w w' := by
  have H : Hid (k < 1 ∨ 4 < k ∨ c < -4096 ∨ 4096 < c) := h
  clear h
  go_enter Tryd.func49, Tryd.ntmps49
  go_wp2_with (first | (go_at_call 42; refine (check_bad _ _ _ H.out).mono ?_; rintro e w1 ⟨rfl, hb1⟩; obtain ⟨u1, rfl⟩ := after hb1; clear hb1) | fail)
  exact bodyPost_ret (v := .tuple #[pt 0 0, .int .i64 1]) (by simp [results, Tryd.results49, go_sem]) rfl ⟨rfl, below_set (below_set (below_on (below_alloc (below_alloc (below_alloc (Below.refl w.heap.size w) _) _) _) u1) (by simp; omega) _) (by simp; omega) _⟩

set_option maxHeartbeats 400000 in
theorem reflect_badp (k c x y : Int) (w : World) (h1 : 1 ≤ k) (h2 : k ≤ 4) (h3 : -4096 ≤ c) (h4 : c ≤ 4096) (h : x < -65536 ∨ 65536 < x ∨ y < -65536 ∨ 65536 < y) :
    Calls Tryd.prog 49 #[ln k c, pt x y] w fun e w' => e = .returned (.tuple #[pt 0 0, .int .i64 1]) ∧ Below w.heap.size w w' := by
  have H : Hid (x < -65536 ∨ 65536 < x ∨ y < -65536 ∨ 65536 < y) := h
  clear h
  go_enter Tryd.func49, Tryd.ntmps49
  go_wp2_with (first | (go_at_call 42; refine (check_ok _ _ _ (by omega) (by omega) (by omega) (by omega)).mono ?_; rintro e w1 ⟨rfl, hb1⟩; obtain ⟨u1, rfl⟩ := after hb1; clear hb1) | (go_at_call 54; refine (pcheck_bad _ _ _ H.out).mono ?_; rintro e w2 ⟨rfl, hb2⟩; obtain ⟨u2, rfl⟩ := after hb2; clear hb2) | fail)
  exact bodyPost_ret (v := .tuple #[pt 0 0, .int .i64 1]) (by simp [results, Tryd.results49, go_sem]) rfl ⟨rfl, below_set (below_set (below_on (below_on (below_alloc (below_alloc (below_alloc (Below.refl w.heap.size w) _) _) _) u1) u2) (by simp; omega) _) (by simp; omega) _⟩

end Go.Proofs.YtbcmfenekpllhaaDoor
