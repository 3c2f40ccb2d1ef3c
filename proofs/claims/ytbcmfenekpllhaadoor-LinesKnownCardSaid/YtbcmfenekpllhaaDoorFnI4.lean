/-
  Says: what Image gives in the lines of two of the four kinds.
-/
import Derived.Test.YtbcmfenekpllhaaDoorFnT
set_option linter.unusedVariables false
set_option linter.unusedSimpArgs false
namespace Go.Proofs.YtbcmfenekpllhaaDoor
open Go Go.RowKit

set_option maxHeartbeats 1600000 in
theorem image_ok41 (c d : Int) (w : World) (h1 : -4096 ≤ c) (h2 : c ≤ 4096) (h3 : -4096 ≤ d) (h4 : d ≤ 4096) (m : Int) (hm : m = (1) * c + (1) * d) (hl : -4096 ≤ m) (hl2 : m ≤ 4096) : Calls Tryd.prog 12 #[ln 4 c, ln 1 d] w fun e w' => e = .returned (.tuple #[ln 2 m, .int .i64 0]) ∧ Below w.heap.size w w' := by
  have H : Hid (m = (1) * c + (1) * d) := hm
  clear hm
  go_enter Tryd.func12, Tryd.ntmps12
  go_wp2_with (first | (go_at_call 42; refine (check_ok _ _ _ (by omega) (by omega) (by omega) (by omega)).mono ?_; rintro e w1 ⟨rfl, hb1⟩; obtain ⟨u1, rfl⟩ := after hb1; clear hb1; have z1 := on_size u1; try simp only [World.size_alloc] at z1) | (go_at_call 46; refine (way_4 _).mono ?_; rintro e w3 ⟨rfl, hb3⟩; obtain ⟨u3, rfl⟩ := after hb3; have z3 : w.heap.size + 1 + 1 < (on u3).heap.size := (by have := on_size u3; omega); have z4 : w.heap.size + 1 < (on u3).heap.size := (by omega); have z5 : w.heap.size < (on u3).heap.size := (by omega); clear hb3) | fail)
  refine region_free1 13 12 8 31 _ (by kernel_rfl) (by kernel_rfl) (by kernel_rfl) alloc26 ?_
  simp only [List.take_succ_cons, List.take_zero, List.drop_succ_cons, List.drop_zero]
  repeat (first
    | (refine wpLex_plain (by rfl) (by rfl) (by rfl) (fun K hK => ?_); go_big_quiet_op; refine hK _ ?_; clear hK K)
    | (refine wpLex_call (by rfl) (by rfl) (fun K hK => ?_); go_simp; apply Exists.intro; refine ⟨fun _ => ?_, hK _ ?_⟩; ((first | (go_at_call 46; with_reducible exact Calls.laterL (way_1 _)) | (go_at_call 74; with_reducible exact Calls.laterL (point_1 _ _)) | (go_at_call 82; with_reducible exact Calls.laterL (mirror_4 _ _ _ _ (by omega) (by omega) (by omega) (by omega) (by omega) (by omega))))); clear hK K)
    | (refine wpLex_new (by rfl) ?_; simp only [Act.put, List.setIfInBounds_toArray, List.set_cons_zero, List.set_cons_succ]))
  refine wpLex_nil ?_
  intro b u hb hk
  simp only [Act.put, List.setIfInBounds_toArray, List.set_cons_zero, List.set_cons_succ]
  have e0 : (on u).cell? ⟨b, 0, none⟩ = some (.int .i64 0) := held_cell hk 0
  have e1 : (on u).cell? ⟨b, 1, none⟩ = some (.int .i64 0) := held_cell hk 1
  have f0 : (on u).frozen? ⟨b, 0, none⟩ = false := held_free hk 0
  have f1 : (on u).frozen? ⟨b, 1, none⟩ = false := held_free hk 1
  have hs := st2_eq u hb
  have c0 := st2_c0 hb hk
  have c1 := st2_c1 hb hk
  clear hk
  go_wp2_with fail
  clear e0 e1 f0 f1 hs
  have q1 : -4096 ≤ (1) * c + (1) * d := (by have := H.out; omega)
  have q2 : (1) * c + (1) * d ≤ 4096 := (by have := H.out; omega)
  refine region_tail 10 (by kernel_rfl) (by kernel_rfl) ?_
  simp only [List.take_succ_cons, List.take_zero, List.drop_succ_cons, List.drop_zero]
  repeat (first
    | (refine wpLex_plain (by rfl) (by rfl) (by rfl) (fun K hK => ?_); go_big_quiet_op; refine hK _ ?_; clear hK K)
    | (refine wpLex_call (by rfl) (by rfl) (fun K hK => ?_); go_simp; apply Exists.intro; refine ⟨fun _ => ?_, hK _ ?_⟩; ((first | (go_at_call 46; with_reducible exact Calls.laterL (way_2 _)) | (go_at_call 75; with_reducible exact Calls.laterL (value_2 _ _ _ (by omega) (by omega) (by omega) (by omega))) | (go_at_call 47; with_reducible exact Calls.laterL (limited_ok _ _ _ (by omega) (by omega))))); clear hK K)
    | (refine wpLex_new (by rfl) ?_; simp only [Act.put, List.setIfInBounds_toArray, List.set_cons_zero, List.set_cons_succ]))
  refine wpLex_nil ?_
  intro u9
  go_wp2
  have hm := H.out
  exact bodyPost_ret (v := .tuple #[ln 2 m, .int .i64 0]) (by simp [results, Tryd.results12, go_sem, z3, z4, z5] <;> omega) rfl ⟨rfl, by repeat first | (with_reducible exact Below.refl _ _) | (with_reducible refine below_on ?_ _) | (with_reducible refine below_alloc ?_ _) | (with_reducible refine below_set ?_ (by simp; try omega) _) | (with_reducible refine below_drew ?_)⟩

set_option maxHeartbeats 1600000 in
theorem image_far41 (c d : Int) (w : World) (h1 : -4096 ≤ c) (h2 : c ≤ 4096) (h3 : -4096 ≤ d) (h4 : d ≤ 4096) (m : Int) (hm : m = (1) * c + (1) * d) (hl : m < -4096 ∨ 4096 < m) : Calls Tryd.prog 12 #[ln 4 c, ln 1 d] w fun e w' => e = .returned (.tuple #[ln 0 0, .int .i64 3]) ∧ Below w.heap.size w w' := by
  have H : Hid (m = (1) * c + (1) * d) := hm
  clear hm
  go_enter Tryd.func12, Tryd.ntmps12
  go_wp2_with (first | (go_at_call 42; refine (check_ok _ _ _ (by omega) (by omega) (by omega) (by omega)).mono ?_; rintro e w1 ⟨rfl, hb1⟩; obtain ⟨u1, rfl⟩ := after hb1; clear hb1; have z1 := on_size u1; try simp only [World.size_alloc] at z1) | (go_at_call 46; refine (way_4 _).mono ?_; rintro e w3 ⟨rfl, hb3⟩; obtain ⟨u3, rfl⟩ := after hb3; have z3 : w.heap.size + 1 + 1 < (on u3).heap.size := (by have := on_size u3; omega); have z4 : w.heap.size + 1 < (on u3).heap.size := (by omega); have z5 : w.heap.size < (on u3).heap.size := (by omega); clear hb3) | fail)
  refine region_free1 13 12 8 31 _ (by kernel_rfl) (by kernel_rfl) (by kernel_rfl) alloc26 ?_
  simp only [List.take_succ_cons, List.take_zero, List.drop_succ_cons, List.drop_zero]
  repeat (first
    | (refine wpLex_plain (by rfl) (by rfl) (by rfl) (fun K hK => ?_); go_big_quiet_op; refine hK _ ?_; clear hK K)
    | (refine wpLex_call (by rfl) (by rfl) (fun K hK => ?_); go_simp; apply Exists.intro; refine ⟨fun _ => ?_, hK _ ?_⟩; ((first | (go_at_call 46; with_reducible exact Calls.laterL (way_1 _)) | (go_at_call 74; with_reducible exact Calls.laterL (point_1 _ _)) | (go_at_call 82; with_reducible exact Calls.laterL (mirror_4 _ _ _ _ (by omega) (by omega) (by omega) (by omega) (by omega) (by omega))))); clear hK K)
    | (refine wpLex_new (by rfl) ?_; simp only [Act.put, List.setIfInBounds_toArray, List.set_cons_zero, List.set_cons_succ]))
  refine wpLex_nil ?_
  intro b u hb hk
  simp only [Act.put, List.setIfInBounds_toArray, List.set_cons_zero, List.set_cons_succ]
  have e0 : (on u).cell? ⟨b, 0, none⟩ = some (.int .i64 0) := held_cell hk 0
  have e1 : (on u).cell? ⟨b, 1, none⟩ = some (.int .i64 0) := held_cell hk 1
  have f0 : (on u).frozen? ⟨b, 0, none⟩ = false := held_free hk 0
  have f1 : (on u).frozen? ⟨b, 1, none⟩ = false := held_free hk 1
  have hs := st2_eq u hb
  have c0 := st2_c0 hb hk
  have c1 := st2_c1 hb hk
  clear hk
  go_wp2_with fail
  clear e0 e1 f0 f1 hs
  have Q : Hid ((1) * c + (1) * d < -4096 ∨ 4096 < (1) * c + (1) * d) := (by have := H.out; show (1) * c + (1) * d < -4096 ∨ 4096 < (1) * c + (1) * d; omega)
  refine region_tail 10 (by kernel_rfl) (by kernel_rfl) ?_
  simp only [List.take_succ_cons, List.take_zero, List.drop_succ_cons, List.drop_zero]
  repeat (first
    | (refine wpLex_plain (by rfl) (by rfl) (by rfl) (fun K hK => ?_); go_big_quiet_op; refine hK _ ?_; clear hK K)
    | (refine wpLex_call (by rfl) (by rfl) (fun K hK => ?_); go_simp; apply Exists.intro; refine ⟨fun _ => ?_, hK _ ?_⟩; ((first | (go_at_call 46; with_reducible exact Calls.laterL (way_2 _)) | (go_at_call 75; with_reducible exact Calls.laterL (value_2 _ _ _ (by omega) (by omega) (by omega) (by omega))) | (go_at_call 47; with_reducible exact Calls.laterL (limited_bad _ _ _ (by have := Q.out; omega))))); clear hK K)
    | (refine wpLex_new (by rfl) ?_; simp only [Act.put, List.setIfInBounds_toArray, List.set_cons_zero, List.set_cons_succ]))
  refine wpLex_nil ?_
  intro u9
  go_wp2
  have hm := H.out
  exact bodyPost_ret (v := .tuple #[ln 0 0, .int .i64 3]) (by simp [results, Tryd.results12, go_sem, z3, z4, z5] <;> omega) rfl ⟨rfl, by repeat first | (with_reducible exact Below.refl _ _) | (with_reducible refine below_on ?_ _) | (with_reducible refine below_alloc ?_ _) | (with_reducible refine below_set ?_ (by simp; try omega) _) | (with_reducible refine below_drew ?_)⟩

set_option maxHeartbeats 1600000 in
theorem image_ok42 (c d : Int) (w : World) (h1 : -4096 ≤ c) (h2 : c ≤ 4096) (h3 : -4096 ≤ d) (h4 : d ≤ 4096) (m : Int) (hm : m = (-1) * c + (1) * d) (hl : -4096 ≤ m) (hl2 : m ≤ 4096) : Calls Tryd.prog 12 #[ln 4 c, ln 2 d] w fun e w' => e = .returned (.tuple #[ln 1 m, .int .i64 0]) ∧ Below w.heap.size w w' := by
  have H : Hid (m = (-1) * c + (1) * d) := hm
  clear hm
  go_enter Tryd.func12, Tryd.ntmps12
  go_wp2_with (first | (go_at_call 42; refine (check_ok _ _ _ (by omega) (by omega) (by omega) (by omega)).mono ?_; rintro e w1 ⟨rfl, hb1⟩; obtain ⟨u1, rfl⟩ := after hb1; clear hb1; have z1 := on_size u1; try simp only [World.size_alloc] at z1) | (go_at_call 46; refine (way_4 _).mono ?_; rintro e w3 ⟨rfl, hb3⟩; obtain ⟨u3, rfl⟩ := after hb3; have z3 : w.heap.size + 1 + 1 < (on u3).heap.size := (by have := on_size u3; omega); have z4 : w.heap.size + 1 < (on u3).heap.size := (by omega); have z5 : w.heap.size < (on u3).heap.size := (by omega); clear hb3) | fail)
  refine region_free1 13 12 8 31 _ (by kernel_rfl) (by kernel_rfl) (by kernel_rfl) alloc26 ?_
  simp only [List.take_succ_cons, List.take_zero, List.drop_succ_cons, List.drop_zero]
  repeat (first
    | (refine wpLex_plain (by rfl) (by rfl) (by rfl) (fun K hK => ?_); go_big_quiet_op; refine hK _ ?_; clear hK K)
    | (refine wpLex_call (by rfl) (by rfl) (fun K hK => ?_); go_simp; apply Exists.intro; refine ⟨fun _ => ?_, hK _ ?_⟩; ((first | (go_at_call 46; with_reducible exact Calls.laterL (way_2 _)) | (go_at_call 77; with_reducible exact Calls.laterL (point_2 _ _)) | (go_at_call 82; with_reducible exact Calls.laterL (mirror_4 _ _ _ _ (by omega) (by omega) (by omega) (by omega) (by omega) (by omega))))); clear hK K)
    | (refine wpLex_new (by rfl) ?_; simp only [Act.put, List.setIfInBounds_toArray, List.set_cons_zero, List.set_cons_succ]))
  refine wpLex_nil ?_
  intro b u hb hk
  simp only [Act.put, List.setIfInBounds_toArray, List.set_cons_zero, List.set_cons_succ]
  have e0 : (on u).cell? ⟨b, 0, none⟩ = some (.int .i64 0) := held_cell hk 0
  have e1 : (on u).cell? ⟨b, 1, none⟩ = some (.int .i64 0) := held_cell hk 1
  have f0 : (on u).frozen? ⟨b, 0, none⟩ = false := held_free hk 0
  have f1 : (on u).frozen? ⟨b, 1, none⟩ = false := held_free hk 1
  have hs := st2_eq u hb
  have c0 := st2_c0 hb hk
  have c1 := st2_c1 hb hk
  clear hk
  go_wp2_with fail
  clear e0 e1 f0 f1 hs
  have q1 : -4096 ≤ (-1) * c + (1) * d := (by have := H.out; omega)
  have q2 : (-1) * c + (1) * d ≤ 4096 := (by have := H.out; omega)
  refine region_tail 10 (by kernel_rfl) (by kernel_rfl) ?_
  simp only [List.take_succ_cons, List.take_zero, List.drop_succ_cons, List.drop_zero]
  repeat (first
    | (refine wpLex_plain (by rfl) (by rfl) (by rfl) (fun K hK => ?_); go_big_quiet_op; refine hK _ ?_; clear hK K)
    | (refine wpLex_call (by rfl) (by rfl) (fun K hK => ?_); go_simp; apply Exists.intro; refine ⟨fun _ => ?_, hK _ ?_⟩; ((first | (go_at_call 46; with_reducible exact Calls.laterL (way_1 _)) | (go_at_call 72; with_reducible exact Calls.laterL (value_1 _ _ _ (by omega) (by omega) (by omega) (by omega))) | (go_at_call 47; with_reducible exact Calls.laterL (limited_ok _ _ _ (by omega) (by omega))))); clear hK K)
    | (refine wpLex_new (by rfl) ?_; simp only [Act.put, List.setIfInBounds_toArray, List.set_cons_zero, List.set_cons_succ]))
  refine wpLex_nil ?_
  intro u9
  go_wp2
  have hm := H.out
  exact bodyPost_ret (v := .tuple #[ln 1 m, .int .i64 0]) (by simp [results, Tryd.results12, go_sem, z3, z4, z5] <;> omega) rfl ⟨rfl, by repeat first | (with_reducible exact Below.refl _ _) | (with_reducible refine below_on ?_ _) | (with_reducible refine below_alloc ?_ _) | (with_reducible refine below_set ?_ (by simp; try omega) _) | (with_reducible refine below_drew ?_)⟩

set_option maxHeartbeats 1600000 in
theorem image_far42 (c d : Int) (w : World) (h1 : -4096 ≤ c) (h2 : c ≤ 4096) (h3 : -4096 ≤ d) (h4 : d ≤ 4096) (m : Int) (hm : m = (-1) * c + (1) * d) (hl : m < -4096 ∨ 4096 < m) : Calls Tryd.prog 12 #[ln 4 c, ln 2 d] w fun e w' => e = .returned (.tuple #[ln 0 0, .int .i64 3]) ∧ Below w.heap.size w w' := by
  have H : Hid (m = (-1) * c + (1) * d) := hm
  clear hm
  go_enter Tryd.func12, Tryd.ntmps12
  go_wp2_with (first | (go_at_call 42; refine (check_ok _ _ _ (by omega) (by omega) (by omega) (by omega)).mono ?_; rintro e w1 ⟨rfl, hb1⟩; obtain ⟨u1, rfl⟩ := after hb1; clear hb1; have z1 := on_size u1; try simp only [World.size_alloc] at z1) | (go_at_call 46; refine (way_4 _).mono ?_; rintro e w3 ⟨rfl, hb3⟩; obtain ⟨u3, rfl⟩ := after hb3; have z3 : w.heap.size + 1 + 1 < (on u3).heap.size := (by have := on_size u3; omega); have z4 : w.heap.size + 1 < (on u3).heap.size := (by omega); have z5 : w.heap.size < (on u3).heap.size := (by omega); clear hb3) | fail)
  refine region_free1 13 12 8 31 _ (by kernel_rfl) (by kernel_rfl) (by kernel_rfl) alloc26 ?_
  simp only [List.take_succ_cons, List.take_zero, List.drop_succ_cons, List.drop_zero]
  repeat (first
    | (refine wpLex_plain (by rfl) (by rfl) (by rfl) (fun K hK => ?_); go_big_quiet_op; refine hK _ ?_; clear hK K)
    | (refine wpLex_call (by rfl) (by rfl) (fun K hK => ?_); go_simp; apply Exists.intro; refine ⟨fun _ => ?_, hK _ ?_⟩; ((first | (go_at_call 46; with_reducible exact Calls.laterL (way_2 _)) | (go_at_call 77; with_reducible exact Calls.laterL (point_2 _ _)) | (go_at_call 82; with_reducible exact Calls.laterL (mirror_4 _ _ _ _ (by omega) (by omega) (by omega) (by omega) (by omega) (by omega))))); clear hK K)
    | (refine wpLex_new (by rfl) ?_; simp only [Act.put, List.setIfInBounds_toArray, List.set_cons_zero, List.set_cons_succ]))
  refine wpLex_nil ?_
  intro b u hb hk
  simp only [Act.put, List.setIfInBounds_toArray, List.set_cons_zero, List.set_cons_succ]
  have e0 : (on u).cell? ⟨b, 0, none⟩ = some (.int .i64 0) := held_cell hk 0
  have e1 : (on u).cell? ⟨b, 1, none⟩ = some (.int .i64 0) := held_cell hk 1
  have f0 : (on u).frozen? ⟨b, 0, none⟩ = false := held_free hk 0
  have f1 : (on u).frozen? ⟨b, 1, none⟩ = false := held_free hk 1
  have hs := st2_eq u hb
  have c0 := st2_c0 hb hk
  have c1 := st2_c1 hb hk
  clear hk
  go_wp2_with fail
  clear e0 e1 f0 f1 hs
  have Q : Hid ((-1) * c + (1) * d < -4096 ∨ 4096 < (-1) * c + (1) * d) := (by have := H.out; show (-1) * c + (1) * d < -4096 ∨ 4096 < (-1) * c + (1) * d; omega)
  refine region_tail 10 (by kernel_rfl) (by kernel_rfl) ?_
  simp only [List.take_succ_cons, List.take_zero, List.drop_succ_cons, List.drop_zero]
  repeat (first
    | (refine wpLex_plain (by rfl) (by rfl) (by rfl) (fun K hK => ?_); go_big_quiet_op; refine hK _ ?_; clear hK K)
    | (refine wpLex_call (by rfl) (by rfl) (fun K hK => ?_); go_simp; apply Exists.intro; refine ⟨fun _ => ?_, hK _ ?_⟩; ((first | (go_at_call 46; with_reducible exact Calls.laterL (way_1 _)) | (go_at_call 72; with_reducible exact Calls.laterL (value_1 _ _ _ (by omega) (by omega) (by omega) (by omega))) | (go_at_call 47; with_reducible exact Calls.laterL (limited_bad _ _ _ (by have := Q.out; omega))))); clear hK K)
    | (refine wpLex_new (by rfl) ?_; simp only [Act.put, List.setIfInBounds_toArray, List.set_cons_zero, List.set_cons_succ]))
  refine wpLex_nil ?_
  intro u9
  go_wp2
  have hm := H.out
  exact bodyPost_ret (v := .tuple #[ln 0 0, .int .i64 3]) (by simp [results, Tryd.results12, go_sem, z3, z4, z5] <;> omega) rfl ⟨rfl, by repeat first | (with_reducible exact Below.refl _ _) | (with_reducible refine below_on ?_ _) | (with_reducible refine below_alloc ?_ _) | (with_reducible refine below_set ?_ (by simp; try omega) _) | (with_reducible refine below_drew ?_)⟩

set_option maxHeartbeats 1600000 in
theorem image_ok43 (c d : Int) (w : World) (h1 : -4096 ≤ c) (h2 : c ≤ 4096) (h3 : -4096 ≤ d) (h4 : d ≤ 4096) (m : Int) (hm : m = (0) * c + (1) * d) (hl : -4096 ≤ m) (hl2 : m ≤ 4096) : Calls Tryd.prog 12 #[ln 4 c, ln 3 d] w fun e w' => e = .returned (.tuple #[ln 3 m, .int .i64 0]) ∧ Below w.heap.size w w' := by
  have H : Hid (m = (0) * c + (1) * d) := hm
  clear hm
  go_enter Tryd.func12, Tryd.ntmps12
  go_wp2_with (first | (go_at_call 42; refine (check_ok _ _ _ (by omega) (by omega) (by omega) (by omega)).mono ?_; rintro e w1 ⟨rfl, hb1⟩; obtain ⟨u1, rfl⟩ := after hb1; clear hb1; have z1 := on_size u1; try simp only [World.size_alloc] at z1) | (go_at_call 46; refine (way_4 _).mono ?_; rintro e w3 ⟨rfl, hb3⟩; obtain ⟨u3, rfl⟩ := after hb3; have z3 : w.heap.size + 1 + 1 < (on u3).heap.size := (by have := on_size u3; omega); have z4 : w.heap.size + 1 < (on u3).heap.size := (by omega); have z5 : w.heap.size < (on u3).heap.size := (by omega); clear hb3) | fail)
  refine region_free1 13 12 8 31 _ (by kernel_rfl) (by kernel_rfl) (by kernel_rfl) alloc26 ?_
  simp only [List.take_succ_cons, List.take_zero, List.drop_succ_cons, List.drop_zero]
  repeat (first
    | (refine wpLex_plain (by rfl) (by rfl) (by rfl) (fun K hK => ?_); go_big_quiet_op; refine hK _ ?_; clear hK K)
    | (refine wpLex_call (by rfl) (by rfl) (fun K hK => ?_); go_simp; apply Exists.intro; refine ⟨fun _ => ?_, hK _ ?_⟩; ((first | (go_at_call 46; with_reducible exact Calls.laterL (way_3 _)) | (go_at_call 80; with_reducible exact Calls.laterL (point_3 _ _)) | (go_at_call 82; with_reducible exact Calls.laterL (mirror_4 _ _ _ _ (by omega) (by omega) (by omega) (by omega) (by omega) (by omega))))); clear hK K)
    | (refine wpLex_new (by rfl) ?_; simp only [Act.put, List.setIfInBounds_toArray, List.set_cons_zero, List.set_cons_succ]))
  refine wpLex_nil ?_
  intro b u hb hk
  simp only [Act.put, List.setIfInBounds_toArray, List.set_cons_zero, List.set_cons_succ]
  have e0 : (on u).cell? ⟨b, 0, none⟩ = some (.int .i64 0) := held_cell hk 0
  have e1 : (on u).cell? ⟨b, 1, none⟩ = some (.int .i64 0) := held_cell hk 1
  have f0 : (on u).frozen? ⟨b, 0, none⟩ = false := held_free hk 0
  have f1 : (on u).frozen? ⟨b, 1, none⟩ = false := held_free hk 1
  have hs := st2_eq u hb
  have c0 := st2_c0 hb hk
  have c1 := st2_c1 hb hk
  clear hk
  go_wp2_with fail
  clear e0 e1 f0 f1 hs
  have q1 : -4096 ≤ (0) * c + (1) * d := (by have := H.out; omega)
  have q2 : (0) * c + (1) * d ≤ 4096 := (by have := H.out; omega)
  refine region_tail 10 (by kernel_rfl) (by kernel_rfl) ?_
  simp only [List.take_succ_cons, List.take_zero, List.drop_succ_cons, List.drop_zero]
  repeat (first
    | (refine wpLex_plain (by rfl) (by rfl) (by rfl) (fun K hK => ?_); go_big_quiet_op; refine hK _ ?_; clear hK K)
    | (refine wpLex_call (by rfl) (by rfl) (fun K hK => ?_); go_simp; apply Exists.intro; refine ⟨fun _ => ?_, hK _ ?_⟩; ((first | (go_at_call 46; with_reducible exact Calls.laterL (way_3 _)) | (go_at_call 78; with_reducible exact Calls.laterL (value_3 _ _ _ (by omega) (by omega) (by omega) (by omega))) | (go_at_call 47; with_reducible exact Calls.laterL (limited_ok _ _ _ (by omega) (by omega))))); clear hK K)
    | (refine wpLex_new (by rfl) ?_; simp only [Act.put, List.setIfInBounds_toArray, List.set_cons_zero, List.set_cons_succ]))
  refine wpLex_nil ?_
  intro u9
  go_wp2
  have hm := H.out
  exact bodyPost_ret (v := .tuple #[ln 3 m, .int .i64 0]) (by simp [results, Tryd.results12, go_sem, z3, z4, z5] <;> omega) rfl ⟨rfl, by repeat first | (with_reducible exact Below.refl _ _) | (with_reducible refine below_on ?_ _) | (with_reducible refine below_alloc ?_ _) | (with_reducible refine below_set ?_ (by simp; try omega) _) | (with_reducible refine below_drew ?_)⟩

set_option maxHeartbeats 1600000 in
theorem image_far43 (c d : Int) (w : World) (h1 : -4096 ≤ c) (h2 : c ≤ 4096) (h3 : -4096 ≤ d) (h4 : d ≤ 4096) (m : Int) (hm : m = (0) * c + (1) * d) (hl : m < -4096 ∨ 4096 < m) : Calls Tryd.prog 12 #[ln 4 c, ln 3 d] w fun e w' => e = .returned (.tuple #[ln 0 0, .int .i64 3]) ∧ Below w.heap.size w w' := by
  have H : Hid (m = (0) * c + (1) * d) := hm
  clear hm
  go_enter Tryd.func12, Tryd.ntmps12
  go_wp2_with (first | (go_at_call 42; refine (check_ok _ _ _ (by omega) (by omega) (by omega) (by omega)).mono ?_; rintro e w1 ⟨rfl, hb1⟩; obtain ⟨u1, rfl⟩ := after hb1; clear hb1; have z1 := on_size u1; try simp only [World.size_alloc] at z1) | (go_at_call 46; refine (way_4 _).mono ?_; rintro e w3 ⟨rfl, hb3⟩; obtain ⟨u3, rfl⟩ := after hb3; have z3 : w.heap.size + 1 + 1 < (on u3).heap.size := (by have := on_size u3; omega); have z4 : w.heap.size + 1 < (on u3).heap.size := (by omega); have z5 : w.heap.size < (on u3).heap.size := (by omega); clear hb3) | fail)
  refine region_free1 13 12 8 31 _ (by kernel_rfl) (by kernel_rfl) (by kernel_rfl) alloc26 ?_
  simp only [List.take_succ_cons, List.take_zero, List.drop_succ_cons, List.drop_zero]
  repeat (first
    | (refine wpLex_plain (by rfl) (by rfl) (by rfl) (fun K hK => ?_); go_big_quiet_op; refine hK _ ?_; clear hK K)
    | (refine wpLex_call (by rfl) (by rfl) (fun K hK => ?_); go_simp; apply Exists.intro; refine ⟨fun _ => ?_, hK _ ?_⟩; ((first | (go_at_call 46; with_reducible exact Calls.laterL (way_3 _)) | (go_at_call 80; with_reducible exact Calls.laterL (point_3 _ _)) | (go_at_call 82; with_reducible exact Calls.laterL (mirror_4 _ _ _ _ (by omega) (by omega) (by omega) (by omega) (by omega) (by omega))))); clear hK K)
    | (refine wpLex_new (by rfl) ?_; simp only [Act.put, List.setIfInBounds_toArray, List.set_cons_zero, List.set_cons_succ]))
  refine wpLex_nil ?_
  intro b u hb hk
  simp only [Act.put, List.setIfInBounds_toArray, List.set_cons_zero, List.set_cons_succ]
  have e0 : (on u).cell? ⟨b, 0, none⟩ = some (.int .i64 0) := held_cell hk 0
  have e1 : (on u).cell? ⟨b, 1, none⟩ = some (.int .i64 0) := held_cell hk 1
  have f0 : (on u).frozen? ⟨b, 0, none⟩ = false := held_free hk 0
  have f1 : (on u).frozen? ⟨b, 1, none⟩ = false := held_free hk 1
  have hs := st2_eq u hb
  have c0 := st2_c0 hb hk
  have c1 := st2_c1 hb hk
  clear hk
  go_wp2_with fail
  clear e0 e1 f0 f1 hs
  have Q : Hid ((0) * c + (1) * d < -4096 ∨ 4096 < (0) * c + (1) * d) := (by have := H.out; show (0) * c + (1) * d < -4096 ∨ 4096 < (0) * c + (1) * d; omega)
  refine region_tail 10 (by kernel_rfl) (by kernel_rfl) ?_
  simp only [List.take_succ_cons, List.take_zero, List.drop_succ_cons, List.drop_zero]
  repeat (first
    | (refine wpLex_plain (by rfl) (by rfl) (by rfl) (fun K hK => ?_); go_big_quiet_op; refine hK _ ?_; clear hK K)
    | (refine wpLex_call (by rfl) (by rfl) (fun K hK => ?_); go_simp; apply Exists.intro; refine ⟨fun _ => ?_, hK _ ?_⟩; ((first | (go_at_call 46; with_reducible exact Calls.laterL (way_3 _)) | (go_at_call 78; with_reducible exact Calls.laterL (value_3 _ _ _ (by omega) (by omega) (by omega) (by omega))) | (go_at_call 47; with_reducible exact Calls.laterL (limited_bad _ _ _ (by have := Q.out; omega))))); clear hK K)
    | (refine wpLex_new (by rfl) ?_; simp only [Act.put, List.setIfInBounds_toArray, List.set_cons_zero, List.set_cons_succ]))
  refine wpLex_nil ?_
  intro u9
  go_wp2
  have hm := H.out
  exact bodyPost_ret (v := .tuple #[ln 0 0, .int .i64 3]) (by simp [results, Tryd.results12, go_sem, z3, z4, z5] <;> omega) rfl ⟨rfl, by repeat first | (with_reducible exact Below.refl _ _) | (with_reducible refine below_on ?_ _) | (with_reducible refine below_alloc ?_ _) | (with_reducible refine below_set ?_ (by simp; try omega) _) | (with_reducible refine below_drew ?_)⟩

set_option maxHeartbeats 1600000 in
theorem image_ok44 (c d : Int) (w : World) (h1 : -4096 ≤ c) (h2 : c ≤ 4096) (h3 : -4096 ≤ d) (h4 : d ≤ 4096) (m : Int) (hm : m = (2) * c + (-1) * d) (hl : -4096 ≤ m) (hl2 : m ≤ 4096) : Calls Tryd.prog 12 #[ln 4 c, ln 4 d] w fun e w' => e = .returned (.tuple #[ln 4 m, .int .i64 0]) ∧ Below w.heap.size w w' := by
  have H : Hid (m = (2) * c + (-1) * d) := hm
  clear hm
  go_enter Tryd.func12, Tryd.ntmps12
  go_wp2_with (first | (go_at_call 42; refine (check_ok _ _ _ (by omega) (by omega) (by omega) (by omega)).mono ?_; rintro e w1 ⟨rfl, hb1⟩; obtain ⟨u1, rfl⟩ := after hb1; clear hb1; have z1 := on_size u1; try simp only [World.size_alloc] at z1) | (go_at_call 46; refine (way_4 _).mono ?_; rintro e w3 ⟨rfl, hb3⟩; obtain ⟨u3, rfl⟩ := after hb3; have z3 : w.heap.size + 1 + 1 < (on u3).heap.size := (by have := on_size u3; omega); have z4 : w.heap.size + 1 < (on u3).heap.size := (by omega); have z5 : w.heap.size < (on u3).heap.size := (by omega); clear hb3) | fail)
  refine region_free1 13 12 8 31 _ (by kernel_rfl) (by kernel_rfl) (by kernel_rfl) alloc26 ?_
  simp only [List.take_succ_cons, List.take_zero, List.drop_succ_cons, List.drop_zero]
  repeat (first
    | (refine wpLex_plain (by rfl) (by rfl) (by rfl) (fun K hK => ?_); go_big_quiet_op; refine hK _ ?_; clear hK K)
    | (refine wpLex_call (by rfl) (by rfl) (fun K hK => ?_); go_simp; apply Exists.intro; refine ⟨fun _ => ?_, hK _ ?_⟩; ((first | (go_at_call 46; with_reducible exact Calls.laterL (way_4 _)) | (go_at_call 83; with_reducible exact Calls.laterL (point_4 _ _)) | (go_at_call 82; with_reducible exact Calls.laterL (mirror_4 _ _ _ _ (by omega) (by omega) (by omega) (by omega) (by omega) (by omega))))); clear hK K)
    | (refine wpLex_new (by rfl) ?_; simp only [Act.put, List.setIfInBounds_toArray, List.set_cons_zero, List.set_cons_succ]))
  refine wpLex_nil ?_
  intro b u hb hk
  simp only [Act.put, List.setIfInBounds_toArray, List.set_cons_zero, List.set_cons_succ]
  have e0 : (on u).cell? ⟨b, 0, none⟩ = some (.int .i64 0) := held_cell hk 0
  have e1 : (on u).cell? ⟨b, 1, none⟩ = some (.int .i64 0) := held_cell hk 1
  have f0 : (on u).frozen? ⟨b, 0, none⟩ = false := held_free hk 0
  have f1 : (on u).frozen? ⟨b, 1, none⟩ = false := held_free hk 1
  have hs := st2_eq u hb
  have c0 := st2_c0 hb hk
  have c1 := st2_c1 hb hk
  clear hk
  go_wp2_with fail
  clear e0 e1 f0 f1 hs
  have q1 : -4096 ≤ (2) * c + (-1) * d := (by have := H.out; omega)
  have q2 : (2) * c + (-1) * d ≤ 4096 := (by have := H.out; omega)
  refine region_tail 10 (by kernel_rfl) (by kernel_rfl) ?_
  simp only [List.take_succ_cons, List.take_zero, List.drop_succ_cons, List.drop_zero]
  repeat (first
    | (refine wpLex_plain (by rfl) (by rfl) (by rfl) (fun K hK => ?_); go_big_quiet_op; refine hK _ ?_; clear hK K)
    | (refine wpLex_call (by rfl) (by rfl) (fun K hK => ?_); go_simp; apply Exists.intro; refine ⟨fun _ => ?_, hK _ ?_⟩; ((first | (go_at_call 46; with_reducible exact Calls.laterL (way_4 _)) | (go_at_call 81; with_reducible exact Calls.laterL (value_4 _ _ _ (by omega) (by omega) (by omega) (by omega))) | (go_at_call 47; with_reducible exact Calls.laterL (limited_ok _ _ _ (by omega) (by omega))))); clear hK K)
    | (refine wpLex_new (by rfl) ?_; simp only [Act.put, List.setIfInBounds_toArray, List.set_cons_zero, List.set_cons_succ]))
  refine wpLex_nil ?_
  intro u9
  go_wp2
  have hm := H.out
  exact bodyPost_ret (v := .tuple #[ln 4 m, .int .i64 0]) (by simp [results, Tryd.results12, go_sem, z3, z4, z5] <;> omega) rfl ⟨rfl, by repeat first | (with_reducible exact Below.refl _ _) | (with_reducible refine below_on ?_ _) | (with_reducible refine below_alloc ?_ _) | (with_reducible refine below_set ?_ (by simp; try omega) _) | (with_reducible refine below_drew ?_)⟩

set_option maxHeartbeats 1600000 in
theorem image_far44 (c d : Int) (w : World) (h1 : -4096 ≤ c) (h2 : c ≤ 4096) (h3 : -4096 ≤ d) (h4 : d ≤ 4096) (m : Int) (hm : m = (2) * c + (-1) * d) (hl : m < -4096 ∨ 4096 < m) : Calls Tryd.prog 12 #[ln 4 c, ln 4 d] w fun e w' => e = .returned (.tuple #[ln 0 0, .int .i64 3]) ∧ Below w.heap.size w w' := by
  have H : Hid (m = (2) * c + (-1) * d) := hm
  clear hm
  go_enter Tryd.func12, Tryd.ntmps12
  go_wp2_with (first | (go_at_call 42; refine (check_ok _ _ _ (by omega) (by omega) (by omega) (by omega)).mono ?_; rintro e w1 ⟨rfl, hb1⟩; obtain ⟨u1, rfl⟩ := after hb1; clear hb1; have z1 := on_size u1; try simp only [World.size_alloc] at z1) | (go_at_call 46; refine (way_4 _).mono ?_; rintro e w3 ⟨rfl, hb3⟩; obtain ⟨u3, rfl⟩ := after hb3; have z3 : w.heap.size + 1 + 1 < (on u3).heap.size := (by have := on_size u3; omega); have z4 : w.heap.size + 1 < (on u3).heap.size := (by omega); have z5 : w.heap.size < (on u3).heap.size := (by omega); clear hb3) | fail)
  refine region_free1 13 12 8 31 _ (by kernel_rfl) (by kernel_rfl) (by kernel_rfl) alloc26 ?_
  simp only [List.take_succ_cons, List.take_zero, List.drop_succ_cons, List.drop_zero]
  repeat (first
    | (refine wpLex_plain (by rfl) (by rfl) (by rfl) (fun K hK => ?_); go_big_quiet_op; refine hK _ ?_; clear hK K)
    | (refine wpLex_call (by rfl) (by rfl) (fun K hK => ?_); go_simp; apply Exists.intro; refine ⟨fun _ => ?_, hK _ ?_⟩; ((first | (go_at_call 46; with_reducible exact Calls.laterL (way_4 _)) | (go_at_call 83; with_reducible exact Calls.laterL (point_4 _ _)) | (go_at_call 82; with_reducible exact Calls.laterL (mirror_4 _ _ _ _ (by omega) (by omega) (by omega) (by omega) (by omega) (by omega))))); clear hK K)
    | (refine wpLex_new (by rfl) ?_; simp only [Act.put, List.setIfInBounds_toArray, List.set_cons_zero, List.set_cons_succ]))
  refine wpLex_nil ?_
  intro b u hb hk
  simp only [Act.put, List.setIfInBounds_toArray, List.set_cons_zero, List.set_cons_succ]
  have e0 : (on u).cell? ⟨b, 0, none⟩ = some (.int .i64 0) := held_cell hk 0
  have e1 : (on u).cell? ⟨b, 1, none⟩ = some (.int .i64 0) := held_cell hk 1
  have f0 : (on u).frozen? ⟨b, 0, none⟩ = false := held_free hk 0
  have f1 : (on u).frozen? ⟨b, 1, none⟩ = false := held_free hk 1
  have hs := st2_eq u hb
  have c0 := st2_c0 hb hk
  have c1 := st2_c1 hb hk
  clear hk
  go_wp2_with fail
  clear e0 e1 f0 f1 hs
  have Q : Hid ((2) * c + (-1) * d < -4096 ∨ 4096 < (2) * c + (-1) * d) := (by have := H.out; show (2) * c + (-1) * d < -4096 ∨ 4096 < (2) * c + (-1) * d; omega)
  refine region_tail 10 (by kernel_rfl) (by kernel_rfl) ?_
  simp only [List.take_succ_cons, List.take_zero, List.drop_succ_cons, List.drop_zero]
  repeat (first
    | (refine wpLex_plain (by rfl) (by rfl) (by rfl) (fun K hK => ?_); go_big_quiet_op; refine hK _ ?_; clear hK K)
    | (refine wpLex_call (by rfl) (by rfl) (fun K hK => ?_); go_simp; apply Exists.intro; refine ⟨fun _ => ?_, hK _ ?_⟩; ((first | (go_at_call 46; with_reducible exact Calls.laterL (way_4 _)) | (go_at_call 81; with_reducible exact Calls.laterL (value_4 _ _ _ (by omega) (by omega) (by omega) (by omega))) | (go_at_call 47; with_reducible exact Calls.laterL (limited_bad _ _ _ (by have := Q.out; omega))))); clear hK K)
    | (refine wpLex_new (by rfl) ?_; simp only [Act.put, List.setIfInBounds_toArray, List.set_cons_zero, List.set_cons_succ]))
  refine wpLex_nil ?_
  intro u9
  go_wp2
  have hm := H.out
  exact bodyPost_ret (v := .tuple #[ln 0 0, .int .i64 3]) (by simp [results, Tryd.results12, go_sem, z3, z4, z5] <;> omega) rfl ⟨rfl, by repeat first | (with_reducible exact Below.refl _ _) | (with_reducible refine below_on ?_ _) | (with_reducible refine below_alloc ?_ _) | (with_reducible refine below_set ?_ (by simp; try omega) _) | (with_reducible refine below_drew ?_)⟩

end Go.Proofs.YtbcmfenekpllhaaDoor
