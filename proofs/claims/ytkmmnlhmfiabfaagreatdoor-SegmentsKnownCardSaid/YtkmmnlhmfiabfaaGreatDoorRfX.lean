/-
  Says: what Text of the reference gives for every line.
-/
import Derived.Test.YtkmmnlhmfiabfaaGreatDoorFnK
set_option linter.unusedVariables false
set_option linter.unusedSimpArgs false
namespace Go.Proofs.YtkmmnlhmfiabfaaGreatDoor
open Go Go.RowKit

set_option maxHeartbeats 800000 in
theorem rtext_1 (c : Int) (w : World) (h1 : -4096 ≤ c) (h2 : c ≤ 4096) : Calls Tryz.prog 53 #[ln 1 c] w fun e w' => e = .returned (.string ⟨(textL 1 c).toArray⟩) ∧ Below w.heap.size w w' := by
  have hB : ∀ w, (Op.stringOp .add ⟨#[120, 32]⟩ ⟨(Lib.itoa c).toArray⟩).run Tryz.prog w = .ok (.string ⟨(textL 1 c).toArray⟩) w := fun w => by
    have := itoa_len c (by omega) (by omega)
    exact run_string_add_lists w [120, 32] (Lib.itoa c) (by simp) (by omega)
  go_enter Tryz.func53, Tryz.ntmps53
  go_wp2_with fail
  go_region_with (go_at_call 54; with_reducible refine (dec_any _ _ (by omega) (by omega)).mono ?_; rintro e w1 ⟨rfl, hb1⟩; obtain ⟨u1, rfl⟩ := after hb1; have z1 : w.heap.size < (on u1).heap.size := (by have := on_size u1; simp at this; omega); clear hb1)
  all_goals go_wp2_with fail
  all_goals go_ret
  all_goals exact ⟨rfl, by repeat first | (with_reducible exact Below.refl _ _) | (with_reducible refine below_on ?_ _) | (with_reducible refine below_alloc ?_ _) | (with_reducible refine below_set ?_ (by simp; try omega) _) | (with_reducible refine below_drew ?_)⟩

set_option maxHeartbeats 800000 in
theorem rtext_2 (c : Int) (w : World) (h1 : -4096 ≤ c) (h2 : c ≤ 4096) : Calls Tryz.prog 53 #[ln 2 c] w fun e w' => e = .returned (.string ⟨(textL 2 c).toArray⟩) ∧ Below w.heap.size w w' := by
  have hB : ∀ w, (Op.stringOp .add ⟨#[121, 32]⟩ ⟨(Lib.itoa c).toArray⟩).run Tryz.prog w = .ok (.string ⟨(textL 2 c).toArray⟩) w := fun w => by
    have := itoa_len c (by omega) (by omega)
    exact run_string_add_lists w [121, 32] (Lib.itoa c) (by simp) (by omega)
  go_enter Tryz.func53, Tryz.ntmps53
  go_wp2_with fail
  go_region_with (go_at_call 54; with_reducible refine (dec_any _ _ (by omega) (by omega)).mono ?_; rintro e w1 ⟨rfl, hb1⟩; obtain ⟨u1, rfl⟩ := after hb1; have z1 : w.heap.size < (on u1).heap.size := (by have := on_size u1; simp at this; omega); clear hb1)
  all_goals go_wp2_with fail
  all_goals go_ret
  all_goals exact ⟨rfl, by repeat first | (with_reducible exact Below.refl _ _) | (with_reducible refine below_on ?_ _) | (with_reducible refine below_alloc ?_ _) | (with_reducible refine below_set ?_ (by simp; try omega) _) | (with_reducible refine below_drew ?_)⟩

set_option maxHeartbeats 800000 in
theorem rtext_3 (c : Int) (w : World) (h1 : -4096 ≤ c) (h2 : c ≤ 4096) : Calls Tryz.prog 53 #[ln 3 c] w fun e w' => e = .returned (.string ⟨(textL 3 c).toArray⟩) ∧ Below w.heap.size w w' := by
  have hB : ∀ w, (Op.stringOp .add ⟨#[117, 32]⟩ ⟨(Lib.itoa c).toArray⟩).run Tryz.prog w = .ok (.string ⟨(textL 3 c).toArray⟩) w := fun w => by
    have := itoa_len c (by omega) (by omega)
    exact run_string_add_lists w [117, 32] (Lib.itoa c) (by simp) (by omega)
  go_enter Tryz.func53, Tryz.ntmps53
  go_wp2_with fail
  go_region_with (go_at_call 54; with_reducible refine (dec_any _ _ (by omega) (by omega)).mono ?_; rintro e w1 ⟨rfl, hb1⟩; obtain ⟨u1, rfl⟩ := after hb1; have z1 : w.heap.size < (on u1).heap.size := (by have := on_size u1; simp at this; omega); clear hb1)
  all_goals go_wp2_with fail
  all_goals go_ret
  all_goals exact ⟨rfl, by repeat first | (with_reducible exact Below.refl _ _) | (with_reducible refine below_on ?_ _) | (with_reducible refine below_alloc ?_ _) | (with_reducible refine below_set ?_ (by simp; try omega) _) | (with_reducible refine below_drew ?_)⟩

set_option maxHeartbeats 800000 in
theorem rtext_4 (c : Int) (w : World) (h1 : -4096 ≤ c) (h2 : c ≤ 4096) : Calls Tryz.prog 53 #[ln 4 c] w fun e w' => e = .returned (.string ⟨(textL 4 c).toArray⟩) ∧ Below w.heap.size w w' := by
  have hB : ∀ w, (Op.stringOp .add ⟨#[100, 32]⟩ ⟨(Lib.itoa c).toArray⟩).run Tryz.prog w = .ok (.string ⟨(textL 4 c).toArray⟩) w := fun w => by
    have := itoa_len c (by omega) (by omega)
    exact run_string_add_lists w [100, 32] (Lib.itoa c) (by simp) (by omega)
  go_enter Tryz.func53, Tryz.ntmps53
  go_wp2_with fail
  go_region_with (go_at_call 54; with_reducible refine (dec_any _ _ (by omega) (by omega)).mono ?_; rintro e w1 ⟨rfl, hb1⟩; obtain ⟨u1, rfl⟩ := after hb1; have z1 : w.heap.size < (on u1).heap.size := (by have := on_size u1; simp at this; omega); clear hb1)
  all_goals go_wp2_with fail
  all_goals go_ret
  all_goals exact ⟨rfl, by repeat first | (with_reducible exact Below.refl _ _) | (with_reducible refine below_on ?_ _) | (with_reducible refine below_alloc ?_ _) | (with_reducible refine below_set ?_ (by simp; try omega) _) | (with_reducible refine below_drew ?_)⟩

theorem rtext_ok (k c : Int) (w : World) (h1 : 1 ≤ k) (h2 : k ≤ 4) (h3 : -4096 ≤ c) (h4 : c ≤ 4096) : Calls Tryz.prog 53 #[ln k c] w fun e w' => e = .returned (.string ⟨(textL k c).toArray⟩) ∧ Below w.heap.size w w' := by
  obtain rfl | rfl | rfl | rfl : k = 1 ∨ k = 2 ∨ k = 3 ∨ k = 4 := by omega
  · exact rtext_1 c w h3 h4
  · exact rtext_2 c w h3 h4
  · exact rtext_3 c w h3 h4
  · exact rtext_4 c w h3 h4

end Go.Proofs.YtkmmnlhmfiabfaaGreatDoor
