/-
  Says: what On of the reference gives: two points of a line.
-/
import Derived.Test.YtbcmfenekpllhaaGreatDoorRfA
set_option linter.unusedVariables false
set_option linter.unusedSimpArgs false
namespace Go.Proofs.YtbcmfenekpllhaaGreatDoor
open Go Go.RowKit

set_option maxHeartbeats 400000 in
theorem on_1 (c : Int) (w : World) (h5 : -4096 ≤ c) (h6 : c ≤ 4096) : Calls Tryz.prog 36 #[ln 1 c] w fun e w' => e = .returned (.tuple #[pt (2 * c) (0), pt (2 * c) (2)]) ∧ Below w.heap.size w w' := by
  go_enter Tryz.func36, Tryz.ntmps36
  go_wp2_with (first | (go_at_call 38; refine (across_1 _).mono ?_; rintro e w1 ⟨rfl, rfl⟩) | fail)
  go_region
  go_wp2
  exact bodyPost_ret (v := .tuple #[pt (2 * c) (0), pt (2 * c) (2)]) (by simp [results, Tryz.results36, go_sem] <;> omega) rfl ⟨rfl, by repeat first | (with_reducible exact Below.refl _ _) | (with_reducible refine below_on ?_ _) | (with_reducible refine below_alloc ?_ _) | (with_reducible refine below_set ?_ (by simp; try omega) _) | (with_reducible refine below_drew ?_)⟩

set_option maxHeartbeats 400000 in
theorem on_2 (c : Int) (w : World) (h5 : -4096 ≤ c) (h6 : c ≤ 4096) : Calls Tryz.prog 36 #[ln 2 c] w fun e w' => e = .returned (.tuple #[pt (0) (2 * c), pt (-2) (2 * c)]) ∧ Below w.heap.size w w' := by
  go_enter Tryz.func36, Tryz.ntmps36
  go_wp2_with (first | (go_at_call 38; refine (across_2 _).mono ?_; rintro e w1 ⟨rfl, rfl⟩) | fail)
  go_region
  go_wp2
  exact bodyPost_ret (v := .tuple #[pt (0) (2 * c), pt (-2) (2 * c)]) (by simp [results, Tryz.results36, go_sem] <;> omega) rfl ⟨rfl, by repeat first | (with_reducible exact Below.refl _ _) | (with_reducible refine below_on ?_ _) | (with_reducible refine below_alloc ?_ _) | (with_reducible refine below_set ?_ (by simp; try omega) _) | (with_reducible refine below_drew ?_)⟩

set_option maxHeartbeats 400000 in
theorem on_3 (c : Int) (w : World) (h5 : -4096 ≤ c) (h6 : c ≤ 4096) : Calls Tryz.prog 36 #[ln 3 c] w fun e w' => e = .returned (.tuple #[pt (c) (c), pt (c - 2) (c + 2)]) ∧ Below w.heap.size w w' := by
  go_enter Tryz.func36, Tryz.ntmps36
  go_wp2_with (first | (go_at_call 38; refine (across_3 _).mono ?_; rintro e w1 ⟨rfl, rfl⟩) | fail)
  go_region
  go_wp2
  exact bodyPost_ret (v := .tuple #[pt (c) (c), pt (c - 2) (c + 2)]) (by simp [results, Tryz.results36, go_sem] <;> omega) rfl ⟨rfl, by repeat first | (with_reducible exact Below.refl _ _) | (with_reducible refine below_on ?_ _) | (with_reducible refine below_alloc ?_ _) | (with_reducible refine below_set ?_ (by simp; try omega) _) | (with_reducible refine below_drew ?_)⟩

set_option maxHeartbeats 400000 in
theorem on_4 (c : Int) (w : World) (h5 : -4096 ≤ c) (h6 : c ≤ 4096) : Calls Tryz.prog 36 #[ln 4 c] w fun e w' => e = .returned (.tuple #[pt (-c) (c), pt (-c - 2) (c - 2)]) ∧ Below w.heap.size w w' := by
  go_enter Tryz.func36, Tryz.ntmps36
  go_wp2_with (first | (go_at_call 38; refine (across_4 _).mono ?_; rintro e w1 ⟨rfl, rfl⟩) | fail)
  go_region
  go_wp2
  exact bodyPost_ret (v := .tuple #[pt (-c) (c), pt (-c - 2) (c - 2)]) (by simp [results, Tryz.results36, go_sem] <;> omega) rfl ⟨rfl, by repeat first | (with_reducible exact Below.refl _ _) | (with_reducible refine below_on ?_ _) | (with_reducible refine below_alloc ?_ _) | (with_reducible refine below_set ?_ (by simp; try omega) _) | (with_reducible refine below_drew ?_)⟩

end Go.Proofs.YtbcmfenekpllhaaGreatDoor
