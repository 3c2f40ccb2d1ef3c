/-
  Says: what the calls of the chapter's examples give.
-/
import Derived.Test.YtbcmfenekpllhaaDoorMv5
import Derived.Test.YtbcmfenekpllhaaDoorMv6
import Derived.Test.YtbcmfenekpllhaaDoorMv7ok2
import Derived.Test.YtbcmfenekpllhaaDoorMv7ok4
import Derived.Test.YtbcmfenekpllhaaDoorMv10
import Derived.Test.YtbcmfenekpllhaaDoorMvz
import Derived.Deep.RegionHeld3
import Derived.RowKit3
set_option linter.unusedVariables false
set_option linter.unusedSimpArgs false
namespace Go.Proofs.YtbcmfenekpllhaaDoor
open Go Go.RowKit

attribute [local go_sem] World.cell?_alloc_some frozen?_alloc_cells fz0 fz1 fz2 fz3 fz4 fz5

theorem move_any (t X Y : Int) (w : World) : Calls Tryd.prog 58 #[.int .u8 t, .int .i64 X, .int .i64 Y] w fun e w' => e = .returned (mv t X Y) ∧ Below w.heap.size w w' := by
  go_enter Tryd.func58, Tryd.ntmps58
  go_wp2
  exact bodyPost_ret (v := mv t X Y) (by simp [results, Tryd.results58, go_sem]) rfl ⟨rfl, (by repeat first | (with_reducible exact Below.refl _ _) | (with_reducible refine below_on ?_ _) | (with_reducible refine below_alloc ?_ _) | (with_reducible refine below_set ?_ (by simp; try omega) _))⟩

set_option maxRecDepth 100000 in
set_option maxHeartbeats 2000000 in
theorem in_13 (w : World) : Calls Tryd.prog 57 #[.int .u8 1, .int .i64 3] w fun e w' => e = .returned (mv 4 (6) 0) ∧ Below w.heap.size w w' := by
  have M : ∀ W, Calls Tryd.prog 27 #[ln 1 3] W fun e w' => e = .returned (.tuple #[mv 4 (6) 0, .int .i64 0]) ∧ Below W.heap.size W w' := fun W => mof_1 3 W (by omega) (by omega)
  go_enter Tryd.func57, Tryd.ntmps57
  go_wp2_with (first | (go_at_call 27; with_reducible refine (M _).mono ?_; rintro e wx ⟨rfl, hx⟩; obtain ⟨ux, rfl⟩ := after hx; clear hx) | fail)
  exact bodyPost_ret (v := mv 4 (6) 0) (by simp [results, Tryd.results57, go_sem]) rfl ⟨rfl, (by repeat first | (with_reducible exact Below.refl _ _) | (with_reducible refine below_on ?_ _) | (with_reducible refine below_alloc ?_ _) | (with_reducible refine below_set ?_ (by simp; try omega) _))⟩

set_option maxRecDepth 100000 in
set_option maxHeartbeats 2000000 in
theorem in_23 (w : World) : Calls Tryd.prog 57 #[.int .u8 2, .int .i64 3] w fun e w' => e = .returned (mv 6 (0) 6) ∧ Below w.heap.size w w' := by
  have M : ∀ W, Calls Tryd.prog 27 #[ln 2 3] W fun e w' => e = .returned (.tuple #[mv 6 (0) 6, .int .i64 0]) ∧ Below W.heap.size W w' := fun W => mof_2 3 W (by omega) (by omega)
  go_enter Tryd.func57, Tryd.ntmps57
  go_wp2_with (first | (go_at_call 27; with_reducible refine (M _).mono ?_; rintro e wx ⟨rfl, hx⟩; obtain ⟨ux, rfl⟩ := after hx; clear hx) | fail)
  exact bodyPost_ret (v := mv 6 (0) 6) (by simp [results, Tryd.results57, go_sem]) rfl ⟨rfl, (by repeat first | (with_reducible exact Below.refl _ _) | (with_reducible refine below_on ?_ _) | (with_reducible refine below_alloc ?_ _) | (with_reducible refine below_set ?_ (by simp; try omega) _))⟩

set_option maxRecDepth 100000 in
set_option maxHeartbeats 2000000 in
theorem in_33 (w : World) : Calls Tryd.prog 57 #[.int .u8 3, .int .i64 3] w fun e w' => e = .returned (mv 5 (3) 3) ∧ Below w.heap.size w w' := by
  have M : ∀ W, Calls Tryd.prog 27 #[ln 3 3] W fun e w' => e = .returned (.tuple #[mv 5 (3) 3, .int .i64 0]) ∧ Below W.heap.size W w' := fun W => mof_3 3 W (by omega) (by omega)
  go_enter Tryd.func57, Tryd.ntmps57
  go_wp2_with (first | (go_at_call 27; with_reducible refine (M _).mono ?_; rintro e wx ⟨rfl, hx⟩; obtain ⟨ux, rfl⟩ := after hx; clear hx) | fail)
  exact bodyPost_ret (v := mv 5 (3) 3) (by simp [results, Tryd.results57, go_sem]) rfl ⟨rfl, (by repeat first | (with_reducible exact Below.refl _ _) | (with_reducible refine below_on ?_ _) | (with_reducible refine below_alloc ?_ _) | (with_reducible refine below_set ?_ (by simp; try omega) _))⟩

set_option maxRecDepth 100000 in
set_option maxHeartbeats 2000000 in
theorem in_43 (w : World) : Calls Tryd.prog 57 #[.int .u8 4, .int .i64 3] w fun e w' => e = .returned (mv 7 (-3) 3) ∧ Below w.heap.size w w' := by
  have M : ∀ W, Calls Tryd.prog 27 #[ln 4 3] W fun e w' => e = .returned (.tuple #[mv 7 (-3) 3, .int .i64 0]) ∧ Below W.heap.size W w' := fun W => mof_4 3 W (by omega) (by omega)
  go_enter Tryd.func57, Tryd.ntmps57
  go_wp2_with (first | (go_at_call 27; with_reducible refine (M _).mono ?_; rintro e wx ⟨rfl, hx⟩; obtain ⟨ux, rfl⟩ := after hx; clear hx) | fail)
  exact bodyPost_ret (v := mv 7 (-3) 3) (by simp [results, Tryd.results57, go_sem]) rfl ⟨rfl, (by repeat first | (with_reducible exact Below.refl _ _) | (with_reducible refine below_on ?_ _) | (with_reducible refine below_alloc ?_ _) | (with_reducible refine below_set ?_ (by simp; try omega) _))⟩

set_option maxRecDepth 100000 in
set_option maxHeartbeats 2000000 in
theorem in_10 (w : World) : Calls Tryd.prog 57 #[.int .u8 1, .int .i64 0] w fun e w' => e = .returned (mv 4 (0) 0) ∧ Below w.heap.size w w' := by
  have M : ∀ W, Calls Tryd.prog 27 #[ln 1 0] W fun e w' => e = .returned (.tuple #[mv 4 (0) 0, .int .i64 0]) ∧ Below W.heap.size W w' := fun W => mof_1 0 W (by omega) (by omega)
  go_enter Tryd.func57, Tryd.ntmps57
  go_wp2_with (first | (go_at_call 27; with_reducible refine (M _).mono ?_; rintro e wx ⟨rfl, hx⟩; obtain ⟨ux, rfl⟩ := after hx; clear hx) | fail)
  exact bodyPost_ret (v := mv 4 (0) 0) (by simp [results, Tryd.results57, go_sem]) rfl ⟨rfl, (by repeat first | (with_reducible exact Below.refl _ _) | (with_reducible refine below_on ?_ _) | (with_reducible refine below_alloc ?_ _) | (with_reducible refine below_set ?_ (by simp; try omega) _))⟩

set_option maxRecDepth 100000 in
set_option maxHeartbeats 2000000 in
theorem in_12 (w : World) : Calls Tryd.prog 57 #[.int .u8 1, .int .i64 2] w fun e w' => e = .returned (mv 4 (4) 0) ∧ Below w.heap.size w w' := by
  have M : ∀ W, Calls Tryd.prog 27 #[ln 1 2] W fun e w' => e = .returned (.tuple #[mv 4 (4) 0, .int .i64 0]) ∧ Below W.heap.size W w' := fun W => mof_1 2 W (by omega) (by omega)
  go_enter Tryd.func57, Tryd.ntmps57
  go_wp2_with (first | (go_at_call 27; with_reducible refine (M _).mono ?_; rintro e wx ⟨rfl, hx⟩; obtain ⟨ux, rfl⟩ := after hx; clear hx) | fail)
  exact bodyPost_ret (v := mv 4 (4) 0) (by simp [results, Tryd.results57, go_sem]) rfl ⟨rfl, (by repeat first | (with_reducible exact Below.refl _ _) | (with_reducible refine below_on ?_ _) | (with_reducible refine below_alloc ?_ _) | (with_reducible refine below_set ?_ (by simp; try omega) _))⟩

set_option maxRecDepth 100000 in
set_option maxHeartbeats 2000000 in
theorem in_20 (w : World) : Calls Tryd.prog 57 #[.int .u8 2, .int .i64 0] w fun e w' => e = .returned (mv 6 (0) 0) ∧ Below w.heap.size w w' := by
  have M : ∀ W, Calls Tryd.prog 27 #[ln 2 0] W fun e w' => e = .returned (.tuple #[mv 6 (0) 0, .int .i64 0]) ∧ Below W.heap.size W w' := fun W => mof_2 0 W (by omega) (by omega)
  go_enter Tryd.func57, Tryd.ntmps57
  go_wp2_with (first | (go_at_call 27; with_reducible refine (M _).mono ?_; rintro e wx ⟨rfl, hx⟩; obtain ⟨ux, rfl⟩ := after hx; clear hx) | fail)
  exact bodyPost_ret (v := mv 6 (0) 0) (by simp [results, Tryd.results57, go_sem]) rfl ⟨rfl, (by repeat first | (with_reducible exact Below.refl _ _) | (with_reducible refine below_on ?_ _) | (with_reducible refine below_alloc ?_ _) | (with_reducible refine below_set ?_ (by simp; try omega) _))⟩

set_option maxRecDepth 100000 in
set_option maxHeartbeats 2000000 in
theorem in_30 (w : World) : Calls Tryd.prog 57 #[.int .u8 3, .int .i64 0] w fun e w' => e = .returned (mv 5 (0) 0) ∧ Below w.heap.size w w' := by
  have M : ∀ W, Calls Tryd.prog 27 #[ln 3 0] W fun e w' => e = .returned (.tuple #[mv 5 (0) 0, .int .i64 0]) ∧ Below W.heap.size W w' := fun W => mof_3 0 W (by omega) (by omega)
  go_enter Tryd.func57, Tryd.ntmps57
  go_wp2_with (first | (go_at_call 27; with_reducible refine (M _).mono ?_; rintro e wx ⟨rfl, hx⟩; obtain ⟨ux, rfl⟩ := after hx; clear hx) | fail)
  exact bodyPost_ret (v := mv 5 (0) 0) (by simp [results, Tryd.results57, go_sem]) rfl ⟨rfl, (by repeat first | (with_reducible exact Below.refl _ _) | (with_reducible refine below_on ?_ _) | (with_reducible refine below_alloc ?_ _) | (with_reducible refine below_set ?_ (by simp; try omega) _))⟩
theorem liv_c1 (W : World) (hS : Std W) : Calls Tryd.prog 30 #[mv 4 0 0, mv 4 4 0] W fun e w' => e = .returned (.tuple #[mv 0 4 0, .int .i64 0]) ∧ Below W.heap.size W w' := then_ok 4 0 0 4 4 0 W hS.turns (by omega) (by omega) (by omega) (by omega) (by omega) (by omega) (by omega) (by omega) (by omega) (by omega) (by omega) (by omega) (by omega) (by omega) (by decide) (by decide) (by decide) (by decide)
theorem liv_c2 (W : World) (hS : Std W) : Calls Tryd.prog 30 #[mv 4 0 0, mv 6 0 0] W fun e w' => e = .returned (.tuple #[mv 2 0 0, .int .i64 0]) ∧ Below W.heap.size W w' := then_ok 4 0 0 6 0 0 W hS.turns (by omega) (by omega) (by omega) (by omega) (by omega) (by omega) (by omega) (by omega) (by omega) (by omega) (by omega) (by omega) (by omega) (by omega) (by decide) (by decide) (by decide) (by decide)
theorem liv_c3 (W : World) (hS : Std W) : Calls Tryd.prog 30 #[mv 4 0 0, mv 5 0 0] W fun e w' => e = .returned (.tuple #[mv 1 0 0, .int .i64 0]) ∧ Below W.heap.size W w' := then_ok 4 0 0 5 0 0 W hS.turns (by omega) (by omega) (by omega) (by omega) (by omega) (by omega) (by omega) (by omega) (by omega) (by omega) (by omega) (by omega) (by omega) (by omega) (by decide) (by decide) (by decide) (by decide)
theorem liv_c4 (W : World) (hS : Std W) : Calls Tryd.prog 37 #[mv 1 2 4] W fun e w' => e = .returned (.tuple #[mv 3 (-4) 2, .int .i64 0]) ∧ Below W.heap.size W w' := inverse_ok 1 2 4 W hS.turns (by omega) (by omega) (by omega) (by omega) (by omega) (by omega) (by omega)
theorem liv_c5 (W : World) (hS : Std W) : Calls Tryd.prog 29 #[mv 1 2 4, pt 3 1] W fun e w' => e = .returned (.tuple #[pt 3 11, .int .i64 0]) ∧ Below W.heap.size W w' := mpoint_ok 1 2 4 3 1 W hS.turns (by omega) (by omega) (by omega) (by omega) (by omega) (by omega) (by omega) (by omega) (by omega) (by omega) (by omega) (by decide) (by decide) (by decide) (by decide)
theorem liv_c6 (W : World) (hS : Std W) : Calls Tryd.prog 59 #[mv 1 2 4, ln 1 1] W fun e w' => e = .returned (.tuple #[ln 2 5, .int .i64 0]) ∧ Below W.heap.size W w' := line_ok2 1 2 4 1 1 2 5 1 5 W hS.turns (by omega) (by omega) (by omega) (by omega) (by omega) (by omega) (by omega) (by omega) (by omega) (by omega) (by omega) (by decide) (by decide) (by decide) (by decide) (by omega) (by omega) (by omega) (by omega) (by omega) (by omega)
theorem liv_c7 (W : World) (hS : Std W) : Calls Tryd.prog 59 #[mv 1 2 4, ln 3 1] W fun e w' => e = .returned (.tuple #[ln 4 3, .int .i64 0]) ∧ Below W.heap.size W w' := line_ok4 1 2 4 3 1 1 4 2 5 W hS.turns (by omega) (by omega) (by omega) (by omega) (by omega) (by omega) (by omega) (by omega) (by omega) (by omega) (by omega) (by decide) (by decide) (by decide) (by decide) (by omega) (by omega) (by omega) (by omega) (by omega) (by omega)
theorem liv_c8 (W : World) (hS : Std W) : Calls Tryd.prog 44 #[.string ⟨#[48, 32, 49, 32, 48]⟩] W fun e w' => e = .returned (.tuple #[mv 0 0 0, .int .i64 4]) ∧ Below W.heap.size W w' := mparse_k W hS
theorem liv_c9 (W : World) (hS : Std W) : Calls Tryd.prog 30 #[mv 0 16384 0, mv 0 2 0] W fun e w' => e = .returned (.tuple #[mv 0 0 0, .int .i64 3]) ∧ Below W.heap.size W w' := then_far 0 16384 0 0 2 0 W hS.turns (by omega) (by omega) (by omega) (by omega) (by omega) (by omega) (by omega) (by omega) (by omega) (by omega) (by omega) (by omega) (by omega) (by omega) (by decide)

end Go.Proofs.YtbcmfenekpllhaaDoor
