/-
  Says: what the calls of the chapters examples give.
-/
import Derived.Test.YtbcmfenekpllhaaDoorFnP
import Derived.Test.YtbcmfenekpllhaaDoorFnS
import Derived.Test.YtbcmfenekpllhaaDoorFnR
import Derived.Test.YtbcmfenekpllhaaDoorFnI1
import Derived.Test.YtbcmfenekpllhaaDoorFnI2
import Derived.Test.YtbcmfenekpllhaaDoorFnI3
import Derived.Test.YtbcmfenekpllhaaDoorFnI4
import Derived.Test.YtbcmfenekpllhaaDoorFnM
import Derived.Test.YtbcmfenekpllhaaDoorFnT
set_option linter.unusedVariables false
set_option linter.unusedSimpArgs false
namespace Go.Proofs.YtbcmfenekpllhaaDoor
open Go Go.RowKit

theorem line_any (k c : Int) (w : World) : Calls Tryd.prog 26 #[.int .u8 k, .int .i64 c] w fun e w' => e = .returned (ln k c) ∧ Below w.heap.size w w' := by
  go_enter Tryd.func26, Tryd.ntmps26
  go_wp2
  exact bodyPost_ret (v := ln k c) (by simp [results, Tryd.results26, go_sem]) rfl ⟨rfl, by repeat first | (with_reducible exact Below.refl _ _) | (with_reducible refine below_on ?_ _) | (with_reducible refine below_alloc ?_ _) | (with_reducible refine below_set ?_ (by simp; try omega) _) | (with_reducible refine below_drew ?_)⟩
theorem point_any (x y : Int) (w : World) : Calls Tryd.prog 18 #[.int .i64 x, .int .i64 y] w fun e w' => e = .returned (pt x y) ∧ Below w.heap.size w w' := by
  go_enter Tryd.func18, Tryd.ntmps18
  go_wp2
  exact bodyPost_ret (v := pt x y) (by simp [results, Tryd.results18, go_sem]) rfl ⟨rfl, by repeat first | (with_reducible exact Below.refl _ _) | (with_reducible refine below_on ?_ _) | (with_reducible refine below_alloc ?_ _) | (with_reducible refine below_set ?_ (by simp; try omega) _) | (with_reducible refine below_drew ?_)⟩

theorem lv_s1 (w : World) : Calls Tryd.prog 48 #[ln 1 2, pt 3 9] w fun e w' => e = .returned (.int .i64 (-1)) ∧ Below w.heap.size w w' := side_low1 2 3 9 w (by omega) (by omega) (by omega) (by omega) (by omega) (by omega) (by omega)

theorem lv_s2 (w : World) : Calls Tryd.prog 48 #[ln 1 2, pt 4 0] w fun e w' => e = .returned (.int .i64 (0)) ∧ Below w.heap.size w w' := side_on1 2 4 0 w (by omega) (by omega) (by omega) (by omega) (by omega) (by omega) (by omega)

theorem lv_s3 (w : World) : Calls Tryd.prog 48 #[ln 1 2, pt 5 0] w fun e w' => e = .returned (.int .i64 (1)) ∧ Below w.heap.size w w' := side_high1 2 5 0 w (by omega) (by omega) (by omega) (by omega) (by omega) (by omega) (by omega)

theorem lv_s4 (w : World) : Calls Tryd.prog 48 #[ln 3 5, pt 5 5] w fun e w' => e = .returned (.int .i64 (0)) ∧ Below w.heap.size w w' := side_on3 5 5 5 w (by omega) (by omega) (by omega) (by omega) (by omega) (by omega) (by omega)

theorem lv_s5 (w : World) : Calls Tryd.prog 48 #[ln 4 (-1), pt 0 0] w fun e w' => e = .returned (.int .i64 (1)) ∧ Below w.heap.size w w' := side_high4 (-1) 0 0 w (by omega) (by omega) (by omega) (by omega) (by omega) (by omega) (by omega)

theorem lv_r1 (w : World) : Calls Tryd.prog 49 #[ln 1 2, pt 1 3] w fun e w' => e = .returned (.tuple #[pt (7) (3), .int .i64 (0)]) ∧ Below w.heap.size w w' := reflect_ok1 2 1 3 w (by omega) (by omega) (by omega) (by omega) (by omega) (by omega) (by omega) (by omega) (by omega) (by omega)

theorem lv_r2 (w : World) : Calls Tryd.prog 49 #[ln 2 2, pt 1 3] w fun e w' => e = .returned (.tuple #[pt (1) (5), .int .i64 (0)]) ∧ Below w.heap.size w w' := reflect_ok2 2 1 3 w (by omega) (by omega) (by omega) (by omega) (by omega) (by omega) (by omega) (by omega) (by omega) (by omega)

theorem lv_r3 (w : World) : Calls Tryd.prog 49 #[ln 3 2, pt 1 3] w fun e w' => e = .returned (.tuple #[pt (1) (3), .int .i64 (0)]) ∧ Below w.heap.size w w' := reflect_ok3 2 1 3 w (by omega) (by omega) (by omega) (by omega) (by omega) (by omega) (by omega) (by omega) (by omega) (by omega)

theorem lv_r4 (w : World) : Calls Tryd.prog 49 #[ln 4 2, pt 1 3] w fun e w' => e = .returned (.tuple #[pt (-1) (5), .int .i64 (0)]) ∧ Below w.heap.size w w' := reflect_ok4 2 1 3 w (by omega) (by omega) (by omega) (by omega) (by omega) (by omega) (by omega) (by omega) (by omega) (by omega)

theorem lv_i1 (w : World) : Calls Tryd.prog 12 #[ln 3 3, ln 1 1] w fun e w' => e = .returned (.tuple #[ln 2 2, .int .i64 (0)]) ∧ Below w.heap.size w w' := image_ok31 3 1 w (by omega) (by omega) (by omega) (by omega) 2 (by omega) (by omega) (by omega)

theorem lv_i2 (w : World) : Calls Tryd.prog 12 #[ln 3 3, ln 3 1] w fun e w' => e = .returned (.tuple #[ln 3 5, .int .i64 (0)]) ∧ Below w.heap.size w w' := image_ok33 3 1 w (by omega) (by omega) (by omega) (by omega) 5 (by omega) (by omega) (by omega)

theorem lv_i3 (w : World) : Calls Tryd.prog 12 #[ln 3 3, ln 4 1] w fun e w' => e = .returned (.tuple #[ln 4 1, .int .i64 (0)]) ∧ Below w.heap.size w w' := image_ok34 3 1 w (by omega) (by omega) (by omega) (by omega) 1 (by omega) (by omega) (by omega)

theorem lv_i4 (w : World) : Calls Tryd.prog 12 #[ln 1 1, ln 3 3] w fun e w' => e = .returned (.tuple #[ln 4 1, .int .i64 (0)]) ∧ Below w.heap.size w w' := image_ok13 1 3 w (by omega) (by omega) (by omega) (by omega) 1 (by omega) (by omega) (by omega)

theorem lv_i5 (w : World) : Calls Tryd.prog 12 #[ln 1 1, ln 4 3] w fun e w' => e = .returned (.tuple #[ln 3 5, .int .i64 (0)]) ∧ Below w.heap.size w w' := image_ok14 1 3 w (by omega) (by omega) (by omega) (by omega) 5 (by omega) (by omega) (by omega)

theorem lv_i6 (w : World) : Calls Tryd.prog 12 #[ln 2 4096, ln 2 (-1)] w fun e w' => e = .returned (.tuple #[ln 0 0, .int .i64 (3)]) ∧ Below w.heap.size w w' := image_far22 4096 (-1) w (by omega) (by omega) (by omega) (by omega) 8193 (by omega) (by omega)

theorem lv_m1 (w : World) : Calls Tryd.prog 50 #[ln 1 1, ln 3 4] w fun e w' => e = .returned (.tuple #[pt 2 6, .int .i64 (0)]) ∧ Below w.heap.size w w' := meet_13 1 4 w (by omega) (by omega) (by omega) (by omega)

theorem lv_m2 (w : World) : Calls Tryd.prog 50 #[ln 3 3, ln 4 2] w fun e w' => e = .returned (.tuple #[pt 1 5, .int .i64 (0)]) ∧ Below w.heap.size w w' := meet_34 3 2 w (by omega) (by omega) (by omega) (by omega)

theorem lv_m3 (w : World) : Calls Tryd.prog 50 #[ln 1 1, ln 1 2] w fun e w' => e = .returned (.tuple #[pt 0 0, .int .i64 (7)]) ∧ Below w.heap.size w w' := meet_same 1 1 2 w (by omega) (by omega) (by omega) (by omega) (by omega) (by omega)

theorem lv_t1 (w : World) : Calls Tryd.prog 51 #[.int .u8 1, pt 3 0] w fun e w' => e = .returned (.tuple #[ln 0 0, .int .i64 (7)]) ∧ Below w.heap.size w w' := through_odd1 3 0 w (by omega) (by omega) (by omega) (by omega) (by decide)

theorem lv_t2 (w : World) : Calls Tryd.prog 51 #[.int .u8 3, pt 3 1] w fun e w' => e = .returned (.tuple #[ln 3 2, .int .i64 (0)]) ∧ Below w.heap.size w w' := through_ok3 3 1 w (by omega) (by omega) (by omega) (by omega) 2 (by omega) (by omega) (by omega)

theorem lv_t3 (w : World) : Calls Tryd.prog 51 #[.int .u8 4, pt 3 1] w fun e w' => e = .returned (.tuple #[ln 4 (-1), .int .i64 (0)]) ∧ Below w.heap.size w w' := through_ok4 3 1 w (by omega) (by omega) (by omega) (by omega) (-1) (by omega) (by omega) (by omega)

end Go.Proofs.YtbcmfenekpllhaaDoor
