/-
  Says: LinesKnown answers true, where the librarys table stands as it was laid.
-/
import Derived.Test.YtbcmfenekpllhaaDoorLwSide
import Derived.Test.YtbcmfenekpllhaaDoorLwReflect
import Derived.Test.YtbcmfenekpllhaaDoorLwImg
import Derived.Test.YtbcmfenekpllhaaDoorLwMeet
import Derived.Test.YtbcmfenekpllhaaDoorLwText
import Derived.Test.YtbcmfenekpllhaaDoorLwTwice
import Derived.Test.YtbcmfenekpllhaaDoorLwThr
import Derived.Deep.RegionHeld3
set_option linter.unusedVariables false
set_option linter.unusedSimpArgs false
namespace Go.Proofs.YtbcmfenekpllhaaDoor
open Go Go.RowKit

attribute [local go_sem] World.cell?_alloc_some

set_option maxRecDepth 100000 in
set_option maxHeartbeats 8000000 in
theorem known_law (w : World) (hT : Tab w) : Calls Tryd.prog 4 #[] w fun e w' => e = .returned (.bool true) ∧ Below w.heap.size w w' := by
  have hT' : ∀ W, Below w.heap.size w W → Tab W := fun W hb => tab_below hT hb
  go_enter Tryd.func4, Tryd.ntmps4
  go_wp2_with fail
  go_loopw [1, 2] (fun kv nv wr => ∃ k n : Int, kv = .int .i64 k ∧ nv = .int .i64 n ∧ 0 ≤ k ∧ k < 100003 ∧ 0 ≤ n ∧ n ≤ 60 ∧ ∃ u : Later w, wr = on u) (fun _ nv _ => (60 - intOf nv).toNat)
  case atStart => exact ⟨1, 0, rfl, rfl, by omega, by omega, by omega, by omega, ⟨_, Below.refl _ _⟩, rfl⟩
  case round =>
    obtain ⟨k, n, rfl, rfl, hk1, hk2, hn1, hn2, u0, rfl⟩ := hrel
    by_cases hn : n < 60
    · go_wp2_with (first | (go_at_call 18; with_reducible refine (point_any _ _ _).mono ?_; rintro e wx ⟨rfl, hx⟩; obtain ⟨ux, rfl⟩ := after hx; clear hx) | fail)
      have hB : Below w.heap.size w ((on ux).alloc (.cells #[.int .i64 (k % 9000 - 4000), .int .i64 (k / 11 - 3000)] 31)) := by
        repeat first | (with_reducible exact Below.refl _ _) | (with_reducible refine below_on ?_ _) | (with_reducible refine below_alloc ?_ _)
      have x0 : ((on ux).alloc (.cells #[.int .i64 (k % 9000 - 4000), .int .i64 (k / 11 - 3000)] 31)).cell? ⟨(on u0).heap.size, 0, none⟩ = some (.int .u8 n) := by simp [go_sem]
      have x1 : ((on ux).alloc (.cells #[.int .i64 (k % 9000 - 4000), .int .i64 (k / 11 - 3000)] 31)).cell? ⟨(on u0).heap.size, 1, none⟩ = some (.int .i8 (k % 100)) := by simp [go_sem]
      have y0 : ((on ux).alloc (.cells #[.int .i64 (k % 9000 - 4000), .int .i64 (k / 11 - 3000)] 31)).cell? ⟨(on u0).heap.size + 1, 0, none⟩ = some (.int .u8 (k / 7 % 256)) := by simp [go_sem]
      have y1 : ((on ux).alloc (.cells #[.int .i64 (k % 9000 - 4000), .int .i64 (k / 11 - 3000)] 31)).cell? ⟨(on u0).heap.size + 1, 1, none⟩ = some (.int .i8 (-(k / 3 % 100))) := by simp [go_sem]
      have p0 : ((on ux).alloc (.cells #[.int .i64 (k % 9000 - 4000), .int .i64 (k / 11 - 3000)] 31)).cell? ⟨(on ux).heap.size, 0, none⟩ = some (.int .i64 (k % 9000 - 4000)) := by simp [go_sem]
      have p1 : ((on ux).alloc (.cells #[.int .i64 (k % 9000 - 4000), .int .i64 (k / 11 - 3000)] 31)).cell? ⟨(on ux).heap.size, 1, none⟩ = some (.int .i64 (k / 11 - 3000)) := by simp [go_sem]
      generalize ((on ux).alloc (.cells #[.int .i64 (k % 9000 - 4000), .int .i64 (k / 11 - 3000)] 31)) = Wk at *
      generalize (on ux).heap.size = Bp at *
      clear ux
      generalize (on u0).heap.size = Bx at *
      clear u0
      try go_wp2_with fail
      refine region_later (by kernel_rfl) (by kernel_rfl) ?_
      repeat (go_big_quiet_step ((first | (go_at_call 20; with_reducible exact Calls.later (of_any n (k % 100) _ _ (by omega) (by omega) (by omega) (by omega) rfl)) | (go_at_call 20; with_reducible exact Calls.later (of_any (k / 7 % 256) (-(k / 3 % 100)) _ _ (by omega) (by omega) (by omega) (by omega) rfl)) | (go_at_call 19; with_reducible exact Calls.later (side_law _ _ _ _ _ (hT' _ (by have bw := hB; repeat first | (with_reducible exact bw) | (with_reducible refine below_on ?_ _) | (with_reducible refine below_alloc ?_ _))))) | (go_at_call 21; with_reducible exact Calls.later (reflect_law _ _ _ _ _ (hT' _ (by have bw := hB; repeat first | (with_reducible exact bw) | (with_reducible refine below_on ?_ _) | (with_reducible refine below_alloc ?_ _))))) | (go_at_call 3; with_reducible exact Calls.later (limg_law _ _ _ _ _ (hT' _ (by have bw := hB; repeat first | (with_reducible exact bw) | (with_reducible refine below_on ?_ _) | (with_reducible refine below_alloc ?_ _))))) | (go_at_call 22; with_reducible exact Calls.later (meet_law _ _ _ _ _ (hT' _ (by have bw := hB; repeat first | (with_reducible exact bw) | (with_reducible refine below_on ?_ _) | (with_reducible refine below_alloc ?_ _))))) | (go_at_call 23; with_reducible exact Calls.later (thr_law _ _ _ _ (hT' _ (by have bw := hB; repeat first | (with_reducible exact bw) | (with_reducible refine below_on ?_ _) | (with_reducible refine below_alloc ?_ _))))) | (go_at_call 24; with_reducible exact Calls.later (twice_law _ _ _ _ _ _ _ (hT' _ (by have bw := hB; repeat first | (with_reducible exact bw) | (with_reducible refine below_on ?_ _) | (with_reducible refine below_alloc ?_ _))) (by omega) (by omega) (by omega) (by omega) (by omega) (by omega) (by omega) (by omega) (by omega) (by omega) (by omega) (by omega))))))
      refine wpQuiet_nil ?_
      rintro _ ⟨u3, rfl⟩
      go_wp2_with fail
      exact ⟨⟨_, _, rfl, rfl, by omega, by omega, by omega, by omega, after (by have bw := hB; repeat first | (with_reducible exact bw) | (with_reducible refine below_on ?_ _) | (with_reducible refine below_alloc ?_ _))⟩, by simp [intOf]; omega⟩
    · go_wp2_with fail
      have hB : Below w.heap.size w ((on u0).alloc (.cells #[.string ⟨#[120, 32, 48]⟩, .string ⟨#[120, 32, 45, 48]⟩, .string ⟨#[120, 32, 32, 49]⟩, .string ⟨#[120, 32, 48, 49]⟩, .string ⟨#[120]⟩, .string ⟨#[120, 32]⟩, .string ⟨#[]⟩, .string ⟨#[117, 32, 52, 48, 57, 54]⟩, .string ⟨#[117, 32, 45, 52, 48, 57, 54]⟩, .string ⟨#[100, 32, 52, 48, 57, 55]⟩, .string ⟨#[120, 32, 49, 32]⟩, .string ⟨#[88, 32, 49]⟩, .string ⟨#[120, 32, 43, 49]⟩, .string ⟨#[120, 32, 57, 57, 57, 57, 57, 57, 57, 57, 57, 57, 57, 57, 57, 57, 57, 57, 57]⟩, .string ⟨#[120, 32, 45, 45, 49]⟩, .string ⟨#[120, 32, 49, 45]⟩] 9)) := by
        repeat first | (with_reducible exact Below.refl _ _) | (with_reducible refine below_on ?_ _) | (with_reducible refine below_alloc ?_ _)
      have c0 : ((on u0).alloc (.cells #[.string ⟨#[120, 32, 48]⟩, .string ⟨#[120, 32, 45, 48]⟩, .string ⟨#[120, 32, 32, 49]⟩, .string ⟨#[120, 32, 48, 49]⟩, .string ⟨#[120]⟩, .string ⟨#[120, 32]⟩, .string ⟨#[]⟩, .string ⟨#[117, 32, 52, 48, 57, 54]⟩, .string ⟨#[117, 32, 45, 52, 48, 57, 54]⟩, .string ⟨#[100, 32, 52, 48, 57, 55]⟩, .string ⟨#[120, 32, 49, 32]⟩, .string ⟨#[88, 32, 49]⟩, .string ⟨#[120, 32, 43, 49]⟩, .string ⟨#[120, 32, 57, 57, 57, 57, 57, 57, 57, 57, 57, 57, 57, 57, 57, 57, 57, 57, 57]⟩, .string ⟨#[120, 32, 45, 45, 49]⟩, .string ⟨#[120, 32, 49, 45]⟩] 9)).cell? ⟨(on u0).heap.size, 0, none⟩ = some (.string ⟨#[120, 32, 48]⟩) := by simp [go_sem]
      have c1 : ((on u0).alloc (.cells #[.string ⟨#[120, 32, 48]⟩, .string ⟨#[120, 32, 45, 48]⟩, .string ⟨#[120, 32, 32, 49]⟩, .string ⟨#[120, 32, 48, 49]⟩, .string ⟨#[120]⟩, .string ⟨#[120, 32]⟩, .string ⟨#[]⟩, .string ⟨#[117, 32, 52, 48, 57, 54]⟩, .string ⟨#[117, 32, 45, 52, 48, 57, 54]⟩, .string ⟨#[100, 32, 52, 48, 57, 55]⟩, .string ⟨#[120, 32, 49, 32]⟩, .string ⟨#[88, 32, 49]⟩, .string ⟨#[120, 32, 43, 49]⟩, .string ⟨#[120, 32, 57, 57, 57, 57, 57, 57, 57, 57, 57, 57, 57, 57, 57, 57, 57, 57, 57]⟩, .string ⟨#[120, 32, 45, 45, 49]⟩, .string ⟨#[120, 32, 49, 45]⟩] 9)).cell? ⟨(on u0).heap.size, 1, none⟩ = some (.string ⟨#[120, 32, 45, 48]⟩) := by simp [go_sem]
      have c2 : ((on u0).alloc (.cells #[.string ⟨#[120, 32, 48]⟩, .string ⟨#[120, 32, 45, 48]⟩, .string ⟨#[120, 32, 32, 49]⟩, .string ⟨#[120, 32, 48, 49]⟩, .string ⟨#[120]⟩, .string ⟨#[120, 32]⟩, .string ⟨#[]⟩, .string ⟨#[117, 32, 52, 48, 57, 54]⟩, .string ⟨#[117, 32, 45, 52, 48, 57, 54]⟩, .string ⟨#[100, 32, 52, 48, 57, 55]⟩, .string ⟨#[120, 32, 49, 32]⟩, .string ⟨#[88, 32, 49]⟩, .string ⟨#[120, 32, 43, 49]⟩, .string ⟨#[120, 32, 57, 57, 57, 57, 57, 57, 57, 57, 57, 57, 57, 57, 57, 57, 57, 57, 57]⟩, .string ⟨#[120, 32, 45, 45, 49]⟩, .string ⟨#[120, 32, 49, 45]⟩] 9)).cell? ⟨(on u0).heap.size, 2, none⟩ = some (.string ⟨#[120, 32, 32, 49]⟩) := by simp [go_sem]
      have c3 : ((on u0).alloc (.cells #[.string ⟨#[120, 32, 48]⟩, .string ⟨#[120, 32, 45, 48]⟩, .string ⟨#[120, 32, 32, 49]⟩, .string ⟨#[120, 32, 48, 49]⟩, .string ⟨#[120]⟩, .string ⟨#[120, 32]⟩, .string ⟨#[]⟩, .string ⟨#[117, 32, 52, 48, 57, 54]⟩, .string ⟨#[117, 32, 45, 52, 48, 57, 54]⟩, .string ⟨#[100, 32, 52, 48, 57, 55]⟩, .string ⟨#[120, 32, 49, 32]⟩, .string ⟨#[88, 32, 49]⟩, .string ⟨#[120, 32, 43, 49]⟩, .string ⟨#[120, 32, 57, 57, 57, 57, 57, 57, 57, 57, 57, 57, 57, 57, 57, 57, 57, 57, 57]⟩, .string ⟨#[120, 32, 45, 45, 49]⟩, .string ⟨#[120, 32, 49, 45]⟩] 9)).cell? ⟨(on u0).heap.size, 3, none⟩ = some (.string ⟨#[120, 32, 48, 49]⟩) := by simp [go_sem]
      have c4 : ((on u0).alloc (.cells #[.string ⟨#[120, 32, 48]⟩, .string ⟨#[120, 32, 45, 48]⟩, .string ⟨#[120, 32, 32, 49]⟩, .string ⟨#[120, 32, 48, 49]⟩, .string ⟨#[120]⟩, .string ⟨#[120, 32]⟩, .string ⟨#[]⟩, .string ⟨#[117, 32, 52, 48, 57, 54]⟩, .string ⟨#[117, 32, 45, 52, 48, 57, 54]⟩, .string ⟨#[100, 32, 52, 48, 57, 55]⟩, .string ⟨#[120, 32, 49, 32]⟩, .string ⟨#[88, 32, 49]⟩, .string ⟨#[120, 32, 43, 49]⟩, .string ⟨#[120, 32, 57, 57, 57, 57, 57, 57, 57, 57, 57, 57, 57, 57, 57, 57, 57, 57, 57]⟩, .string ⟨#[120, 32, 45, 45, 49]⟩, .string ⟨#[120, 32, 49, 45]⟩] 9)).cell? ⟨(on u0).heap.size, 4, none⟩ = some (.string ⟨#[120]⟩) := by simp [go_sem]
      have c5 : ((on u0).alloc (.cells #[.string ⟨#[120, 32, 48]⟩, .string ⟨#[120, 32, 45, 48]⟩, .string ⟨#[120, 32, 32, 49]⟩, .string ⟨#[120, 32, 48, 49]⟩, .string ⟨#[120]⟩, .string ⟨#[120, 32]⟩, .string ⟨#[]⟩, .string ⟨#[117, 32, 52, 48, 57, 54]⟩, .string ⟨#[117, 32, 45, 52, 48, 57, 54]⟩, .string ⟨#[100, 32, 52, 48, 57, 55]⟩, .string ⟨#[120, 32, 49, 32]⟩, .string ⟨#[88, 32, 49]⟩, .string ⟨#[120, 32, 43, 49]⟩, .string ⟨#[120, 32, 57, 57, 57, 57, 57, 57, 57, 57, 57, 57, 57, 57, 57, 57, 57, 57, 57]⟩, .string ⟨#[120, 32, 45, 45, 49]⟩, .string ⟨#[120, 32, 49, 45]⟩] 9)).cell? ⟨(on u0).heap.size, 5, none⟩ = some (.string ⟨#[120, 32]⟩) := by simp [go_sem]
      have c6 : ((on u0).alloc (.cells #[.string ⟨#[120, 32, 48]⟩, .string ⟨#[120, 32, 45, 48]⟩, .string ⟨#[120, 32, 32, 49]⟩, .string ⟨#[120, 32, 48, 49]⟩, .string ⟨#[120]⟩, .string ⟨#[120, 32]⟩, .string ⟨#[]⟩, .string ⟨#[117, 32, 52, 48, 57, 54]⟩, .string ⟨#[117, 32, 45, 52, 48, 57, 54]⟩, .string ⟨#[100, 32, 52, 48, 57, 55]⟩, .string ⟨#[120, 32, 49, 32]⟩, .string ⟨#[88, 32, 49]⟩, .string ⟨#[120, 32, 43, 49]⟩, .string ⟨#[120, 32, 57, 57, 57, 57, 57, 57, 57, 57, 57, 57, 57, 57, 57, 57, 57, 57, 57]⟩, .string ⟨#[120, 32, 45, 45, 49]⟩, .string ⟨#[120, 32, 49, 45]⟩] 9)).cell? ⟨(on u0).heap.size, 6, none⟩ = some (.string ⟨#[]⟩) := by simp [go_sem]
      have c7 : ((on u0).alloc (.cells #[.string ⟨#[120, 32, 48]⟩, .string ⟨#[120, 32, 45, 48]⟩, .string ⟨#[120, 32, 32, 49]⟩, .string ⟨#[120, 32, 48, 49]⟩, .string ⟨#[120]⟩, .string ⟨#[120, 32]⟩, .string ⟨#[]⟩, .string ⟨#[117, 32, 52, 48, 57, 54]⟩, .string ⟨#[117, 32, 45, 52, 48, 57, 54]⟩, .string ⟨#[100, 32, 52, 48, 57, 55]⟩, .string ⟨#[120, 32, 49, 32]⟩, .string ⟨#[88, 32, 49]⟩, .string ⟨#[120, 32, 43, 49]⟩, .string ⟨#[120, 32, 57, 57, 57, 57, 57, 57, 57, 57, 57, 57, 57, 57, 57, 57, 57, 57, 57]⟩, .string ⟨#[120, 32, 45, 45, 49]⟩, .string ⟨#[120, 32, 49, 45]⟩] 9)).cell? ⟨(on u0).heap.size, 7, none⟩ = some (.string ⟨#[117, 32, 52, 48, 57, 54]⟩) := by simp [go_sem]
      have c8 : ((on u0).alloc (.cells #[.string ⟨#[120, 32, 48]⟩, .string ⟨#[120, 32, 45, 48]⟩, .string ⟨#[120, 32, 32, 49]⟩, .string ⟨#[120, 32, 48, 49]⟩, .string ⟨#[120]⟩, .string ⟨#[120, 32]⟩, .string ⟨#[]⟩, .string ⟨#[117, 32, 52, 48, 57, 54]⟩, .string ⟨#[117, 32, 45, 52, 48, 57, 54]⟩, .string ⟨#[100, 32, 52, 48, 57, 55]⟩, .string ⟨#[120, 32, 49, 32]⟩, .string ⟨#[88, 32, 49]⟩, .string ⟨#[120, 32, 43, 49]⟩, .string ⟨#[120, 32, 57, 57, 57, 57, 57, 57, 57, 57, 57, 57, 57, 57, 57, 57, 57, 57, 57]⟩, .string ⟨#[120, 32, 45, 45, 49]⟩, .string ⟨#[120, 32, 49, 45]⟩] 9)).cell? ⟨(on u0).heap.size, 8, none⟩ = some (.string ⟨#[117, 32, 45, 52, 48, 57, 54]⟩) := by simp [go_sem]
      have c9 : ((on u0).alloc (.cells #[.string ⟨#[120, 32, 48]⟩, .string ⟨#[120, 32, 45, 48]⟩, .string ⟨#[120, 32, 32, 49]⟩, .string ⟨#[120, 32, 48, 49]⟩, .string ⟨#[120]⟩, .string ⟨#[120, 32]⟩, .string ⟨#[]⟩, .string ⟨#[117, 32, 52, 48, 57, 54]⟩, .string ⟨#[117, 32, 45, 52, 48, 57, 54]⟩, .string ⟨#[100, 32, 52, 48, 57, 55]⟩, .string ⟨#[120, 32, 49, 32]⟩, .string ⟨#[88, 32, 49]⟩, .string ⟨#[120, 32, 43, 49]⟩, .string ⟨#[120, 32, 57, 57, 57, 57, 57, 57, 57, 57, 57, 57, 57, 57, 57, 57, 57, 57, 57]⟩, .string ⟨#[120, 32, 45, 45, 49]⟩, .string ⟨#[120, 32, 49, 45]⟩] 9)).cell? ⟨(on u0).heap.size, 9, none⟩ = some (.string ⟨#[100, 32, 52, 48, 57, 55]⟩) := by simp [go_sem]
      have c10 : ((on u0).alloc (.cells #[.string ⟨#[120, 32, 48]⟩, .string ⟨#[120, 32, 45, 48]⟩, .string ⟨#[120, 32, 32, 49]⟩, .string ⟨#[120, 32, 48, 49]⟩, .string ⟨#[120]⟩, .string ⟨#[120, 32]⟩, .string ⟨#[]⟩, .string ⟨#[117, 32, 52, 48, 57, 54]⟩, .string ⟨#[117, 32, 45, 52, 48, 57, 54]⟩, .string ⟨#[100, 32, 52, 48, 57, 55]⟩, .string ⟨#[120, 32, 49, 32]⟩, .string ⟨#[88, 32, 49]⟩, .string ⟨#[120, 32, 43, 49]⟩, .string ⟨#[120, 32, 57, 57, 57, 57, 57, 57, 57, 57, 57, 57, 57, 57, 57, 57, 57, 57, 57]⟩, .string ⟨#[120, 32, 45, 45, 49]⟩, .string ⟨#[120, 32, 49, 45]⟩] 9)).cell? ⟨(on u0).heap.size, 10, none⟩ = some (.string ⟨#[120, 32, 49, 32]⟩) := by simp [go_sem]
      have c11 : ((on u0).alloc (.cells #[.string ⟨#[120, 32, 48]⟩, .string ⟨#[120, 32, 45, 48]⟩, .string ⟨#[120, 32, 32, 49]⟩, .string ⟨#[120, 32, 48, 49]⟩, .string ⟨#[120]⟩, .string ⟨#[120, 32]⟩, .string ⟨#[]⟩, .string ⟨#[117, 32, 52, 48, 57, 54]⟩, .string ⟨#[117, 32, 45, 52, 48, 57, 54]⟩, .string ⟨#[100, 32, 52, 48, 57, 55]⟩, .string ⟨#[120, 32, 49, 32]⟩, .string ⟨#[88, 32, 49]⟩, .string ⟨#[120, 32, 43, 49]⟩, .string ⟨#[120, 32, 57, 57, 57, 57, 57, 57, 57, 57, 57, 57, 57, 57, 57, 57, 57, 57, 57]⟩, .string ⟨#[120, 32, 45, 45, 49]⟩, .string ⟨#[120, 32, 49, 45]⟩] 9)).cell? ⟨(on u0).heap.size, 11, none⟩ = some (.string ⟨#[88, 32, 49]⟩) := by simp [go_sem]
      have c12 : ((on u0).alloc (.cells #[.string ⟨#[120, 32, 48]⟩, .string ⟨#[120, 32, 45, 48]⟩, .string ⟨#[120, 32, 32, 49]⟩, .string ⟨#[120, 32, 48, 49]⟩, .string ⟨#[120]⟩, .string ⟨#[120, 32]⟩, .string ⟨#[]⟩, .string ⟨#[117, 32, 52, 48, 57, 54]⟩, .string ⟨#[117, 32, 45, 52, 48, 57, 54]⟩, .string ⟨#[100, 32, 52, 48, 57, 55]⟩, .string ⟨#[120, 32, 49, 32]⟩, .string ⟨#[88, 32, 49]⟩, .string ⟨#[120, 32, 43, 49]⟩, .string ⟨#[120, 32, 57, 57, 57, 57, 57, 57, 57, 57, 57, 57, 57, 57, 57, 57, 57, 57, 57]⟩, .string ⟨#[120, 32, 45, 45, 49]⟩, .string ⟨#[120, 32, 49, 45]⟩] 9)).cell? ⟨(on u0).heap.size, 12, none⟩ = some (.string ⟨#[120, 32, 43, 49]⟩) := by simp [go_sem]
      have c13 : ((on u0).alloc (.cells #[.string ⟨#[120, 32, 48]⟩, .string ⟨#[120, 32, 45, 48]⟩, .string ⟨#[120, 32, 32, 49]⟩, .string ⟨#[120, 32, 48, 49]⟩, .string ⟨#[120]⟩, .string ⟨#[120, 32]⟩, .string ⟨#[]⟩, .string ⟨#[117, 32, 52, 48, 57, 54]⟩, .string ⟨#[117, 32, 45, 52, 48, 57, 54]⟩, .string ⟨#[100, 32, 52, 48, 57, 55]⟩, .string ⟨#[120, 32, 49, 32]⟩, .string ⟨#[88, 32, 49]⟩, .string ⟨#[120, 32, 43, 49]⟩, .string ⟨#[120, 32, 57, 57, 57, 57, 57, 57, 57, 57, 57, 57, 57, 57, 57, 57, 57, 57, 57]⟩, .string ⟨#[120, 32, 45, 45, 49]⟩, .string ⟨#[120, 32, 49, 45]⟩] 9)).cell? ⟨(on u0).heap.size, 13, none⟩ = some (.string ⟨#[120, 32, 57, 57, 57, 57, 57, 57, 57, 57, 57, 57, 57, 57, 57, 57, 57, 57, 57]⟩) := by simp [go_sem]
      have c14 : ((on u0).alloc (.cells #[.string ⟨#[120, 32, 48]⟩, .string ⟨#[120, 32, 45, 48]⟩, .string ⟨#[120, 32, 32, 49]⟩, .string ⟨#[120, 32, 48, 49]⟩, .string ⟨#[120]⟩, .string ⟨#[120, 32]⟩, .string ⟨#[]⟩, .string ⟨#[117, 32, 52, 48, 57, 54]⟩, .string ⟨#[117, 32, 45, 52, 48, 57, 54]⟩, .string ⟨#[100, 32, 52, 48, 57, 55]⟩, .string ⟨#[120, 32, 49, 32]⟩, .string ⟨#[88, 32, 49]⟩, .string ⟨#[120, 32, 43, 49]⟩, .string ⟨#[120, 32, 57, 57, 57, 57, 57, 57, 57, 57, 57, 57, 57, 57, 57, 57, 57, 57, 57]⟩, .string ⟨#[120, 32, 45, 45, 49]⟩, .string ⟨#[120, 32, 49, 45]⟩] 9)).cell? ⟨(on u0).heap.size, 14, none⟩ = some (.string ⟨#[120, 32, 45, 45, 49]⟩) := by simp [go_sem]
      have c15 : ((on u0).alloc (.cells #[.string ⟨#[120, 32, 48]⟩, .string ⟨#[120, 32, 45, 48]⟩, .string ⟨#[120, 32, 32, 49]⟩, .string ⟨#[120, 32, 48, 49]⟩, .string ⟨#[120]⟩, .string ⟨#[120, 32]⟩, .string ⟨#[]⟩, .string ⟨#[117, 32, 52, 48, 57, 54]⟩, .string ⟨#[117, 32, 45, 52, 48, 57, 54]⟩, .string ⟨#[100, 32, 52, 48, 57, 55]⟩, .string ⟨#[120, 32, 49, 32]⟩, .string ⟨#[88, 32, 49]⟩, .string ⟨#[120, 32, 43, 49]⟩, .string ⟨#[120, 32, 57, 57, 57, 57, 57, 57, 57, 57, 57, 57, 57, 57, 57, 57, 57, 57, 57]⟩, .string ⟨#[120, 32, 45, 45, 49]⟩, .string ⟨#[120, 32, 49, 45]⟩] 9)).cell? ⟨(on u0).heap.size, 15, none⟩ = some (.string ⟨#[120, 32, 49, 45]⟩) := by simp [go_sem]
      generalize ((on u0).alloc (.cells #[.string ⟨#[120, 32, 48]⟩, .string ⟨#[120, 32, 45, 48]⟩, .string ⟨#[120, 32, 32, 49]⟩, .string ⟨#[120, 32, 48, 49]⟩, .string ⟨#[120]⟩, .string ⟨#[120, 32]⟩, .string ⟨#[]⟩, .string ⟨#[117, 32, 52, 48, 57, 54]⟩, .string ⟨#[117, 32, 45, 52, 48, 57, 54]⟩, .string ⟨#[100, 32, 52, 48, 57, 55]⟩, .string ⟨#[120, 32, 49, 32]⟩, .string ⟨#[88, 32, 49]⟩, .string ⟨#[120, 32, 43, 49]⟩, .string ⟨#[120, 32, 57, 57, 57, 57, 57, 57, 57, 57, 57, 57, 57, 57, 57, 57, 57, 57, 57]⟩, .string ⟨#[120, 32, 45, 45, 49]⟩, .string ⟨#[120, 32, 49, 45]⟩] 9)) = Wt at *
      generalize (on u0).heap.size = Bt at *
      clear u0
      go_loopw [7] (fun iv wr => ∃ i : Int, iv = .int .i64 i ∧ 0 ≤ i ∧ i ≤ 16 ∧ ∃ u : Later Wt, wr = on u) (fun iv _ => (16 - intOf iv).toNat)
      case atStart => exact ⟨0, rfl, by omega, by omega, ⟨_, Below.refl _ _⟩, rfl⟩
      case round =>
        obtain ⟨i, rfl, hi1, hi2, u0, rfl⟩ := hrel
        have d0 : (on u0).cell? ⟨Bt, 0, none⟩ = some (.string ⟨#[120, 32, 48]⟩) := by simp [go_sem, c0]
        have d1 : (on u0).cell? ⟨Bt, 1, none⟩ = some (.string ⟨#[120, 32, 45, 48]⟩) := by simp [go_sem, c1]
        have d2 : (on u0).cell? ⟨Bt, 2, none⟩ = some (.string ⟨#[120, 32, 32, 49]⟩) := by simp [go_sem, c2]
        have d3 : (on u0).cell? ⟨Bt, 3, none⟩ = some (.string ⟨#[120, 32, 48, 49]⟩) := by simp [go_sem, c3]
        have d4 : (on u0).cell? ⟨Bt, 4, none⟩ = some (.string ⟨#[120]⟩) := by simp [go_sem, c4]
        have d5 : (on u0).cell? ⟨Bt, 5, none⟩ = some (.string ⟨#[120, 32]⟩) := by simp [go_sem, c5]
        have d6 : (on u0).cell? ⟨Bt, 6, none⟩ = some (.string ⟨#[]⟩) := by simp [go_sem, c6]
        have d7 : (on u0).cell? ⟨Bt, 7, none⟩ = some (.string ⟨#[117, 32, 52, 48, 57, 54]⟩) := by simp [go_sem, c7]
        have d8 : (on u0).cell? ⟨Bt, 8, none⟩ = some (.string ⟨#[117, 32, 45, 52, 48, 57, 54]⟩) := by simp [go_sem, c8]
        have d9 : (on u0).cell? ⟨Bt, 9, none⟩ = some (.string ⟨#[100, 32, 52, 48, 57, 55]⟩) := by simp [go_sem, c9]
        have d10 : (on u0).cell? ⟨Bt, 10, none⟩ = some (.string ⟨#[120, 32, 49, 32]⟩) := by simp [go_sem, c10]
        have d11 : (on u0).cell? ⟨Bt, 11, none⟩ = some (.string ⟨#[88, 32, 49]⟩) := by simp [go_sem, c11]
        have d12 : (on u0).cell? ⟨Bt, 12, none⟩ = some (.string ⟨#[120, 32, 43, 49]⟩) := by simp [go_sem, c12]
        have d13 : (on u0).cell? ⟨Bt, 13, none⟩ = some (.string ⟨#[120, 32, 57, 57, 57, 57, 57, 57, 57, 57, 57, 57, 57, 57, 57, 57, 57, 57, 57]⟩) := by simp [go_sem, c13]
        have d14 : (on u0).cell? ⟨Bt, 14, none⟩ = some (.string ⟨#[120, 32, 45, 45, 49]⟩) := by simp [go_sem, c14]
        have d15 : (on u0).cell? ⟨Bt, 15, none⟩ = some (.string ⟨#[120, 32, 49, 45]⟩) := by simp [go_sem, c15]
        have hq : Below w.heap.size w (on u0) := below_on hB u0
        clear c0 c1 c2 c3 c4 c5 c6 c7 c8 c9 c10 c11 c12 c13 c14 c15
        obtain rfl | rfl | rfl | rfl | rfl | rfl | rfl | rfl | rfl | rfl | rfl | rfl | rfl | rfl | rfl | rfl | rfl : i = 0 ∨ i = 1 ∨ i = 2 ∨ i = 3 ∨ i = 4 ∨ i = 5 ∨ i = 6 ∨ i = 7 ∨ i = 8 ∨ i = 9 ∨ i = 10 ∨ i = 11 ∨ i = 12 ∨ i = 13 ∨ i = 14 ∨ i = 15 ∨ i = 16 := by omega
        · clear d1 d2 d3 d4 d5 d6 d7 d8 d9 d10 d11 d12 d13 d14 d15
          go_wp2_with fail
          refine region_later (by kernel_rfl) (by kernel_rfl) ?_
          repeat (go_big_quiet_step ((first | (go_at_call 26; with_reducible exact Calls.later (line_any _ _ _)) | (go_at_call 25; with_reducible exact Calls.later (text_law _ _ _ _ (hT' _ (by have bw := hq; repeat first | (with_reducible exact bw) | (with_reducible refine below_on ?_ _) | (with_reducible refine below_alloc ?_ _))) (by simp [ByteArray.size, maxLen]))))))
          refine wpQuiet_nil ?_
          rintro _ ⟨u3, rfl⟩
          go_wp2_with fail
          exact ⟨⟨1, rfl, by omega, by omega, after (by repeat first | (with_reducible exact Below.refl _ _) | (with_reducible refine below_on ?_ _) | (with_reducible refine below_alloc ?_ _))⟩, by simp [intOf]⟩
        · clear d0 d2 d3 d4 d5 d6 d7 d8 d9 d10 d11 d12 d13 d14 d15
          go_wp2_with fail
          refine region_later (by kernel_rfl) (by kernel_rfl) ?_
          repeat (go_big_quiet_step ((first | (go_at_call 26; with_reducible exact Calls.later (line_any _ _ _)) | (go_at_call 25; with_reducible exact Calls.later (text_law _ _ _ _ (hT' _ (by have bw := hq; repeat first | (with_reducible exact bw) | (with_reducible refine below_on ?_ _) | (with_reducible refine below_alloc ?_ _))) (by simp [ByteArray.size, maxLen]))))))
          refine wpQuiet_nil ?_
          rintro _ ⟨u3, rfl⟩
          go_wp2_with fail
          exact ⟨⟨2, rfl, by omega, by omega, after (by repeat first | (with_reducible exact Below.refl _ _) | (with_reducible refine below_on ?_ _) | (with_reducible refine below_alloc ?_ _))⟩, by simp [intOf]⟩
        · clear d0 d1 d3 d4 d5 d6 d7 d8 d9 d10 d11 d12 d13 d14 d15
          go_wp2_with fail
          refine region_later (by kernel_rfl) (by kernel_rfl) ?_
          repeat (go_big_quiet_step ((first | (go_at_call 26; with_reducible exact Calls.later (line_any _ _ _)) | (go_at_call 25; with_reducible exact Calls.later (text_law _ _ _ _ (hT' _ (by have bw := hq; repeat first | (with_reducible exact bw) | (with_reducible refine below_on ?_ _) | (with_reducible refine below_alloc ?_ _))) (by simp [ByteArray.size, maxLen]))))))
          refine wpQuiet_nil ?_
          rintro _ ⟨u3, rfl⟩
          go_wp2_with fail
          exact ⟨⟨3, rfl, by omega, by omega, after (by repeat first | (with_reducible exact Below.refl _ _) | (with_reducible refine below_on ?_ _) | (with_reducible refine below_alloc ?_ _))⟩, by simp [intOf]⟩
        · clear d0 d1 d2 d4 d5 d6 d7 d8 d9 d10 d11 d12 d13 d14 d15
          go_wp2_with fail
          refine region_later (by kernel_rfl) (by kernel_rfl) ?_
          repeat (go_big_quiet_step ((first | (go_at_call 26; with_reducible exact Calls.later (line_any _ _ _)) | (go_at_call 25; with_reducible exact Calls.later (text_law _ _ _ _ (hT' _ (by have bw := hq; repeat first | (with_reducible exact bw) | (with_reducible refine below_on ?_ _) | (with_reducible refine below_alloc ?_ _))) (by simp [ByteArray.size, maxLen]))))))
          refine wpQuiet_nil ?_
          rintro _ ⟨u3, rfl⟩
          go_wp2_with fail
          exact ⟨⟨4, rfl, by omega, by omega, after (by repeat first | (with_reducible exact Below.refl _ _) | (with_reducible refine below_on ?_ _) | (with_reducible refine below_alloc ?_ _))⟩, by simp [intOf]⟩
        · clear d0 d1 d2 d3 d5 d6 d7 d8 d9 d10 d11 d12 d13 d14 d15
          go_wp2_with fail
          refine region_later (by kernel_rfl) (by kernel_rfl) ?_
          repeat (go_big_quiet_step ((first | (go_at_call 26; with_reducible exact Calls.later (line_any _ _ _)) | (go_at_call 25; with_reducible exact Calls.later (text_law _ _ _ _ (hT' _ (by have bw := hq; repeat first | (with_reducible exact bw) | (with_reducible refine below_on ?_ _) | (with_reducible refine below_alloc ?_ _))) (by simp [ByteArray.size, maxLen]))))))
          refine wpQuiet_nil ?_
          rintro _ ⟨u3, rfl⟩
          go_wp2_with fail
          exact ⟨⟨5, rfl, by omega, by omega, after (by repeat first | (with_reducible exact Below.refl _ _) | (with_reducible refine below_on ?_ _) | (with_reducible refine below_alloc ?_ _))⟩, by simp [intOf]⟩
        · clear d0 d1 d2 d3 d4 d6 d7 d8 d9 d10 d11 d12 d13 d14 d15
          go_wp2_with fail
          refine region_later (by kernel_rfl) (by kernel_rfl) ?_
          repeat (go_big_quiet_step ((first | (go_at_call 26; with_reducible exact Calls.later (line_any _ _ _)) | (go_at_call 25; with_reducible exact Calls.later (text_law _ _ _ _ (hT' _ (by have bw := hq; repeat first | (with_reducible exact bw) | (with_reducible refine below_on ?_ _) | (with_reducible refine below_alloc ?_ _))) (by simp [ByteArray.size, maxLen]))))))
          refine wpQuiet_nil ?_
          rintro _ ⟨u3, rfl⟩
          go_wp2_with fail
          exact ⟨⟨6, rfl, by omega, by omega, after (by repeat first | (with_reducible exact Below.refl _ _) | (with_reducible refine below_on ?_ _) | (with_reducible refine below_alloc ?_ _))⟩, by simp [intOf]⟩
        · clear d0 d1 d2 d3 d4 d5 d7 d8 d9 d10 d11 d12 d13 d14 d15
          go_wp2_with fail
          refine region_later (by kernel_rfl) (by kernel_rfl) ?_
          repeat (go_big_quiet_step ((first | (go_at_call 26; with_reducible exact Calls.later (line_any _ _ _)) | (go_at_call 25; with_reducible exact Calls.later (text_law _ _ _ _ (hT' _ (by have bw := hq; repeat first | (with_reducible exact bw) | (with_reducible refine below_on ?_ _) | (with_reducible refine below_alloc ?_ _))) (by simp [ByteArray.size, maxLen]))))))
          refine wpQuiet_nil ?_
          rintro _ ⟨u3, rfl⟩
          go_wp2_with fail
          exact ⟨⟨7, rfl, by omega, by omega, after (by repeat first | (with_reducible exact Below.refl _ _) | (with_reducible refine below_on ?_ _) | (with_reducible refine below_alloc ?_ _))⟩, by simp [intOf]⟩
        · clear d0 d1 d2 d3 d4 d5 d6 d8 d9 d10 d11 d12 d13 d14 d15
          go_wp2_with fail
          refine region_later (by kernel_rfl) (by kernel_rfl) ?_
          repeat (go_big_quiet_step ((first | (go_at_call 26; with_reducible exact Calls.later (line_any _ _ _)) | (go_at_call 25; with_reducible exact Calls.later (text_law _ _ _ _ (hT' _ (by have bw := hq; repeat first | (with_reducible exact bw) | (with_reducible refine below_on ?_ _) | (with_reducible refine below_alloc ?_ _))) (by simp [ByteArray.size, maxLen]))))))
          refine wpQuiet_nil ?_
          rintro _ ⟨u3, rfl⟩
          go_wp2_with fail
          exact ⟨⟨8, rfl, by omega, by omega, after (by repeat first | (with_reducible exact Below.refl _ _) | (with_reducible refine below_on ?_ _) | (with_reducible refine below_alloc ?_ _))⟩, by simp [intOf]⟩
        · clear d0 d1 d2 d3 d4 d5 d6 d7 d9 d10 d11 d12 d13 d14 d15
          go_wp2_with fail
          refine region_later (by kernel_rfl) (by kernel_rfl) ?_
          repeat (go_big_quiet_step ((first | (go_at_call 26; with_reducible exact Calls.later (line_any _ _ _)) | (go_at_call 25; with_reducible exact Calls.later (text_law _ _ _ _ (hT' _ (by have bw := hq; repeat first | (with_reducible exact bw) | (with_reducible refine below_on ?_ _) | (with_reducible refine below_alloc ?_ _))) (by simp [ByteArray.size, maxLen]))))))
          refine wpQuiet_nil ?_
          rintro _ ⟨u3, rfl⟩
          go_wp2_with fail
          exact ⟨⟨9, rfl, by omega, by omega, after (by repeat first | (with_reducible exact Below.refl _ _) | (with_reducible refine below_on ?_ _) | (with_reducible refine below_alloc ?_ _))⟩, by simp [intOf]⟩
        · clear d0 d1 d2 d3 d4 d5 d6 d7 d8 d10 d11 d12 d13 d14 d15
          go_wp2_with fail
          refine region_later (by kernel_rfl) (by kernel_rfl) ?_
          repeat (go_big_quiet_step ((first | (go_at_call 26; with_reducible exact Calls.later (line_any _ _ _)) | (go_at_call 25; with_reducible exact Calls.later (text_law _ _ _ _ (hT' _ (by have bw := hq; repeat first | (with_reducible exact bw) | (with_reducible refine below_on ?_ _) | (with_reducible refine below_alloc ?_ _))) (by simp [ByteArray.size, maxLen]))))))
          refine wpQuiet_nil ?_
          rintro _ ⟨u3, rfl⟩
          go_wp2_with fail
          exact ⟨⟨10, rfl, by omega, by omega, after (by repeat first | (with_reducible exact Below.refl _ _) | (with_reducible refine below_on ?_ _) | (with_reducible refine below_alloc ?_ _))⟩, by simp [intOf]⟩
        · clear d0 d1 d2 d3 d4 d5 d6 d7 d8 d9 d11 d12 d13 d14 d15
          go_wp2_with fail
          refine region_later (by kernel_rfl) (by kernel_rfl) ?_
          repeat (go_big_quiet_step ((first | (go_at_call 26; with_reducible exact Calls.later (line_any _ _ _)) | (go_at_call 25; with_reducible exact Calls.later (text_law _ _ _ _ (hT' _ (by have bw := hq; repeat first | (with_reducible exact bw) | (with_reducible refine below_on ?_ _) | (with_reducible refine below_alloc ?_ _))) (by simp [ByteArray.size, maxLen]))))))
          refine wpQuiet_nil ?_
          rintro _ ⟨u3, rfl⟩
          go_wp2_with fail
          exact ⟨⟨11, rfl, by omega, by omega, after (by repeat first | (with_reducible exact Below.refl _ _) | (with_reducible refine below_on ?_ _) | (with_reducible refine below_alloc ?_ _))⟩, by simp [intOf]⟩
        · clear d0 d1 d2 d3 d4 d5 d6 d7 d8 d9 d10 d12 d13 d14 d15
          go_wp2_with fail
          refine region_later (by kernel_rfl) (by kernel_rfl) ?_
          repeat (go_big_quiet_step ((first | (go_at_call 26; with_reducible exact Calls.later (line_any _ _ _)) | (go_at_call 25; with_reducible exact Calls.later (text_law _ _ _ _ (hT' _ (by have bw := hq; repeat first | (with_reducible exact bw) | (with_reducible refine below_on ?_ _) | (with_reducible refine below_alloc ?_ _))) (by simp [ByteArray.size, maxLen]))))))
          refine wpQuiet_nil ?_
          rintro _ ⟨u3, rfl⟩
          go_wp2_with fail
          exact ⟨⟨12, rfl, by omega, by omega, after (by repeat first | (with_reducible exact Below.refl _ _) | (with_reducible refine below_on ?_ _) | (with_reducible refine below_alloc ?_ _))⟩, by simp [intOf]⟩
        · clear d0 d1 d2 d3 d4 d5 d6 d7 d8 d9 d10 d11 d13 d14 d15
          go_wp2_with fail
          refine region_later (by kernel_rfl) (by kernel_rfl) ?_
          repeat (go_big_quiet_step ((first | (go_at_call 26; with_reducible exact Calls.later (line_any _ _ _)) | (go_at_call 25; with_reducible exact Calls.later (text_law _ _ _ _ (hT' _ (by have bw := hq; repeat first | (with_reducible exact bw) | (with_reducible refine below_on ?_ _) | (with_reducible refine below_alloc ?_ _))) (by simp [ByteArray.size, maxLen]))))))
          refine wpQuiet_nil ?_
          rintro _ ⟨u3, rfl⟩
          go_wp2_with fail
          exact ⟨⟨13, rfl, by omega, by omega, after (by repeat first | (with_reducible exact Below.refl _ _) | (with_reducible refine below_on ?_ _) | (with_reducible refine below_alloc ?_ _))⟩, by simp [intOf]⟩
        · clear d0 d1 d2 d3 d4 d5 d6 d7 d8 d9 d10 d11 d12 d14 d15
          go_wp2_with fail
          refine region_later (by kernel_rfl) (by kernel_rfl) ?_
          repeat (go_big_quiet_step ((first | (go_at_call 26; with_reducible exact Calls.later (line_any _ _ _)) | (go_at_call 25; with_reducible exact Calls.later (text_law _ _ _ _ (hT' _ (by have bw := hq; repeat first | (with_reducible exact bw) | (with_reducible refine below_on ?_ _) | (with_reducible refine below_alloc ?_ _))) (by simp [ByteArray.size, maxLen]))))))
          refine wpQuiet_nil ?_
          rintro _ ⟨u3, rfl⟩
          go_wp2_with fail
          exact ⟨⟨14, rfl, by omega, by omega, after (by repeat first | (with_reducible exact Below.refl _ _) | (with_reducible refine below_on ?_ _) | (with_reducible refine below_alloc ?_ _))⟩, by simp [intOf]⟩
        · clear d0 d1 d2 d3 d4 d5 d6 d7 d8 d9 d10 d11 d12 d13 d15
          go_wp2_with fail
          refine region_later (by kernel_rfl) (by kernel_rfl) ?_
          repeat (go_big_quiet_step ((first | (go_at_call 26; with_reducible exact Calls.later (line_any _ _ _)) | (go_at_call 25; with_reducible exact Calls.later (text_law _ _ _ _ (hT' _ (by have bw := hq; repeat first | (with_reducible exact bw) | (with_reducible refine below_on ?_ _) | (with_reducible refine below_alloc ?_ _))) (by simp [ByteArray.size, maxLen]))))))
          refine wpQuiet_nil ?_
          rintro _ ⟨u3, rfl⟩
          go_wp2_with fail
          exact ⟨⟨15, rfl, by omega, by omega, after (by repeat first | (with_reducible exact Below.refl _ _) | (with_reducible refine below_on ?_ _) | (with_reducible refine below_alloc ?_ _))⟩, by simp [intOf]⟩
        · clear d0 d1 d2 d3 d4 d5 d6 d7 d8 d9 d10 d11 d12 d13 d14
          go_wp2_with fail
          refine region_later (by kernel_rfl) (by kernel_rfl) ?_
          repeat (go_big_quiet_step ((first | (go_at_call 26; with_reducible exact Calls.later (line_any _ _ _)) | (go_at_call 25; with_reducible exact Calls.later (text_law _ _ _ _ (hT' _ (by have bw := hq; repeat first | (with_reducible exact bw) | (with_reducible refine below_on ?_ _) | (with_reducible refine below_alloc ?_ _))) (by simp [ByteArray.size, maxLen]))))))
          refine wpQuiet_nil ?_
          rintro _ ⟨u3, rfl⟩
          go_wp2_with fail
          exact ⟨⟨16, rfl, by omega, by omega, after (by repeat first | (with_reducible exact Below.refl _ _) | (with_reducible refine below_on ?_ _) | (with_reducible refine below_alloc ?_ _))⟩, by simp [intOf]⟩
        · go_wp2_with (first | (go_at_call 14; with_reducible refine (lives_ok _ (hT' _ (by have bw := hq; repeat first | (with_reducible exact bw) | (with_reducible refine below_on ?_ _) | (with_reducible refine below_alloc ?_ _)))).mono ?_; rintro e wx ⟨rfl, hx⟩; obtain ⟨ux, rfl⟩ := after hx; clear hx) | fail)
          go_ret
          exact ⟨rfl, by
            have bw := hq
            repeat first | (with_reducible exact bw) | (with_reducible refine below_on ?_ _) | (with_reducible refine below_alloc ?_ _)⟩

end Go.Proofs.YtbcmfenekpllhaaDoor
