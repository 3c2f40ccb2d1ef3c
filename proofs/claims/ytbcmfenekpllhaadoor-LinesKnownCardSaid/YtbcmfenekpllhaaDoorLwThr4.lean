/-
  Says: LinesThrough answers true at kind 4 and every point, where the librarys table stands as it was laid.
-/
import Derived.Test.YtbcmfenekpllhaaDoorLwThr0
set_option linter.unusedVariables false
set_option linter.unusedSimpArgs false
namespace Go.Proofs.YtbcmfenekpllhaaDoor
open Go Go.RowKit

attribute [local go_sem] World.cell?_alloc_some

set_option maxRecDepth 100000 in
set_option maxHeartbeats 8000000 in
theorem thr4_00lo (x y : Int) (w : World) (hT : Tab w) (h5 : -65536 ≤ x) (h6 : x ≤ 65536) (h7 : -65536 ≤ y) (h8 : y ≤ 65536) (hx : x % 2 = 0) (hy : y % 2 = 0) (m : Int) (hm : y - x = 2 * m) (hl : m < -4096) : Calls Tryd.prog 23 #[.int .u8 4, pt x y] w fun e w' => e = .returned (.bool true) ∧ Below w.heap.size w w' := by
  have hT' : ∀ W, Below w.heap.size w W → Tab W := fun W hb => tab_below hT hb
  have x0 : x.tmod 2 = 0 := tm_even x hx
  have y0 : y.tmod 2 = 0 := tm_even y hy
  have n0 : (-x + y).tmod 2 = 0 := tm_even _ (by omega)
  have g1 : -x + y < -8192 := by omega
  have HX : Hid (x % 2 = 0) := hx
  have HY : Hid (y % 2 = 0) := hy
  clear hx hy
  have HM : Hid (y - x = 2 * m) := hm
  clear hm
  go_enter Tryd.func23, Tryd.ntmps23
  go_wp2_with fail
  (go_at_call 51; with_reducible refine (through_far4 x y _ h5 h6 h7 h8 m HM.out (.inl hl)).mono ?_; rintro e wx ⟨rfl, hx⟩; obtain ⟨ux, rfl⟩ := after hx; clear hx)
  go_wp2_with fail
  have hB : Below w.heap.size w ((on ux).alloc (.cells #[.int .u8 0, .int .i64 0] 24)) := by repeat first | (with_reducible exact Below.refl _ _) | (with_reducible refine below_on ?_ _) | (with_reducible refine below_alloc ?_ _) | (with_reducible refine below_set ?_ (by simp; try omega) _) | (with_reducible refine below_drew ?_)
  have P0 : ((on ux).alloc (.cells #[.int .u8 0, .int .i64 0] 24)).cell? ⟨w.heap.size, 0, none⟩ = some (.int .i64 x) := by simp [go_sem]
  have P1 : ((on ux).alloc (.cells #[.int .u8 0, .int .i64 0] 24)).cell? ⟨w.heap.size, 1, none⟩ = some (.int .i64 y) := by simp [go_sem]
  have Q0 : ((on ux).alloc (.cells #[.int .u8 0, .int .i64 0] 24)).cell? ⟨(on ux).heap.size, 0, none⟩ = some (.int .u8 0) := by simp [go_sem]
  have Q1 : ((on ux).alloc (.cells #[.int .u8 0, .int .i64 0] 24)).cell? ⟨(on ux).heap.size, 1, none⟩ = some (.int .i64 0) := by simp [go_sem]
  generalize (on ux).alloc (.cells #[.int .u8 0, .int .i64 0] 24) = W1 at *
  generalize (on ux).heap.size = b1 at *
  clear ux
  go_wp2_with (first | (go_at_call 39; with_reducible refine (inside_yes x y _ h5 h6 h7 h8).mono ?_; rintro e wx ⟨rfl, hx⟩; obtain ⟨ux, rfl⟩ := after hx; clear hx) | (go_at_call 17; with_reducible refine (across_4 _).mono ?_; rintro e wx ⟨rfl, rfl⟩) | fail)
  have hB2 : Below w.heap.size w (on ux) := below_on hB ux
  have P0' : (on ux).cell? ⟨w.heap.size, 0, none⟩ = some (.int .i64 x) := by simp [go_sem, P0]
  have P1' : (on ux).cell? ⟨w.heap.size, 1, none⟩ = some (.int .i64 y) := by simp [go_sem, P1]
  have Q0' : (on ux).cell? ⟨b1, 0, none⟩ = some (.int .u8 0) := by simp [go_sem, Q0]
  have Q1' : (on ux).cell? ⟨b1, 1, none⟩ = some (.int .i64 0) := by simp [go_sem, Q1]
  clear P0 P1 Q0 Q1 hB
  generalize on ux = W3 at *
  clear ux
  go_loopw [11, 12] (fun mv iv wr => ∃ i m0 : Int, iv = .int .u8 i ∧ mv = .int .i64 m0 ∧ ((i = 1 ∧ m0 = 0) ∨ (i = 2 ∧ m0 = 1) ∨ (i = 3 ∧ m0 = 2) ∨ (i = 4 ∧ m0 = 3) ∨ (i = 5 ∧ m0 = 4)) ∧ ∃ u : Later W3, wr = on u) (fun _ iv _ => (5 - intOf iv).toNat)
  case atStart => exact ⟨1, 0, rfl, rfl, by omega, ⟨W3, Below.refl _ _⟩, rfl⟩
  case round =>
    obtain ⟨i, m0, rfl, rfl, hp, u0, rfl⟩ := hrel
    obtain ⟨rfl, rfl⟩ | ⟨rfl, rfl⟩ | ⟨rfl, rfl⟩ | ⟨rfl, rfl⟩ | ⟨rfl, rfl⟩ := hp
    · go_wp2_with (first | (go_at_call 51; (with_reducible refine (thr_even1 x y _ h5 h6 h7 h8 (by have h1 := HX.out; have h2 := HY.out; omega)).mono ?_); rintro e wx ⟨ra, rb, rr, rfl, r1, r2, hx⟩; obtain ⟨ux, rfl⟩ := after hx; clear hx) | fail)
      go_roundw
      case rel => exact ⟨1 + 1, 1, rfl, rfl, by omega, after (by repeat first | (with_reducible exact Below.refl _ _) | (with_reducible refine below_on ?_ _) | (with_reducible refine below_alloc ?_ _))⟩
      case measure => simp [intOf]
    · go_wp2_with (first | (go_at_call 51; (with_reducible refine (thr_even2 x y _ h5 h6 h7 h8 (by have h1 := HX.out; have h2 := HY.out; omega)).mono ?_); rintro e wx ⟨ra, rb, rr, rfl, r1, r2, hx⟩; obtain ⟨ux, rfl⟩ := after hx; clear hx) | fail)
      go_roundw
      case rel => exact ⟨2 + 1, 2, rfl, rfl, by omega, after (by repeat first | (with_reducible exact Below.refl _ _) | (with_reducible refine below_on ?_ _) | (with_reducible refine below_alloc ?_ _))⟩
      case measure => simp [intOf]
    · go_wp2_with (first | (go_at_call 51; (with_reducible refine (thr_even3 x y _ h5 h6 h7 h8 (by have h1 := HX.out; have h2 := HY.out; omega)).mono ?_); rintro e wx ⟨ra, rb, rr, rfl, r1, r2, hx⟩; obtain ⟨ux, rfl⟩ := after hx; clear hx) | fail)
      go_roundw
      case rel => exact ⟨3 + 1, 3, rfl, rfl, by omega, after (by repeat first | (with_reducible exact Below.refl _ _) | (with_reducible refine below_on ?_ _) | (with_reducible refine below_alloc ?_ _))⟩
      case measure => simp [intOf]
    · go_wp2_with (first | (go_at_call 51; (with_reducible refine (thr_even4 x y _ h5 h6 h7 h8 (by have h1 := HX.out; have h2 := HY.out; omega)).mono ?_); rintro e wx ⟨ra, rb, rr, rfl, r1, r2, hx⟩; obtain ⟨ux, rfl⟩ := after hx; clear hx) | fail)
      go_roundw
      case rel => exact ⟨4 + 1, 4, rfl, rfl, by omega, after (by repeat first | (with_reducible exact Below.refl _ _) | (with_reducible refine below_on ?_ _) | (with_reducible refine below_alloc ?_ _))⟩
      case measure => simp [intOf]
    · have hB3 : Below w.heap.size w (on u0) := below_on hB2 u0
      have T3 := hT' _ hB3
      go_wp2_with (first  | (go_at_call 14; with_reducible refine (lives_ok _ (hT' _ (by have bw := hB3; repeat first | exact bw | (with_reducible refine below_on ?_ _) | (with_reducible refine below_alloc ?_ _)))).mono ?_; rintro e wx ⟨rfl, hx⟩; obtain ⟨ux, rfl⟩ := after hx; clear hx) | fail)
      go_ret
      exact ⟨rfl, by
        have bw := hB3
        repeat first | exact bw | (with_reducible refine below_on ?_ _) | (with_reducible refine below_alloc ?_ _)⟩

set_option maxRecDepth 100000 in
set_option maxHeartbeats 8000000 in
theorem thr4_01oddlo (x y : Int) (w : World) (hT : Tab w) (h5 : -65536 ≤ x) (h6 : x ≤ 65536) (h7 : -65536 ≤ y) (h8 : y ≤ 65536) (hx : x % 2 = 0) (hy : y % 2 ≠ 0)  (g1 : -x + y < -8192) : Calls Tryd.prog 23 #[.int .u8 4, pt x y] w fun e w' => e = .returned (.bool true) ∧ Below w.heap.size w w' := by
  have hT' : ∀ W, Below w.heap.size w W → Tab W := fun W hb => tab_below hT hb
  have x0 : x.tmod 2 = 0 := tm_even x hx
  have y0 : (y.tmod 2 == 0) = false := tm_odd1 y hy
  have y1 : (y.tmod 2 != 0) = true := tm_odd2 y hy
  have y2 : (y % 2 != 0) = true := by simpa using hy
  have y3 : (y % 2 == 0) = false := by simpa using hy
  have n0 : ((-x + y).tmod 2 == 0) = false := tm_odd1 _ (by omega)
  have n1 : ((-x + y).tmod 2 != 0) = true := tm_odd2 _ (by omega)
  have n4 : (-x + y) % 2 ≠ 0 := by omega
  have n2 : ((-x + y) % 2 != 0) = true := by simpa using n4
  have n3 : ((-x + y) % 2 == 0) = false := by simpa using n4
  clear n4
  have HX : Hid (x % 2 = 0) := hx
  have HY : Hid (y % 2 ≠ 0) := hy
  clear hx hy
  go_enter Tryd.func23, Tryd.ntmps23
  go_wp2_with fail
  (go_at_call 51; with_reducible refine (through_odd4 x y _ h5 h6 h7 h8 (tm_odd _ (by have h1 := HX.out; have h2 := HY.out; omega))).mono ?_; rintro e wx ⟨rfl, hx⟩; obtain ⟨ux, rfl⟩ := after hx; clear hx)
  go_wp2_with fail
  have hB : Below w.heap.size w ((on ux).alloc (.cells #[.int .u8 0, .int .i64 0] 24)) := by repeat first | (with_reducible exact Below.refl _ _) | (with_reducible refine below_on ?_ _) | (with_reducible refine below_alloc ?_ _) | (with_reducible refine below_set ?_ (by simp; try omega) _) | (with_reducible refine below_drew ?_)
  have P0 : ((on ux).alloc (.cells #[.int .u8 0, .int .i64 0] 24)).cell? ⟨w.heap.size, 0, none⟩ = some (.int .i64 x) := by simp [go_sem]
  have P1 : ((on ux).alloc (.cells #[.int .u8 0, .int .i64 0] 24)).cell? ⟨w.heap.size, 1, none⟩ = some (.int .i64 y) := by simp [go_sem]
  have Q0 : ((on ux).alloc (.cells #[.int .u8 0, .int .i64 0] 24)).cell? ⟨(on ux).heap.size, 0, none⟩ = some (.int .u8 0) := by simp [go_sem]
  have Q1 : ((on ux).alloc (.cells #[.int .u8 0, .int .i64 0] 24)).cell? ⟨(on ux).heap.size, 1, none⟩ = some (.int .i64 0) := by simp [go_sem]
  generalize (on ux).alloc (.cells #[.int .u8 0, .int .i64 0] 24) = W1 at *
  generalize (on ux).heap.size = b1 at *
  clear ux
  go_wp2_with (first | (go_at_call 39; with_reducible refine (inside_yes x y _ h5 h6 h7 h8).mono ?_; rintro e wx ⟨rfl, hx⟩; obtain ⟨ux, rfl⟩ := after hx; clear hx) | (go_at_call 17; with_reducible refine (across_4 _).mono ?_; rintro e wx ⟨rfl, rfl⟩) | fail)
  have hB2 : Below w.heap.size w (on ux) := below_on hB ux
  have P0' : (on ux).cell? ⟨w.heap.size, 0, none⟩ = some (.int .i64 x) := by simp [go_sem, P0]
  have P1' : (on ux).cell? ⟨w.heap.size, 1, none⟩ = some (.int .i64 y) := by simp [go_sem, P1]
  have Q0' : (on ux).cell? ⟨b1, 0, none⟩ = some (.int .u8 0) := by simp [go_sem, Q0]
  have Q1' : (on ux).cell? ⟨b1, 1, none⟩ = some (.int .i64 0) := by simp [go_sem, Q1]
  clear P0 P1 Q0 Q1 hB
  generalize on ux = W3 at *
  clear ux
  go_loopw [11, 12] (fun mv iv wr => ∃ i m0 : Int, iv = .int .u8 i ∧ mv = .int .i64 m0 ∧ ((i = 1 ∧ m0 = 0) ∨ (i = 2 ∧ m0 = 1) ∨ (i = 3 ∧ m0 = 1) ∨ (i = 4 ∧ m0 = 1) ∨ (i = 5 ∧ m0 = 1)) ∧ ∃ u : Later W3, wr = on u) (fun _ iv _ => (5 - intOf iv).toNat)
  case atStart => exact ⟨1, 0, rfl, rfl, by omega, ⟨W3, Below.refl _ _⟩, rfl⟩
  case round =>
    obtain ⟨i, m0, rfl, rfl, hp, u0, rfl⟩ := hrel
    obtain ⟨rfl, rfl⟩ | ⟨rfl, rfl⟩ | ⟨rfl, rfl⟩ | ⟨rfl, rfl⟩ | ⟨rfl, rfl⟩ := hp
    · go_wp2_with (first | (go_at_call 51; (with_reducible refine (thr_even1 x y _ h5 h6 h7 h8 (by have h1 := HX.out; have h2 := HY.out; omega)).mono ?_); rintro e wx ⟨ra, rb, rr, rfl, r1, r2, hx⟩; obtain ⟨ux, rfl⟩ := after hx; clear hx) | fail)
      go_roundw
      case rel => exact ⟨1 + 1, 1, rfl, rfl, by omega, after (by repeat first | (with_reducible exact Below.refl _ _) | (with_reducible refine below_on ?_ _) | (with_reducible refine below_alloc ?_ _))⟩
      case measure => simp [intOf]
    · go_wp2_with (first | (go_at_call 51; with_reducible refine (through_odd2 x y _ h5 h6 h7 h8 (tm_odd _ (by have h1 := HX.out; have h2 := HY.out; omega))).mono ?_; rintro e wx ⟨rfl, hx⟩; obtain ⟨ux, rfl⟩ := after hx; clear hx) | fail)
      go_roundw
      case rel => exact ⟨2 + 1, 1, rfl, rfl, by omega, after (by repeat first | (with_reducible exact Below.refl _ _) | (with_reducible refine below_on ?_ _) | (with_reducible refine below_alloc ?_ _))⟩
      case measure => simp [intOf]
    · go_wp2_with (first | (go_at_call 51; with_reducible refine (through_odd3 x y _ h5 h6 h7 h8 (tm_odd _ (by have h1 := HX.out; have h2 := HY.out; omega))).mono ?_; rintro e wx ⟨rfl, hx⟩; obtain ⟨ux, rfl⟩ := after hx; clear hx) | fail)
      go_roundw
      case rel => exact ⟨3 + 1, 1, rfl, rfl, by omega, after (by repeat first | (with_reducible exact Below.refl _ _) | (with_reducible refine below_on ?_ _) | (with_reducible refine below_alloc ?_ _))⟩
      case measure => simp [intOf]
    · go_wp2_with (first | (go_at_call 51; with_reducible refine (through_odd4 x y _ h5 h6 h7 h8 (tm_odd _ (by have h1 := HX.out; have h2 := HY.out; omega))).mono ?_; rintro e wx ⟨rfl, hx⟩; obtain ⟨ux, rfl⟩ := after hx; clear hx) | fail)
      go_roundw
      case rel => exact ⟨4 + 1, 1, rfl, rfl, by omega, after (by repeat first | (with_reducible exact Below.refl _ _) | (with_reducible refine below_on ?_ _) | (with_reducible refine below_alloc ?_ _))⟩
      case measure => simp [intOf]
    · have hB3 : Below w.heap.size w (on u0) := below_on hB2 u0
      have T3 := hT' _ hB3
      go_wp2_with (first  | (go_at_call 14; with_reducible refine (lives_ok _ (hT' _ (by have bw := hB3; repeat first | exact bw | (with_reducible refine below_on ?_ _) | (with_reducible refine below_alloc ?_ _)))).mono ?_; rintro e wx ⟨rfl, hx⟩; obtain ⟨ux, rfl⟩ := after hx; clear hx) | fail)
      go_ret
      exact ⟨rfl, by
        have bw := hB3
        repeat first | exact bw | (with_reducible refine below_on ?_ _) | (with_reducible refine below_alloc ?_ _)⟩

set_option maxRecDepth 100000 in
set_option maxHeartbeats 8000000 in
theorem thr4_10oddlo (x y : Int) (w : World) (hT : Tab w) (h5 : -65536 ≤ x) (h6 : x ≤ 65536) (h7 : -65536 ≤ y) (h8 : y ≤ 65536) (hx : x % 2 ≠ 0) (hy : y % 2 = 0)  (g1 : -x + y < -8192) : Calls Tryd.prog 23 #[.int .u8 4, pt x y] w fun e w' => e = .returned (.bool true) ∧ Below w.heap.size w w' := by
  have hT' : ∀ W, Below w.heap.size w W → Tab W := fun W hb => tab_below hT hb
  have x0 : (x.tmod 2 == 0) = false := tm_odd1 x hx
  have x1 : (x.tmod 2 != 0) = true := tm_odd2 x hx
  have x2 : (x % 2 != 0) = true := by simpa using hx
  have x3 : (x % 2 == 0) = false := by simpa using hx
  have y0 : y.tmod 2 = 0 := tm_even y hy
  have n0 : ((-x + y).tmod 2 == 0) = false := tm_odd1 _ (by omega)
  have n1 : ((-x + y).tmod 2 != 0) = true := tm_odd2 _ (by omega)
  have n4 : (-x + y) % 2 ≠ 0 := by omega
  have n2 : ((-x + y) % 2 != 0) = true := by simpa using n4
  have n3 : ((-x + y) % 2 == 0) = false := by simpa using n4
  clear n4
  have HX : Hid (x % 2 ≠ 0) := hx
  have HY : Hid (y % 2 = 0) := hy
  clear hx hy
  go_enter Tryd.func23, Tryd.ntmps23
  go_wp2_with fail
  (go_at_call 51; with_reducible refine (through_odd4 x y _ h5 h6 h7 h8 (tm_odd _ (by have h1 := HX.out; have h2 := HY.out; omega))).mono ?_; rintro e wx ⟨rfl, hx⟩; obtain ⟨ux, rfl⟩ := after hx; clear hx)
  go_wp2_with fail
  have hB : Below w.heap.size w ((on ux).alloc (.cells #[.int .u8 0, .int .i64 0] 24)) := by repeat first | (with_reducible exact Below.refl _ _) | (with_reducible refine below_on ?_ _) | (with_reducible refine below_alloc ?_ _) | (with_reducible refine below_set ?_ (by simp; try omega) _) | (with_reducible refine below_drew ?_)
  have P0 : ((on ux).alloc (.cells #[.int .u8 0, .int .i64 0] 24)).cell? ⟨w.heap.size, 0, none⟩ = some (.int .i64 x) := by simp [go_sem]
  have P1 : ((on ux).alloc (.cells #[.int .u8 0, .int .i64 0] 24)).cell? ⟨w.heap.size, 1, none⟩ = some (.int .i64 y) := by simp [go_sem]
  have Q0 : ((on ux).alloc (.cells #[.int .u8 0, .int .i64 0] 24)).cell? ⟨(on ux).heap.size, 0, none⟩ = some (.int .u8 0) := by simp [go_sem]
  have Q1 : ((on ux).alloc (.cells #[.int .u8 0, .int .i64 0] 24)).cell? ⟨(on ux).heap.size, 1, none⟩ = some (.int .i64 0) := by simp [go_sem]
  generalize (on ux).alloc (.cells #[.int .u8 0, .int .i64 0] 24) = W1 at *
  generalize (on ux).heap.size = b1 at *
  clear ux
  go_wp2_with (first | (go_at_call 39; with_reducible refine (inside_yes x y _ h5 h6 h7 h8).mono ?_; rintro e wx ⟨rfl, hx⟩; obtain ⟨ux, rfl⟩ := after hx; clear hx) | (go_at_call 17; with_reducible refine (across_4 _).mono ?_; rintro e wx ⟨rfl, rfl⟩) | fail)
  have hB2 : Below w.heap.size w (on ux) := below_on hB ux
  have P0' : (on ux).cell? ⟨w.heap.size, 0, none⟩ = some (.int .i64 x) := by simp [go_sem, P0]
  have P1' : (on ux).cell? ⟨w.heap.size, 1, none⟩ = some (.int .i64 y) := by simp [go_sem, P1]
  have Q0' : (on ux).cell? ⟨b1, 0, none⟩ = some (.int .u8 0) := by simp [go_sem, Q0]
  have Q1' : (on ux).cell? ⟨b1, 1, none⟩ = some (.int .i64 0) := by simp [go_sem, Q1]
  clear P0 P1 Q0 Q1 hB
  generalize on ux = W3 at *
  clear ux
  go_loopw [11, 12] (fun mv iv wr => ∃ i m0 : Int, iv = .int .u8 i ∧ mv = .int .i64 m0 ∧ ((i = 1 ∧ m0 = 0) ∨ (i = 2 ∧ m0 = 0) ∨ (i = 3 ∧ m0 = 1) ∨ (i = 4 ∧ m0 = 1) ∨ (i = 5 ∧ m0 = 1)) ∧ ∃ u : Later W3, wr = on u) (fun _ iv _ => (5 - intOf iv).toNat)
  case atStart => exact ⟨1, 0, rfl, rfl, by omega, ⟨W3, Below.refl _ _⟩, rfl⟩
  case round =>
    obtain ⟨i, m0, rfl, rfl, hp, u0, rfl⟩ := hrel
    obtain ⟨rfl, rfl⟩ | ⟨rfl, rfl⟩ | ⟨rfl, rfl⟩ | ⟨rfl, rfl⟩ | ⟨rfl, rfl⟩ := hp
    · go_wp2_with (first | (go_at_call 51; with_reducible refine (through_odd1 x y _ h5 h6 h7 h8 (tm_odd _ (by have h1 := HX.out; have h2 := HY.out; omega))).mono ?_; rintro e wx ⟨rfl, hx⟩; obtain ⟨ux, rfl⟩ := after hx; clear hx) | fail)
      go_roundw
      case rel => exact ⟨1 + 1, 0, rfl, rfl, by omega, after (by repeat first | (with_reducible exact Below.refl _ _) | (with_reducible refine below_on ?_ _) | (with_reducible refine below_alloc ?_ _))⟩
      case measure => simp [intOf]
    · go_wp2_with (first | (go_at_call 51; (with_reducible refine (thr_even2 x y _ h5 h6 h7 h8 (by have h1 := HX.out; have h2 := HY.out; omega)).mono ?_); rintro e wx ⟨ra, rb, rr, rfl, r1, r2, hx⟩; obtain ⟨ux, rfl⟩ := after hx; clear hx) | fail)
      go_roundw
      case rel => exact ⟨2 + 1, 1, rfl, rfl, by omega, after (by repeat first | (with_reducible exact Below.refl _ _) | (with_reducible refine below_on ?_ _) | (with_reducible refine below_alloc ?_ _))⟩
      case measure => simp [intOf]
    · go_wp2_with (first | (go_at_call 51; with_reducible refine (through_odd3 x y _ h5 h6 h7 h8 (tm_odd _ (by have h1 := HX.out; have h2 := HY.out; omega))).mono ?_; rintro e wx ⟨rfl, hx⟩; obtain ⟨ux, rfl⟩ := after hx; clear hx) | fail)
      go_roundw
      case rel => exact ⟨3 + 1, 1, rfl, rfl, by omega, after (by repeat first | (with_reducible exact Below.refl _ _) | (with_reducible refine below_on ?_ _) | (with_reducible refine below_alloc ?_ _))⟩
      case measure => simp [intOf]
    · go_wp2_with (first | (go_at_call 51; with_reducible refine (through_odd4 x y _ h5 h6 h7 h8 (tm_odd _ (by have h1 := HX.out; have h2 := HY.out; omega))).mono ?_; rintro e wx ⟨rfl, hx⟩; obtain ⟨ux, rfl⟩ := after hx; clear hx) | fail)
      go_roundw
      case rel => exact ⟨4 + 1, 1, rfl, rfl, by omega, after (by repeat first | (with_reducible exact Below.refl _ _) | (with_reducible refine below_on ?_ _) | (with_reducible refine below_alloc ?_ _))⟩
      case measure => simp [intOf]
    · have hB3 : Below w.heap.size w (on u0) := below_on hB2 u0
      have T3 := hT' _ hB3
      go_wp2_with (first  | (go_at_call 14; with_reducible refine (lives_ok _ (hT' _ (by have bw := hB3; repeat first | exact bw | (with_reducible refine below_on ?_ _) | (with_reducible refine below_alloc ?_ _)))).mono ?_; rintro e wx ⟨rfl, hx⟩; obtain ⟨ux, rfl⟩ := after hx; clear hx) | fail)
      go_ret
      exact ⟨rfl, by
        have bw := hB3
        repeat first | exact bw | (with_reducible refine below_on ?_ _) | (with_reducible refine below_alloc ?_ _)⟩

set_option maxRecDepth 100000 in
set_option maxHeartbeats 8000000 in
theorem thr4_11lo (x y : Int) (w : World) (hT : Tab w) (h5 : -65536 ≤ x) (h6 : x ≤ 65536) (h7 : -65536 ≤ y) (h8 : y ≤ 65536) (hx : x % 2 ≠ 0) (hy : y % 2 ≠ 0) (m : Int) (hm : y - x = 2 * m) (hl : m < -4096) : Calls Tryd.prog 23 #[.int .u8 4, pt x y] w fun e w' => e = .returned (.bool true) ∧ Below w.heap.size w w' := by
  have hT' : ∀ W, Below w.heap.size w W → Tab W := fun W hb => tab_below hT hb
  have x0 : (x.tmod 2 == 0) = false := tm_odd1 x hx
  have x1 : (x.tmod 2 != 0) = true := tm_odd2 x hx
  have x2 : (x % 2 != 0) = true := by simpa using hx
  have x3 : (x % 2 == 0) = false := by simpa using hx
  have y0 : (y.tmod 2 == 0) = false := tm_odd1 y hy
  have y1 : (y.tmod 2 != 0) = true := tm_odd2 y hy
  have y2 : (y % 2 != 0) = true := by simpa using hy
  have y3 : (y % 2 == 0) = false := by simpa using hy
  have n0 : (-x + y).tmod 2 = 0 := tm_even _ (by omega)
  have g1 : -x + y < -8192 := by omega
  have HX : Hid (x % 2 ≠ 0) := hx
  have HY : Hid (y % 2 ≠ 0) := hy
  clear hx hy
  have HM : Hid (y - x = 2 * m) := hm
  clear hm
  go_enter Tryd.func23, Tryd.ntmps23
  go_wp2_with fail
  (go_at_call 51; with_reducible refine (through_far4 x y _ h5 h6 h7 h8 m HM.out (.inl hl)).mono ?_; rintro e wx ⟨rfl, hx⟩; obtain ⟨ux, rfl⟩ := after hx; clear hx)
  go_wp2_with fail
  have hB : Below w.heap.size w ((on ux).alloc (.cells #[.int .u8 0, .int .i64 0] 24)) := by repeat first | (with_reducible exact Below.refl _ _) | (with_reducible refine below_on ?_ _) | (with_reducible refine below_alloc ?_ _) | (with_reducible refine below_set ?_ (by simp; try omega) _) | (with_reducible refine below_drew ?_)
  have P0 : ((on ux).alloc (.cells #[.int .u8 0, .int .i64 0] 24)).cell? ⟨w.heap.size, 0, none⟩ = some (.int .i64 x) := by simp [go_sem]
  have P1 : ((on ux).alloc (.cells #[.int .u8 0, .int .i64 0] 24)).cell? ⟨w.heap.size, 1, none⟩ = some (.int .i64 y) := by simp [go_sem]
  have Q0 : ((on ux).alloc (.cells #[.int .u8 0, .int .i64 0] 24)).cell? ⟨(on ux).heap.size, 0, none⟩ = some (.int .u8 0) := by simp [go_sem]
  have Q1 : ((on ux).alloc (.cells #[.int .u8 0, .int .i64 0] 24)).cell? ⟨(on ux).heap.size, 1, none⟩ = some (.int .i64 0) := by simp [go_sem]
  generalize (on ux).alloc (.cells #[.int .u8 0, .int .i64 0] 24) = W1 at *
  generalize (on ux).heap.size = b1 at *
  clear ux
  go_wp2_with (first | (go_at_call 39; with_reducible refine (inside_yes x y _ h5 h6 h7 h8).mono ?_; rintro e wx ⟨rfl, hx⟩; obtain ⟨ux, rfl⟩ := after hx; clear hx) | (go_at_call 17; with_reducible refine (across_4 _).mono ?_; rintro e wx ⟨rfl, rfl⟩) | fail)
  have hB2 : Below w.heap.size w (on ux) := below_on hB ux
  have P0' : (on ux).cell? ⟨w.heap.size, 0, none⟩ = some (.int .i64 x) := by simp [go_sem, P0]
  have P1' : (on ux).cell? ⟨w.heap.size, 1, none⟩ = some (.int .i64 y) := by simp [go_sem, P1]
  have Q0' : (on ux).cell? ⟨b1, 0, none⟩ = some (.int .u8 0) := by simp [go_sem, Q0]
  have Q1' : (on ux).cell? ⟨b1, 1, none⟩ = some (.int .i64 0) := by simp [go_sem, Q1]
  clear P0 P1 Q0 Q1 hB
  generalize on ux = W3 at *
  clear ux
  go_loopw [11, 12] (fun mv iv wr => ∃ i m0 : Int, iv = .int .u8 i ∧ mv = .int .i64 m0 ∧ ((i = 1 ∧ m0 = 0) ∨ (i = 2 ∧ m0 = 0) ∨ (i = 3 ∧ m0 = 0) ∨ (i = 4 ∧ m0 = 1) ∨ (i = 5 ∧ m0 = 2)) ∧ ∃ u : Later W3, wr = on u) (fun _ iv _ => (5 - intOf iv).toNat)
  case atStart => exact ⟨1, 0, rfl, rfl, by omega, ⟨W3, Below.refl _ _⟩, rfl⟩
  case round =>
    obtain ⟨i, m0, rfl, rfl, hp, u0, rfl⟩ := hrel
    obtain ⟨rfl, rfl⟩ | ⟨rfl, rfl⟩ | ⟨rfl, rfl⟩ | ⟨rfl, rfl⟩ | ⟨rfl, rfl⟩ := hp
    · go_wp2_with (first | (go_at_call 51; with_reducible refine (through_odd1 x y _ h5 h6 h7 h8 (tm_odd _ (by have h1 := HX.out; have h2 := HY.out; omega))).mono ?_; rintro e wx ⟨rfl, hx⟩; obtain ⟨ux, rfl⟩ := after hx; clear hx) | fail)
      go_roundw
      case rel => exact ⟨1 + 1, 0, rfl, rfl, by omega, after (by repeat first | (with_reducible exact Below.refl _ _) | (with_reducible refine below_on ?_ _) | (with_reducible refine below_alloc ?_ _))⟩
      case measure => simp [intOf]
    · go_wp2_with (first | (go_at_call 51; with_reducible refine (through_odd2 x y _ h5 h6 h7 h8 (tm_odd _ (by have h1 := HX.out; have h2 := HY.out; omega))).mono ?_; rintro e wx ⟨rfl, hx⟩; obtain ⟨ux, rfl⟩ := after hx; clear hx) | fail)
      go_roundw
      case rel => exact ⟨2 + 1, 0, rfl, rfl, by omega, after (by repeat first | (with_reducible exact Below.refl _ _) | (with_reducible refine below_on ?_ _) | (with_reducible refine below_alloc ?_ _))⟩
      case measure => simp [intOf]
    · go_wp2_with (first | (go_at_call 51; (with_reducible refine (thr_even3 x y _ h5 h6 h7 h8 (by have h1 := HX.out; have h2 := HY.out; omega)).mono ?_); rintro e wx ⟨ra, rb, rr, rfl, r1, r2, hx⟩; obtain ⟨ux, rfl⟩ := after hx; clear hx) | fail)
      go_roundw
      case rel => exact ⟨3 + 1, 1, rfl, rfl, by omega, after (by repeat first | (with_reducible exact Below.refl _ _) | (with_reducible refine below_on ?_ _) | (with_reducible refine below_alloc ?_ _))⟩
      case measure => simp [intOf]
    · go_wp2_with (first | (go_at_call 51; (with_reducible refine (thr_even4 x y _ h5 h6 h7 h8 (by have h1 := HX.out; have h2 := HY.out; omega)).mono ?_); rintro e wx ⟨ra, rb, rr, rfl, r1, r2, hx⟩; obtain ⟨ux, rfl⟩ := after hx; clear hx) | fail)
      go_roundw
      case rel => exact ⟨4 + 1, 2, rfl, rfl, by omega, after (by repeat first | (with_reducible exact Below.refl _ _) | (with_reducible refine below_on ?_ _) | (with_reducible refine below_alloc ?_ _))⟩
      case measure => simp [intOf]
    · have hB3 : Below w.heap.size w (on u0) := below_on hB2 u0
      have T3 := hT' _ hB3
      go_wp2_with (first  | (go_at_call 14; with_reducible refine (lives_ok _ (hT' _ (by have bw := hB3; repeat first | exact bw | (with_reducible refine below_on ?_ _) | (with_reducible refine below_alloc ?_ _)))).mono ?_; rintro e wx ⟨rfl, hx⟩; obtain ⟨ux, rfl⟩ := after hx; clear hx) | fail)
      go_ret
      exact ⟨rfl, by
        have bw := hB3
        repeat first | exact bw | (with_reducible refine below_on ?_ _) | (with_reducible refine below_alloc ?_ _)⟩

set_option maxRecDepth 100000 in
set_option maxHeartbeats 8000000 in
theorem thr4_00hi (x y : Int) (w : World) (hT : Tab w) (h5 : -65536 ≤ x) (h6 : x ≤ 65536) (h7 : -65536 ≤ y) (h8 : y ≤ 65536) (hx : x % 2 = 0) (hy : y % 2 = 0) (m : Int) (hm : y - x = 2 * m) (hl : 4096 < m) : Calls Tryd.prog 23 #[.int .u8 4, pt x y] w fun e w' => e = .returned (.bool true) ∧ Below w.heap.size w w' := by
  have hT' : ∀ W, Below w.heap.size w W → Tab W := fun W hb => tab_below hT hb
  have x0 : x.tmod 2 = 0 := tm_even x hx
  have y0 : y.tmod 2 = 0 := tm_even y hy
  have n0 : (-x + y).tmod 2 = 0 := tm_even _ (by omega)
  have g1 : ¬ (-x + y < -8192) := by omega
  have g2 : 8192 < -x + y := by omega
  have HX : Hid (x % 2 = 0) := hx
  have HY : Hid (y % 2 = 0) := hy
  clear hx hy
  have HM : Hid (y - x = 2 * m) := hm
  clear hm
  go_enter Tryd.func23, Tryd.ntmps23
  go_wp2_with fail
  (go_at_call 51; with_reducible refine (through_far4 x y _ h5 h6 h7 h8 m HM.out (.inr hl)).mono ?_; rintro e wx ⟨rfl, hx⟩; obtain ⟨ux, rfl⟩ := after hx; clear hx)
  go_wp2_with fail
  have hB : Below w.heap.size w ((on ux).alloc (.cells #[.int .u8 0, .int .i64 0] 24)) := by repeat first | (with_reducible exact Below.refl _ _) | (with_reducible refine below_on ?_ _) | (with_reducible refine below_alloc ?_ _) | (with_reducible refine below_set ?_ (by simp; try omega) _) | (with_reducible refine below_drew ?_)
  have P0 : ((on ux).alloc (.cells #[.int .u8 0, .int .i64 0] 24)).cell? ⟨w.heap.size, 0, none⟩ = some (.int .i64 x) := by simp [go_sem]
  have P1 : ((on ux).alloc (.cells #[.int .u8 0, .int .i64 0] 24)).cell? ⟨w.heap.size, 1, none⟩ = some (.int .i64 y) := by simp [go_sem]
  have Q0 : ((on ux).alloc (.cells #[.int .u8 0, .int .i64 0] 24)).cell? ⟨(on ux).heap.size, 0, none⟩ = some (.int .u8 0) := by simp [go_sem]
  have Q1 : ((on ux).alloc (.cells #[.int .u8 0, .int .i64 0] 24)).cell? ⟨(on ux).heap.size, 1, none⟩ = some (.int .i64 0) := by simp [go_sem]
  generalize (on ux).alloc (.cells #[.int .u8 0, .int .i64 0] 24) = W1 at *
  generalize (on ux).heap.size = b1 at *
  clear ux
  go_wp2_with (first | (go_at_call 39; with_reducible refine (inside_yes x y _ h5 h6 h7 h8).mono ?_; rintro e wx ⟨rfl, hx⟩; obtain ⟨ux, rfl⟩ := after hx; clear hx) | (go_at_call 17; with_reducible refine (across_4 _).mono ?_; rintro e wx ⟨rfl, rfl⟩) | fail)
  have hB2 : Below w.heap.size w (on ux) := below_on hB ux
  have P0' : (on ux).cell? ⟨w.heap.size, 0, none⟩ = some (.int .i64 x) := by simp [go_sem, P0]
  have P1' : (on ux).cell? ⟨w.heap.size, 1, none⟩ = some (.int .i64 y) := by simp [go_sem, P1]
  have Q0' : (on ux).cell? ⟨b1, 0, none⟩ = some (.int .u8 0) := by simp [go_sem, Q0]
  have Q1' : (on ux).cell? ⟨b1, 1, none⟩ = some (.int .i64 0) := by simp [go_sem, Q1]
  clear P0 P1 Q0 Q1 hB
  generalize on ux = W3 at *
  clear ux
  go_loopw [11, 12] (fun mv iv wr => ∃ i m0 : Int, iv = .int .u8 i ∧ mv = .int .i64 m0 ∧ ((i = 1 ∧ m0 = 0) ∨ (i = 2 ∧ m0 = 1) ∨ (i = 3 ∧ m0 = 2) ∨ (i = 4 ∧ m0 = 3) ∨ (i = 5 ∧ m0 = 4)) ∧ ∃ u : Later W3, wr = on u) (fun _ iv _ => (5 - intOf iv).toNat)
  case atStart => exact ⟨1, 0, rfl, rfl, by omega, ⟨W3, Below.refl _ _⟩, rfl⟩
  case round =>
    obtain ⟨i, m0, rfl, rfl, hp, u0, rfl⟩ := hrel
    obtain ⟨rfl, rfl⟩ | ⟨rfl, rfl⟩ | ⟨rfl, rfl⟩ | ⟨rfl, rfl⟩ | ⟨rfl, rfl⟩ := hp
    · go_wp2_with (first | (go_at_call 51; (with_reducible refine (thr_even1 x y _ h5 h6 h7 h8 (by have h1 := HX.out; have h2 := HY.out; omega)).mono ?_); rintro e wx ⟨ra, rb, rr, rfl, r1, r2, hx⟩; obtain ⟨ux, rfl⟩ := after hx; clear hx) | fail)
      go_roundw
      case rel => exact ⟨1 + 1, 1, rfl, rfl, by omega, after (by repeat first | (with_reducible exact Below.refl _ _) | (with_reducible refine below_on ?_ _) | (with_reducible refine below_alloc ?_ _))⟩
      case measure => simp [intOf]
    · go_wp2_with (first | (go_at_call 51; (with_reducible refine (thr_even2 x y _ h5 h6 h7 h8 (by have h1 := HX.out; have h2 := HY.out; omega)).mono ?_); rintro e wx ⟨ra, rb, rr, rfl, r1, r2, hx⟩; obtain ⟨ux, rfl⟩ := after hx; clear hx) | fail)
      go_roundw
      case rel => exact ⟨2 + 1, 2, rfl, rfl, by omega, after (by repeat first | (with_reducible exact Below.refl _ _) | (with_reducible refine below_on ?_ _) | (with_reducible refine below_alloc ?_ _))⟩
      case measure => simp [intOf]
    · go_wp2_with (first | (go_at_call 51; (with_reducible refine (thr_even3 x y _ h5 h6 h7 h8 (by have h1 := HX.out; have h2 := HY.out; omega)).mono ?_); rintro e wx ⟨ra, rb, rr, rfl, r1, r2, hx⟩; obtain ⟨ux, rfl⟩ := after hx; clear hx) | fail)
      go_roundw
      case rel => exact ⟨3 + 1, 3, rfl, rfl, by omega, after (by repeat first | (with_reducible exact Below.refl _ _) | (with_reducible refine below_on ?_ _) | (with_reducible refine below_alloc ?_ _))⟩
      case measure => simp [intOf]
    · go_wp2_with (first | (go_at_call 51; (with_reducible refine (thr_even4 x y _ h5 h6 h7 h8 (by have h1 := HX.out; have h2 := HY.out; omega)).mono ?_); rintro e wx ⟨ra, rb, rr, rfl, r1, r2, hx⟩; obtain ⟨ux, rfl⟩ := after hx; clear hx) | fail)
      go_roundw
      case rel => exact ⟨4 + 1, 4, rfl, rfl, by omega, after (by repeat first | (with_reducible exact Below.refl _ _) | (with_reducible refine below_on ?_ _) | (with_reducible refine below_alloc ?_ _))⟩
      case measure => simp [intOf]
    · have hB3 : Below w.heap.size w (on u0) := below_on hB2 u0
      have T3 := hT' _ hB3
      go_wp2_with (first  | (go_at_call 14; with_reducible refine (lives_ok _ (hT' _ (by have bw := hB3; repeat first | exact bw | (with_reducible refine below_on ?_ _) | (with_reducible refine below_alloc ?_ _)))).mono ?_; rintro e wx ⟨rfl, hx⟩; obtain ⟨ux, rfl⟩ := after hx; clear hx) | fail)
      go_ret
      exact ⟨rfl, by
        have bw := hB3
        repeat first | exact bw | (with_reducible refine below_on ?_ _) | (with_reducible refine below_alloc ?_ _)⟩

set_option maxRecDepth 100000 in
set_option maxHeartbeats 8000000 in
theorem thr4_01oddhi (x y : Int) (w : World) (hT : Tab w) (h5 : -65536 ≤ x) (h6 : x ≤ 65536) (h7 : -65536 ≤ y) (h8 : y ≤ 65536) (hx : x % 2 = 0) (hy : y % 2 ≠ 0)  (g1 : ¬ (-x + y < -8192)) (g2 : 8192 < -x + y) : Calls Tryd.prog 23 #[.int .u8 4, pt x y] w fun e w' => e = .returned (.bool true) ∧ Below w.heap.size w w' := by
  have hT' : ∀ W, Below w.heap.size w W → Tab W := fun W hb => tab_below hT hb
  have x0 : x.tmod 2 = 0 := tm_even x hx
  have y0 : (y.tmod 2 == 0) = false := tm_odd1 y hy
  have y1 : (y.tmod 2 != 0) = true := tm_odd2 y hy
  have y2 : (y % 2 != 0) = true := by simpa using hy
  have y3 : (y % 2 == 0) = false := by simpa using hy
  have n0 : ((-x + y).tmod 2 == 0) = false := tm_odd1 _ (by omega)
  have n1 : ((-x + y).tmod 2 != 0) = true := tm_odd2 _ (by omega)
  have n4 : (-x + y) % 2 ≠ 0 := by omega
  have n2 : ((-x + y) % 2 != 0) = true := by simpa using n4
  have n3 : ((-x + y) % 2 == 0) = false := by simpa using n4
  clear n4
  have HX : Hid (x % 2 = 0) := hx
  have HY : Hid (y % 2 ≠ 0) := hy
  clear hx hy
  go_enter Tryd.func23, Tryd.ntmps23
  go_wp2_with fail
  (go_at_call 51; with_reducible refine (through_odd4 x y _ h5 h6 h7 h8 (tm_odd _ (by have h1 := HX.out; have h2 := HY.out; omega))).mono ?_; rintro e wx ⟨rfl, hx⟩; obtain ⟨ux, rfl⟩ := after hx; clear hx)
  go_wp2_with fail
  have hB : Below w.heap.size w ((on ux).alloc (.cells #[.int .u8 0, .int .i64 0] 24)) := by repeat first | (with_reducible exact Below.refl _ _) | (with_reducible refine below_on ?_ _) | (with_reducible refine below_alloc ?_ _) | (with_reducible refine below_set ?_ (by simp; try omega) _) | (with_reducible refine below_drew ?_)
  have P0 : ((on ux).alloc (.cells #[.int .u8 0, .int .i64 0] 24)).cell? ⟨w.heap.size, 0, none⟩ = some (.int .i64 x) := by simp [go_sem]
  have P1 : ((on ux).alloc (.cells #[.int .u8 0, .int .i64 0] 24)).cell? ⟨w.heap.size, 1, none⟩ = some (.int .i64 y) := by simp [go_sem]
  have Q0 : ((on ux).alloc (.cells #[.int .u8 0, .int .i64 0] 24)).cell? ⟨(on ux).heap.size, 0, none⟩ = some (.int .u8 0) := by simp [go_sem]
  have Q1 : ((on ux).alloc (.cells #[.int .u8 0, .int .i64 0] 24)).cell? ⟨(on ux).heap.size, 1, none⟩ = some (.int .i64 0) := by simp [go_sem]
  generalize (on ux).alloc (.cells #[.int .u8 0, .int .i64 0] 24) = W1 at *
  generalize (on ux).heap.size = b1 at *
  clear ux
  go_wp2_with (first | (go_at_call 39; with_reducible refine (inside_yes x y _ h5 h6 h7 h8).mono ?_; rintro e wx ⟨rfl, hx⟩; obtain ⟨ux, rfl⟩ := after hx; clear hx) | (go_at_call 17; with_reducible refine (across_4 _).mono ?_; rintro e wx ⟨rfl, rfl⟩) | fail)
  have hB2 : Below w.heap.size w (on ux) := below_on hB ux
  have P0' : (on ux).cell? ⟨w.heap.size, 0, none⟩ = some (.int .i64 x) := by simp [go_sem, P0]
  have P1' : (on ux).cell? ⟨w.heap.size, 1, none⟩ = some (.int .i64 y) := by simp [go_sem, P1]
  have Q0' : (on ux).cell? ⟨b1, 0, none⟩ = some (.int .u8 0) := by simp [go_sem, Q0]
  have Q1' : (on ux).cell? ⟨b1, 1, none⟩ = some (.int .i64 0) := by simp [go_sem, Q1]
  clear P0 P1 Q0 Q1 hB
  generalize on ux = W3 at *
  clear ux
  go_loopw [11, 12] (fun mv iv wr => ∃ i m0 : Int, iv = .int .u8 i ∧ mv = .int .i64 m0 ∧ ((i = 1 ∧ m0 = 0) ∨ (i = 2 ∧ m0 = 1) ∨ (i = 3 ∧ m0 = 1) ∨ (i = 4 ∧ m0 = 1) ∨ (i = 5 ∧ m0 = 1)) ∧ ∃ u : Later W3, wr = on u) (fun _ iv _ => (5 - intOf iv).toNat)
  case atStart => exact ⟨1, 0, rfl, rfl, by omega, ⟨W3, Below.refl _ _⟩, rfl⟩
  case round =>
    obtain ⟨i, m0, rfl, rfl, hp, u0, rfl⟩ := hrel
    obtain ⟨rfl, rfl⟩ | ⟨rfl, rfl⟩ | ⟨rfl, rfl⟩ | ⟨rfl, rfl⟩ | ⟨rfl, rfl⟩ := hp
    · go_wp2_with (first | (go_at_call 51; (with_reducible refine (thr_even1 x y _ h5 h6 h7 h8 (by have h1 := HX.out; have h2 := HY.out; omega)).mono ?_); rintro e wx ⟨ra, rb, rr, rfl, r1, r2, hx⟩; obtain ⟨ux, rfl⟩ := after hx; clear hx) | fail)
      go_roundw
      case rel => exact ⟨1 + 1, 1, rfl, rfl, by omega, after (by repeat first | (with_reducible exact Below.refl _ _) | (with_reducible refine below_on ?_ _) | (with_reducible refine below_alloc ?_ _))⟩
      case measure => simp [intOf]
    · go_wp2_with (first | (go_at_call 51; with_reducible refine (through_odd2 x y _ h5 h6 h7 h8 (tm_odd _ (by have h1 := HX.out; have h2 := HY.out; omega))).mono ?_; rintro e wx ⟨rfl, hx⟩; obtain ⟨ux, rfl⟩ := after hx; clear hx) | fail)
      go_roundw
      case rel => exact ⟨2 + 1, 1, rfl, rfl, by omega, after (by repeat first | (with_reducible exact Below.refl _ _) | (with_reducible refine below_on ?_ _) | (with_reducible refine below_alloc ?_ _))⟩
      case measure => simp [intOf]
    · go_wp2_with (first | (go_at_call 51; with_reducible refine (through_odd3 x y _ h5 h6 h7 h8 (tm_odd _ (by have h1 := HX.out; have h2 := HY.out; omega))).mono ?_; rintro e wx ⟨rfl, hx⟩; obtain ⟨ux, rfl⟩ := after hx; clear hx) | fail)
      go_roundw
      case rel => exact ⟨3 + 1, 1, rfl, rfl, by omega, after (by repeat first | (with_reducible exact Below.refl _ _) | (with_reducible refine below_on ?_ _) | (with_reducible refine below_alloc ?_ _))⟩
      case measure => simp [intOf]
    · go_wp2_with (first | (go_at_call 51; with_reducible refine (through_odd4 x y _ h5 h6 h7 h8 (tm_odd _ (by have h1 := HX.out; have h2 := HY.out; omega))).mono ?_; rintro e wx ⟨rfl, hx⟩; obtain ⟨ux, rfl⟩ := after hx; clear hx) | fail)
      go_roundw
      case rel => exact ⟨4 + 1, 1, rfl, rfl, by omega, after (by repeat first | (with_reducible exact Below.refl _ _) | (with_reducible refine below_on ?_ _) | (with_reducible refine below_alloc ?_ _))⟩
      case measure => simp [intOf]
    · have hB3 : Below w.heap.size w (on u0) := below_on hB2 u0
      have T3 := hT' _ hB3
      go_wp2_with (first  | (go_at_call 14; with_reducible refine (lives_ok _ (hT' _ (by have bw := hB3; repeat first | exact bw | (with_reducible refine below_on ?_ _) | (with_reducible refine below_alloc ?_ _)))).mono ?_; rintro e wx ⟨rfl, hx⟩; obtain ⟨ux, rfl⟩ := after hx; clear hx) | fail)
      go_ret
      exact ⟨rfl, by
        have bw := hB3
        repeat first | exact bw | (with_reducible refine below_on ?_ _) | (with_reducible refine below_alloc ?_ _)⟩

set_option maxRecDepth 100000 in
set_option maxHeartbeats 8000000 in
theorem thr4_10oddhi (x y : Int) (w : World) (hT : Tab w) (h5 : -65536 ≤ x) (h6 : x ≤ 65536) (h7 : -65536 ≤ y) (h8 : y ≤ 65536) (hx : x % 2 ≠ 0) (hy : y % 2 = 0)  (g1 : ¬ (-x + y < -8192)) (g2 : 8192 < -x + y) : Calls Tryd.prog 23 #[.int .u8 4, pt x y] w fun e w' => e = .returned (.bool true) ∧ Below w.heap.size w w' := by
  have hT' : ∀ W, Below w.heap.size w W → Tab W := fun W hb => tab_below hT hb
  have x0 : (x.tmod 2 == 0) = false := tm_odd1 x hx
  have x1 : (x.tmod 2 != 0) = true := tm_odd2 x hx
  have x2 : (x % 2 != 0) = true := by simpa using hx
  have x3 : (x % 2 == 0) = false := by simpa using hx
  have y0 : y.tmod 2 = 0 := tm_even y hy
  have n0 : ((-x + y).tmod 2 == 0) = false := tm_odd1 _ (by omega)
  have n1 : ((-x + y).tmod 2 != 0) = true := tm_odd2 _ (by omega)
  have n4 : (-x + y) % 2 ≠ 0 := by omega
  have n2 : ((-x + y) % 2 != 0) = true := by simpa using n4
  have n3 : ((-x + y) % 2 == 0) = false := by simpa using n4
  clear n4
  have HX : Hid (x % 2 ≠ 0) := hx
  have HY : Hid (y % 2 = 0) := hy
  clear hx hy
  go_enter Tryd.func23, Tryd.ntmps23
  go_wp2_with fail
  (go_at_call 51; with_reducible refine (through_odd4 x y _ h5 h6 h7 h8 (tm_odd _ (by have h1 := HX.out; have h2 := HY.out; omega))).mono ?_; rintro e wx ⟨rfl, hx⟩; obtain ⟨ux, rfl⟩ := after hx; clear hx)
  go_wp2_with fail
  have hB : Below w.heap.size w ((on ux).alloc (.cells #[.int .u8 0, .int .i64 0] 24)) := by repeat first | (with_reducible exact Below.refl _ _) | (with_reducible refine below_on ?_ _) | (with_reducible refine below_alloc ?_ _) | (with_reducible refine below_set ?_ (by simp; try omega) _) | (with_reducible refine below_drew ?_)
  have P0 : ((on ux).alloc (.cells #[.int .u8 0, .int .i64 0] 24)).cell? ⟨w.heap.size, 0, none⟩ = some (.int .i64 x) := by simp [go_sem]
  have P1 : ((on ux).alloc (.cells #[.int .u8 0, .int .i64 0] 24)).cell? ⟨w.heap.size, 1, none⟩ = some (.int .i64 y) := by simp [go_sem]
  have Q0 : ((on ux).alloc (.cells #[.int .u8 0, .int .i64 0] 24)).cell? ⟨(on ux).heap.size, 0, none⟩ = some (.int .u8 0) := by simp [go_sem]
  have Q1 : ((on ux).alloc (.cells #[.int .u8 0, .int .i64 0] 24)).cell? ⟨(on ux).heap.size, 1, none⟩ = some (.int .i64 0) := by simp [go_sem]
  generalize (on ux).alloc (.cells #[.int .u8 0, .int .i64 0] 24) = W1 at *
  generalize (on ux).heap.size = b1 at *
  clear ux
  go_wp2_with (first | (go_at_call 39; with_reducible refine (inside_yes x y _ h5 h6 h7 h8).mono ?_; rintro e wx ⟨rfl, hx⟩; obtain ⟨ux, rfl⟩ := after hx; clear hx) | (go_at_call 17; with_reducible refine (across_4 _).mono ?_; rintro e wx ⟨rfl, rfl⟩) | fail)
  have hB2 : Below w.heap.size w (on ux) := below_on hB ux
  have P0' : (on ux).cell? ⟨w.heap.size, 0, none⟩ = some (.int .i64 x) := by simp [go_sem, P0]
  have P1' : (on ux).cell? ⟨w.heap.size, 1, none⟩ = some (.int .i64 y) := by simp [go_sem, P1]
  have Q0' : (on ux).cell? ⟨b1, 0, none⟩ = some (.int .u8 0) := by simp [go_sem, Q0]
  have Q1' : (on ux).cell? ⟨b1, 1, none⟩ = some (.int .i64 0) := by simp [go_sem, Q1]
  clear P0 P1 Q0 Q1 hB
  generalize on ux = W3 at *
  clear ux
  go_loopw [11, 12] (fun mv iv wr => ∃ i m0 : Int, iv = .int .u8 i ∧ mv = .int .i64 m0 ∧ ((i = 1 ∧ m0 = 0) ∨ (i = 2 ∧ m0 = 0) ∨ (i = 3 ∧ m0 = 1) ∨ (i = 4 ∧ m0 = 1) ∨ (i = 5 ∧ m0 = 1)) ∧ ∃ u : Later W3, wr = on u) (fun _ iv _ => (5 - intOf iv).toNat)
  case atStart => exact ⟨1, 0, rfl, rfl, by omega, ⟨W3, Below.refl _ _⟩, rfl⟩
  case round =>
    obtain ⟨i, m0, rfl, rfl, hp, u0, rfl⟩ := hrel
    obtain ⟨rfl, rfl⟩ | ⟨rfl, rfl⟩ | ⟨rfl, rfl⟩ | ⟨rfl, rfl⟩ | ⟨rfl, rfl⟩ := hp
    · go_wp2_with (first | (go_at_call 51; with_reducible refine (through_odd1 x y _ h5 h6 h7 h8 (tm_odd _ (by have h1 := HX.out; have h2 := HY.out; omega))).mono ?_; rintro e wx ⟨rfl, hx⟩; obtain ⟨ux, rfl⟩ := after hx; clear hx) | fail)
      go_roundw
      case rel => exact ⟨1 + 1, 0, rfl, rfl, by omega, after (by repeat first | (with_reducible exact Below.refl _ _) | (with_reducible refine below_on ?_ _) | (with_reducible refine below_alloc ?_ _))⟩
      case measure => simp [intOf]
    · go_wp2_with (first | (go_at_call 51; (with_reducible refine (thr_even2 x y _ h5 h6 h7 h8 (by have h1 := HX.out; have h2 := HY.out; omega)).mono ?_); rintro e wx ⟨ra, rb, rr, rfl, r1, r2, hx⟩; obtain ⟨ux, rfl⟩ := after hx; clear hx) | fail)
      go_roundw
      case rel => exact ⟨2 + 1, 1, rfl, rfl, by omega, after (by repeat first | (with_reducible exact Below.refl _ _) | (with_reducible refine below_on ?_ _) | (with_reducible refine below_alloc ?_ _))⟩
      case measure => simp [intOf]
    · go_wp2_with (first | (go_at_call 51; with_reducible refine (through_odd3 x y _ h5 h6 h7 h8 (tm_odd _ (by have h1 := HX.out; have h2 := HY.out; omega))).mono ?_; rintro e wx ⟨rfl, hx⟩; obtain ⟨ux, rfl⟩ := after hx; clear hx) | fail)
      go_roundw
      case rel => exact ⟨3 + 1, 1, rfl, rfl, by omega, after (by repeat first | (with_reducible exact Below.refl _ _) | (with_reducible refine below_on ?_ _) | (with_reducible refine below_alloc ?_ _))⟩
      case measure => simp [intOf]
    · go_wp2_with (first | (go_at_call 51; with_reducible refine (through_odd4 x y _ h5 h6 h7 h8 (tm_odd _ (by have h1 := HX.out; have h2 := HY.out; omega))).mono ?_; rintro e wx ⟨rfl, hx⟩; obtain ⟨ux, rfl⟩ := after hx; clear hx) | fail)
      go_roundw
      case rel => exact ⟨4 + 1, 1, rfl, rfl, by omega, after (by repeat first | (with_reducible exact Below.refl _ _) | (with_reducible refine below_on ?_ _) | (with_reducible refine below_alloc ?_ _))⟩
      case measure => simp [intOf]
    · have hB3 : Below w.heap.size w (on u0) := below_on hB2 u0
      have T3 := hT' _ hB3
      go_wp2_with (first  | (go_at_call 14; with_reducible refine (lives_ok _ (hT' _ (by have bw := hB3; repeat first | exact bw | (with_reducible refine below_on ?_ _) | (with_reducible refine below_alloc ?_ _)))).mono ?_; rintro e wx ⟨rfl, hx⟩; obtain ⟨ux, rfl⟩ := after hx; clear hx) | fail)
      go_ret
      exact ⟨rfl, by
        have bw := hB3
        repeat first | exact bw | (with_reducible refine below_on ?_ _) | (with_reducible refine below_alloc ?_ _)⟩

set_option maxRecDepth 100000 in
set_option maxHeartbeats 8000000 in
theorem thr4_11hi (x y : Int) (w : World) (hT : Tab w) (h5 : -65536 ≤ x) (h6 : x ≤ 65536) (h7 : -65536 ≤ y) (h8 : y ≤ 65536) (hx : x % 2 ≠ 0) (hy : y % 2 ≠ 0) (m : Int) (hm : y - x = 2 * m) (hl : 4096 < m) : Calls Tryd.prog 23 #[.int .u8 4, pt x y] w fun e w' => e = .returned (.bool true) ∧ Below w.heap.size w w' := by
  have hT' : ∀ W, Below w.heap.size w W → Tab W := fun W hb => tab_below hT hb
  have x0 : (x.tmod 2 == 0) = false := tm_odd1 x hx
  have x1 : (x.tmod 2 != 0) = true := tm_odd2 x hx
  have x2 : (x % 2 != 0) = true := by simpa using hx
  have x3 : (x % 2 == 0) = false := by simpa using hx
  have y0 : (y.tmod 2 == 0) = false := tm_odd1 y hy
  have y1 : (y.tmod 2 != 0) = true := tm_odd2 y hy
  have y2 : (y % 2 != 0) = true := by simpa using hy
  have y3 : (y % 2 == 0) = false := by simpa using hy
  have n0 : (-x + y).tmod 2 = 0 := tm_even _ (by omega)
  have g1 : ¬ (-x + y < -8192) := by omega
  have g2 : 8192 < -x + y := by omega
  have HX : Hid (x % 2 ≠ 0) := hx
  have HY : Hid (y % 2 ≠ 0) := hy
  clear hx hy
  have HM : Hid (y - x = 2 * m) := hm
  clear hm
  go_enter Tryd.func23, Tryd.ntmps23
  go_wp2_with fail
  (go_at_call 51; with_reducible refine (through_far4 x y _ h5 h6 h7 h8 m HM.out (.inr hl)).mono ?_; rintro e wx ⟨rfl, hx⟩; obtain ⟨ux, rfl⟩ := after hx; clear hx)
  go_wp2_with fail
  have hB : Below w.heap.size w ((on ux).alloc (.cells #[.int .u8 0, .int .i64 0] 24)) := by repeat first | (with_reducible exact Below.refl _ _) | (with_reducible refine below_on ?_ _) | (with_reducible refine below_alloc ?_ _) | (with_reducible refine below_set ?_ (by simp; try omega) _) | (with_reducible refine below_drew ?_)
  have P0 : ((on ux).alloc (.cells #[.int .u8 0, .int .i64 0] 24)).cell? ⟨w.heap.size, 0, none⟩ = some (.int .i64 x) := by simp [go_sem]
  have P1 : ((on ux).alloc (.cells #[.int .u8 0, .int .i64 0] 24)).cell? ⟨w.heap.size, 1, none⟩ = some (.int .i64 y) := by simp [go_sem]
  have Q0 : ((on ux).alloc (.cells #[.int .u8 0, .int .i64 0] 24)).cell? ⟨(on ux).heap.size, 0, none⟩ = some (.int .u8 0) := by simp [go_sem]
  have Q1 : ((on ux).alloc (.cells #[.int .u8 0, .int .i64 0] 24)).cell? ⟨(on ux).heap.size, 1, none⟩ = some (.int .i64 0) := by simp [go_sem]
  generalize (on ux).alloc (.cells #[.int .u8 0, .int .i64 0] 24) = W1 at *
  generalize (on ux).heap.size = b1 at *
  clear ux
  go_wp2_with (first | (go_at_call 39; with_reducible refine (inside_yes x y _ h5 h6 h7 h8).mono ?_; rintro e wx ⟨rfl, hx⟩; obtain ⟨ux, rfl⟩ := after hx; clear hx) | (go_at_call 17; with_reducible refine (across_4 _).mono ?_; rintro e wx ⟨rfl, rfl⟩) | fail)
  have hB2 : Below w.heap.size w (on ux) := below_on hB ux
  have P0' : (on ux).cell? ⟨w.heap.size, 0, none⟩ = some (.int .i64 x) := by simp [go_sem, P0]
  have P1' : (on ux).cell? ⟨w.heap.size, 1, none⟩ = some (.int .i64 y) := by simp [go_sem, P1]
  have Q0' : (on ux).cell? ⟨b1, 0, none⟩ = some (.int .u8 0) := by simp [go_sem, Q0]
  have Q1' : (on ux).cell? ⟨b1, 1, none⟩ = some (.int .i64 0) := by simp [go_sem, Q1]
  clear P0 P1 Q0 Q1 hB
  generalize on ux = W3 at *
  clear ux
  go_loopw [11, 12] (fun mv iv wr => ∃ i m0 : Int, iv = .int .u8 i ∧ mv = .int .i64 m0 ∧ ((i = 1 ∧ m0 = 0) ∨ (i = 2 ∧ m0 = 0) ∨ (i = 3 ∧ m0 = 0) ∨ (i = 4 ∧ m0 = 1) ∨ (i = 5 ∧ m0 = 2)) ∧ ∃ u : Later W3, wr = on u) (fun _ iv _ => (5 - intOf iv).toNat)
  case atStart => exact ⟨1, 0, rfl, rfl, by omega, ⟨W3, Below.refl _ _⟩, rfl⟩
  case round =>
    obtain ⟨i, m0, rfl, rfl, hp, u0, rfl⟩ := hrel
    obtain ⟨rfl, rfl⟩ | ⟨rfl, rfl⟩ | ⟨rfl, rfl⟩ | ⟨rfl, rfl⟩ | ⟨rfl, rfl⟩ := hp
    · go_wp2_with (first | (go_at_call 51; with_reducible refine (through_odd1 x y _ h5 h6 h7 h8 (tm_odd _ (by have h1 := HX.out; have h2 := HY.out; omega))).mono ?_; rintro e wx ⟨rfl, hx⟩; obtain ⟨ux, rfl⟩ := after hx; clear hx) | fail)
      go_roundw
      case rel => exact ⟨1 + 1, 0, rfl, rfl, by omega, after (by repeat first | (with_reducible exact Below.refl _ _) | (with_reducible refine below_on ?_ _) | (with_reducible refine below_alloc ?_ _))⟩
      case measure => simp [intOf]
    · go_wp2_with (first | (go_at_call 51; with_reducible refine (through_odd2 x y _ h5 h6 h7 h8 (tm_odd _ (by have h1 := HX.out; have h2 := HY.out; omega))).mono ?_; rintro e wx ⟨rfl, hx⟩; obtain ⟨ux, rfl⟩ := after hx; clear hx) | fail)
      go_roundw
      case rel => exact ⟨2 + 1, 0, rfl, rfl, by omega, after (by repeat first | (with_reducible exact Below.refl _ _) | (with_reducible refine below_on ?_ _) | (with_reducible refine below_alloc ?_ _))⟩
      case measure => simp [intOf]
    · go_wp2_with (first | (go_at_call 51; (with_reducible refine (thr_even3 x y _ h5 h6 h7 h8 (by have h1 := HX.out; have h2 := HY.out; omega)).mono ?_); rintro e wx ⟨ra, rb, rr, rfl, r1, r2, hx⟩; obtain ⟨ux, rfl⟩ := after hx; clear hx) | fail)
      go_roundw
      case rel => exact ⟨3 + 1, 1, rfl, rfl, by omega, after (by repeat first | (with_reducible exact Below.refl _ _) | (with_reducible refine below_on ?_ _) | (with_reducible refine below_alloc ?_ _))⟩
      case measure => simp [intOf]
    · go_wp2_with (first | (go_at_call 51; (with_reducible refine (thr_even4 x y _ h5 h6 h7 h8 (by have h1 := HX.out; have h2 := HY.out; omega)).mono ?_); rintro e wx ⟨ra, rb, rr, rfl, r1, r2, hx⟩; obtain ⟨ux, rfl⟩ := after hx; clear hx) | fail)
      go_roundw
      case rel => exact ⟨4 + 1, 2, rfl, rfl, by omega, after (by repeat first | (with_reducible exact Below.refl _ _) | (with_reducible refine below_on ?_ _) | (with_reducible refine below_alloc ?_ _))⟩
      case measure => simp [intOf]
    · have hB3 : Below w.heap.size w (on u0) := below_on hB2 u0
      have T3 := hT' _ hB3
      go_wp2_with (first  | (go_at_call 14; with_reducible refine (lives_ok _ (hT' _ (by have bw := hB3; repeat first | exact bw | (with_reducible refine below_on ?_ _) | (with_reducible refine below_alloc ?_ _)))).mono ?_; rintro e wx ⟨rfl, hx⟩; obtain ⟨ux, rfl⟩ := after hx; clear hx) | fail)
      go_ret
      exact ⟨rfl, by
        have bw := hB3
        repeat first | exact bw | (with_reducible refine below_on ?_ _) | (with_reducible refine below_alloc ?_ _)⟩

set_option maxRecDepth 100000 in
set_option maxHeartbeats 8000000 in
theorem thr4_00ok (x y : Int) (w : World) (hT : Tab w) (h5 : -65536 ≤ x) (h6 : x ≤ 65536) (h7 : -65536 ≤ y) (h8 : y ≤ 65536) (hx : x % 2 = 0) (hy : y % 2 = 0) (m : Int) (hm : y - x = 2 * m) (hl : -4096 ≤ m) (hl2 : m ≤ 4096) : Calls Tryd.prog 23 #[.int .u8 4, pt x y] w fun e w' => e = .returned (.bool true) ∧ Below w.heap.size w w' := by
  have hT' : ∀ W, Below w.heap.size w W → Tab W := fun W hb => tab_below hT hb
  have x0 : x.tmod 2 = 0 := tm_even x hx
  have y0 : y.tmod 2 = 0 := tm_even y hy
  have n0 : (-x + y).tmod 2 = 0 := tm_even _ (by omega)
  have g1 : ¬ (-x + y < -8192) := by omega
  have g2 : ¬ (8192 < -x + y) := by omega
  have HX : Hid (x % 2 = 0) := hx
  have HY : Hid (y % 2 = 0) := hy
  clear hx hy
  have HM : Hid (y - x = 2 * m) := hm
  clear hm
  go_enter Tryd.func23, Tryd.ntmps23
  go_wp2_with fail
  (go_at_call 51; with_reducible refine (through_ok4 x y _ h5 h6 h7 h8 m HM.out hl hl2).mono ?_; rintro e wx ⟨rfl, hx⟩; obtain ⟨ux, rfl⟩ := after hx; clear hx)
  go_wp2_with fail
  have hB : Below w.heap.size w ((on ux).alloc (.cells #[.int .u8 4, .int .i64 m] 24)) := by repeat first | (with_reducible exact Below.refl _ _) | (with_reducible refine below_on ?_ _) | (with_reducible refine below_alloc ?_ _) | (with_reducible refine below_set ?_ (by simp; try omega) _) | (with_reducible refine below_drew ?_)
  have P0 : ((on ux).alloc (.cells #[.int .u8 4, .int .i64 m] 24)).cell? ⟨w.heap.size, 0, none⟩ = some (.int .i64 x) := by simp [go_sem]
  have P1 : ((on ux).alloc (.cells #[.int .u8 4, .int .i64 m] 24)).cell? ⟨w.heap.size, 1, none⟩ = some (.int .i64 y) := by simp [go_sem]
  have Q0 : ((on ux).alloc (.cells #[.int .u8 4, .int .i64 m] 24)).cell? ⟨(on ux).heap.size, 0, none⟩ = some (.int .u8 4) := by simp [go_sem]
  have Q1 : ((on ux).alloc (.cells #[.int .u8 4, .int .i64 m] 24)).cell? ⟨(on ux).heap.size, 1, none⟩ = some (.int .i64 m) := by simp [go_sem]
  generalize (on ux).alloc (.cells #[.int .u8 4, .int .i64 m] 24) = W1 at *
  generalize (on ux).heap.size = b1 at *
  clear ux
  go_wp2_with (first | (go_at_call 39; with_reducible refine (inside_yes x y _ h5 h6 h7 h8).mono ?_; rintro e wx ⟨rfl, hx⟩; obtain ⟨ux, rfl⟩ := after hx; clear hx) | (go_at_call 17; with_reducible refine (across_4 _).mono ?_; rintro e wx ⟨rfl, rfl⟩) | fail)
  have hB2 : Below w.heap.size w (on ux) := below_on hB ux
  have P0' : (on ux).cell? ⟨w.heap.size, 0, none⟩ = some (.int .i64 x) := by simp [go_sem, P0]
  have P1' : (on ux).cell? ⟨w.heap.size, 1, none⟩ = some (.int .i64 y) := by simp [go_sem, P1]
  have Q0' : (on ux).cell? ⟨b1, 0, none⟩ = some (.int .u8 4) := by simp [go_sem, Q0]
  have Q1' : (on ux).cell? ⟨b1, 1, none⟩ = some (.int .i64 m) := by simp [go_sem, Q1]
  clear P0 P1 Q0 Q1 hB
  generalize on ux = W3 at *
  clear ux
  go_loopw [11, 12] (fun mv iv wr => ∃ i m0 : Int, iv = .int .u8 i ∧ mv = .int .i64 m0 ∧ ((i = 1 ∧ m0 = 0) ∨ (i = 2 ∧ m0 = 1) ∨ (i = 3 ∧ m0 = 2) ∨ (i = 4 ∧ m0 = 3) ∨ (i = 5 ∧ m0 = 4)) ∧ ∃ u : Later W3, wr = on u) (fun _ iv _ => (5 - intOf iv).toNat)
  case atStart => exact ⟨1, 0, rfl, rfl, by omega, ⟨W3, Below.refl _ _⟩, rfl⟩
  case round =>
    obtain ⟨i, m0, rfl, rfl, hp, u0, rfl⟩ := hrel
    obtain ⟨rfl, rfl⟩ | ⟨rfl, rfl⟩ | ⟨rfl, rfl⟩ | ⟨rfl, rfl⟩ | ⟨rfl, rfl⟩ := hp
    · go_wp2_with (first | (go_at_call 51; (with_reducible refine (thr_even1 x y _ h5 h6 h7 h8 (by have h1 := HX.out; have h2 := HY.out; omega)).mono ?_); rintro e wx ⟨ra, rb, rr, rfl, r1, r2, hx⟩; obtain ⟨ux, rfl⟩ := after hx; clear hx) | fail)
      go_roundw
      case rel => exact ⟨1 + 1, 1, rfl, rfl, by omega, after (by repeat first | (with_reducible exact Below.refl _ _) | (with_reducible refine below_on ?_ _) | (with_reducible refine below_alloc ?_ _))⟩
      case measure => simp [intOf]
    · go_wp2_with (first | (go_at_call 51; (with_reducible refine (thr_even2 x y _ h5 h6 h7 h8 (by have h1 := HX.out; have h2 := HY.out; omega)).mono ?_); rintro e wx ⟨ra, rb, rr, rfl, r1, r2, hx⟩; obtain ⟨ux, rfl⟩ := after hx; clear hx) | fail)
      go_roundw
      case rel => exact ⟨2 + 1, 2, rfl, rfl, by omega, after (by repeat first | (with_reducible exact Below.refl _ _) | (with_reducible refine below_on ?_ _) | (with_reducible refine below_alloc ?_ _))⟩
      case measure => simp [intOf]
    · go_wp2_with (first | (go_at_call 51; (with_reducible refine (thr_even3 x y _ h5 h6 h7 h8 (by have h1 := HX.out; have h2 := HY.out; omega)).mono ?_); rintro e wx ⟨ra, rb, rr, rfl, r1, r2, hx⟩; obtain ⟨ux, rfl⟩ := after hx; clear hx) | fail)
      go_roundw
      case rel => exact ⟨3 + 1, 3, rfl, rfl, by omega, after (by repeat first | (with_reducible exact Below.refl _ _) | (with_reducible refine below_on ?_ _) | (with_reducible refine below_alloc ?_ _))⟩
      case measure => simp [intOf]
    · go_wp2_with (first | (go_at_call 51; (with_reducible refine (thr_even4 x y _ h5 h6 h7 h8 (by have h1 := HX.out; have h2 := HY.out; omega)).mono ?_); rintro e wx ⟨ra, rb, rr, rfl, r1, r2, hx⟩; obtain ⟨ux, rfl⟩ := after hx; clear hx) | fail)
      go_roundw
      case rel => exact ⟨4 + 1, 4, rfl, rfl, by omega, after (by repeat first | (with_reducible exact Below.refl _ _) | (with_reducible refine below_on ?_ _) | (with_reducible refine below_alloc ?_ _))⟩
      case measure => simp [intOf]
    · have hB3 : Below w.heap.size w (on u0) := below_on hB2 u0
      have T3 := hT' _ hB3
      go_wp2_with (first | (go_at_call 53; with_reducible refine (far0_wide 4 m x y _ (by omega) (by omega) h5 h6 h7 h8 hl hl2 (by rw [val4]; exact HM.out)).mono ?_; rintro e wx ⟨rfl, hx⟩; obtain ⟨ux, rfl⟩ := after hx; clear hx) | (go_at_call 14; with_reducible refine (lives_ok _ (hT' _ (by have bw := hB3; repeat first | exact bw | (with_reducible refine below_on ?_ _) | (with_reducible refine below_alloc ?_ _)))).mono ?_; rintro e wx ⟨rfl, hx⟩; obtain ⟨ux, rfl⟩ := after hx; clear hx) | fail)
      go_ret
      exact ⟨rfl, by
        have bw := hB3
        repeat first | exact bw | (with_reducible refine below_on ?_ _) | (with_reducible refine below_alloc ?_ _)⟩

set_option maxRecDepth 100000 in
set_option maxHeartbeats 8000000 in
theorem thr4_01odd (x y : Int) (w : World) (hT : Tab w) (h5 : -65536 ≤ x) (h6 : x ≤ 65536) (h7 : -65536 ≤ y) (h8 : y ≤ 65536) (hx : x % 2 = 0) (hy : y % 2 ≠ 0)  (g1 : ¬ (-x + y < -8192)) (g2 : ¬ (8192 < -x + y)) : Calls Tryd.prog 23 #[.int .u8 4, pt x y] w fun e w' => e = .returned (.bool true) ∧ Below w.heap.size w w' := by
  have hT' : ∀ W, Below w.heap.size w W → Tab W := fun W hb => tab_below hT hb
  have x0 : x.tmod 2 = 0 := tm_even x hx
  have y0 : (y.tmod 2 == 0) = false := tm_odd1 y hy
  have y1 : (y.tmod 2 != 0) = true := tm_odd2 y hy
  have y2 : (y % 2 != 0) = true := by simpa using hy
  have y3 : (y % 2 == 0) = false := by simpa using hy
  have n0 : ((-x + y).tmod 2 == 0) = false := tm_odd1 _ (by omega)
  have n1 : ((-x + y).tmod 2 != 0) = true := tm_odd2 _ (by omega)
  have n4 : (-x + y) % 2 ≠ 0 := by omega
  have n2 : ((-x + y) % 2 != 0) = true := by simpa using n4
  have n3 : ((-x + y) % 2 == 0) = false := by simpa using n4
  clear n4
  have HX : Hid (x % 2 = 0) := hx
  have HY : Hid (y % 2 ≠ 0) := hy
  clear hx hy
  go_enter Tryd.func23, Tryd.ntmps23
  go_wp2_with fail
  (go_at_call 51; with_reducible refine (through_odd4 x y _ h5 h6 h7 h8 (tm_odd _ (by have h1 := HX.out; have h2 := HY.out; omega))).mono ?_; rintro e wx ⟨rfl, hx⟩; obtain ⟨ux, rfl⟩ := after hx; clear hx)
  go_wp2_with fail
  have hB : Below w.heap.size w ((on ux).alloc (.cells #[.int .u8 0, .int .i64 0] 24)) := by repeat first | (with_reducible exact Below.refl _ _) | (with_reducible refine below_on ?_ _) | (with_reducible refine below_alloc ?_ _) | (with_reducible refine below_set ?_ (by simp; try omega) _) | (with_reducible refine below_drew ?_)
  have P0 : ((on ux).alloc (.cells #[.int .u8 0, .int .i64 0] 24)).cell? ⟨w.heap.size, 0, none⟩ = some (.int .i64 x) := by simp [go_sem]
  have P1 : ((on ux).alloc (.cells #[.int .u8 0, .int .i64 0] 24)).cell? ⟨w.heap.size, 1, none⟩ = some (.int .i64 y) := by simp [go_sem]
  have Q0 : ((on ux).alloc (.cells #[.int .u8 0, .int .i64 0] 24)).cell? ⟨(on ux).heap.size, 0, none⟩ = some (.int .u8 0) := by simp [go_sem]
  have Q1 : ((on ux).alloc (.cells #[.int .u8 0, .int .i64 0] 24)).cell? ⟨(on ux).heap.size, 1, none⟩ = some (.int .i64 0) := by simp [go_sem]
  generalize (on ux).alloc (.cells #[.int .u8 0, .int .i64 0] 24) = W1 at *
  generalize (on ux).heap.size = b1 at *
  clear ux
  go_wp2_with (first | (go_at_call 39; with_reducible refine (inside_yes x y _ h5 h6 h7 h8).mono ?_; rintro e wx ⟨rfl, hx⟩; obtain ⟨ux, rfl⟩ := after hx; clear hx) | (go_at_call 17; with_reducible refine (across_4 _).mono ?_; rintro e wx ⟨rfl, rfl⟩) | fail)
  have hB2 : Below w.heap.size w (on ux) := below_on hB ux
  have P0' : (on ux).cell? ⟨w.heap.size, 0, none⟩ = some (.int .i64 x) := by simp [go_sem, P0]
  have P1' : (on ux).cell? ⟨w.heap.size, 1, none⟩ = some (.int .i64 y) := by simp [go_sem, P1]
  have Q0' : (on ux).cell? ⟨b1, 0, none⟩ = some (.int .u8 0) := by simp [go_sem, Q0]
  have Q1' : (on ux).cell? ⟨b1, 1, none⟩ = some (.int .i64 0) := by simp [go_sem, Q1]
  clear P0 P1 Q0 Q1 hB
  generalize on ux = W3 at *
  clear ux
  go_loopw [11, 12] (fun mv iv wr => ∃ i m0 : Int, iv = .int .u8 i ∧ mv = .int .i64 m0 ∧ ((i = 1 ∧ m0 = 0) ∨ (i = 2 ∧ m0 = 1) ∨ (i = 3 ∧ m0 = 1) ∨ (i = 4 ∧ m0 = 1) ∨ (i = 5 ∧ m0 = 1)) ∧ ∃ u : Later W3, wr = on u) (fun _ iv _ => (5 - intOf iv).toNat)
  case atStart => exact ⟨1, 0, rfl, rfl, by omega, ⟨W3, Below.refl _ _⟩, rfl⟩
  case round =>
    obtain ⟨i, m0, rfl, rfl, hp, u0, rfl⟩ := hrel
    obtain ⟨rfl, rfl⟩ | ⟨rfl, rfl⟩ | ⟨rfl, rfl⟩ | ⟨rfl, rfl⟩ | ⟨rfl, rfl⟩ := hp
    · go_wp2_with (first | (go_at_call 51; (with_reducible refine (thr_even1 x y _ h5 h6 h7 h8 (by have h1 := HX.out; have h2 := HY.out; omega)).mono ?_); rintro e wx ⟨ra, rb, rr, rfl, r1, r2, hx⟩; obtain ⟨ux, rfl⟩ := after hx; clear hx) | fail)
      go_roundw
      case rel => exact ⟨1 + 1, 1, rfl, rfl, by omega, after (by repeat first | (with_reducible exact Below.refl _ _) | (with_reducible refine below_on ?_ _) | (with_reducible refine below_alloc ?_ _))⟩
      case measure => simp [intOf]
    · go_wp2_with (first | (go_at_call 51; with_reducible refine (through_odd2 x y _ h5 h6 h7 h8 (tm_odd _ (by have h1 := HX.out; have h2 := HY.out; omega))).mono ?_; rintro e wx ⟨rfl, hx⟩; obtain ⟨ux, rfl⟩ := after hx; clear hx) | fail)
      go_roundw
      case rel => exact ⟨2 + 1, 1, rfl, rfl, by omega, after (by repeat first | (with_reducible exact Below.refl _ _) | (with_reducible refine below_on ?_ _) | (with_reducible refine below_alloc ?_ _))⟩
      case measure => simp [intOf]
    · go_wp2_with (first | (go_at_call 51; with_reducible refine (through_odd3 x y _ h5 h6 h7 h8 (tm_odd _ (by have h1 := HX.out; have h2 := HY.out; omega))).mono ?_; rintro e wx ⟨rfl, hx⟩; obtain ⟨ux, rfl⟩ := after hx; clear hx) | fail)
      go_roundw
      case rel => exact ⟨3 + 1, 1, rfl, rfl, by omega, after (by repeat first | (with_reducible exact Below.refl _ _) | (with_reducible refine below_on ?_ _) | (with_reducible refine below_alloc ?_ _))⟩
      case measure => simp [intOf]
    · go_wp2_with (first | (go_at_call 51; with_reducible refine (through_odd4 x y _ h5 h6 h7 h8 (tm_odd _ (by have h1 := HX.out; have h2 := HY.out; omega))).mono ?_; rintro e wx ⟨rfl, hx⟩; obtain ⟨ux, rfl⟩ := after hx; clear hx) | fail)
      go_roundw
      case rel => exact ⟨4 + 1, 1, rfl, rfl, by omega, after (by repeat first | (with_reducible exact Below.refl _ _) | (with_reducible refine below_on ?_ _) | (with_reducible refine below_alloc ?_ _))⟩
      case measure => simp [intOf]
    · have hB3 : Below w.heap.size w (on u0) := below_on hB2 u0
      have T3 := hT' _ hB3
      go_wp2_with (first  | (go_at_call 14; with_reducible refine (lives_ok _ (hT' _ (by have bw := hB3; repeat first | exact bw | (with_reducible refine below_on ?_ _) | (with_reducible refine below_alloc ?_ _)))).mono ?_; rintro e wx ⟨rfl, hx⟩; obtain ⟨ux, rfl⟩ := after hx; clear hx) | fail)
      go_ret
      exact ⟨rfl, by
        have bw := hB3
        repeat first | exact bw | (with_reducible refine below_on ?_ _) | (with_reducible refine below_alloc ?_ _)⟩

set_option maxRecDepth 100000 in
set_option maxHeartbeats 8000000 in
theorem thr4_10odd (x y : Int) (w : World) (hT : Tab w) (h5 : -65536 ≤ x) (h6 : x ≤ 65536) (h7 : -65536 ≤ y) (h8 : y ≤ 65536) (hx : x % 2 ≠ 0) (hy : y % 2 = 0)  (g1 : ¬ (-x + y < -8192)) (g2 : ¬ (8192 < -x + y)) : Calls Tryd.prog 23 #[.int .u8 4, pt x y] w fun e w' => e = .returned (.bool true) ∧ Below w.heap.size w w' := by
  have hT' : ∀ W, Below w.heap.size w W → Tab W := fun W hb => tab_below hT hb
  have x0 : (x.tmod 2 == 0) = false := tm_odd1 x hx
  have x1 : (x.tmod 2 != 0) = true := tm_odd2 x hx
  have x2 : (x % 2 != 0) = true := by simpa using hx
  have x3 : (x % 2 == 0) = false := by simpa using hx
  have y0 : y.tmod 2 = 0 := tm_even y hy
  have n0 : ((-x + y).tmod 2 == 0) = false := tm_odd1 _ (by omega)
  have n1 : ((-x + y).tmod 2 != 0) = true := tm_odd2 _ (by omega)
  have n4 : (-x + y) % 2 ≠ 0 := by omega
  have n2 : ((-x + y) % 2 != 0) = true := by simpa using n4
  have n3 : ((-x + y) % 2 == 0) = false := by simpa using n4
  clear n4
  have HX : Hid (x % 2 ≠ 0) := hx
  have HY : Hid (y % 2 = 0) := hy
  clear hx hy
  go_enter Tryd.func23, Tryd.ntmps23
  go_wp2_with fail
  (go_at_call 51; with_reducible refine (through_odd4 x y _ h5 h6 h7 h8 (tm_odd _ (by have h1 := HX.out; have h2 := HY.out; omega))).mono ?_; rintro e wx ⟨rfl, hx⟩; obtain ⟨ux, rfl⟩ := after hx; clear hx)
  go_wp2_with fail
  have hB : Below w.heap.size w ((on ux).alloc (.cells #[.int .u8 0, .int .i64 0] 24)) := by repeat first | (with_reducible exact Below.refl _ _) | (with_reducible refine below_on ?_ _) | (with_reducible refine below_alloc ?_ _) | (with_reducible refine below_set ?_ (by simp; try omega) _) | (with_reducible refine below_drew ?_)
  have P0 : ((on ux).alloc (.cells #[.int .u8 0, .int .i64 0] 24)).cell? ⟨w.heap.size, 0, none⟩ = some (.int .i64 x) := by simp [go_sem]
  have P1 : ((on ux).alloc (.cells #[.int .u8 0, .int .i64 0] 24)).cell? ⟨w.heap.size, 1, none⟩ = some (.int .i64 y) := by simp [go_sem]
  have Q0 : ((on ux).alloc (.cells #[.int .u8 0, .int .i64 0] 24)).cell? ⟨(on ux).heap.size, 0, none⟩ = some (.int .u8 0) := by simp [go_sem]
  have Q1 : ((on ux).alloc (.cells #[.int .u8 0, .int .i64 0] 24)).cell? ⟨(on ux).heap.size, 1, none⟩ = some (.int .i64 0) := by simp [go_sem]
  generalize (on ux).alloc (.cells #[.int .u8 0, .int .i64 0] 24) = W1 at *
  generalize (on ux).heap.size = b1 at *
  clear ux
  go_wp2_with (first | (go_at_call 39; with_reducible refine (inside_yes x y _ h5 h6 h7 h8).mono ?_; rintro e wx ⟨rfl, hx⟩; obtain ⟨ux, rfl⟩ := after hx; clear hx) | (go_at_call 17; with_reducible refine (across_4 _).mono ?_; rintro e wx ⟨rfl, rfl⟩) | fail)
  have hB2 : Below w.heap.size w (on ux) := below_on hB ux
  have P0' : (on ux).cell? ⟨w.heap.size, 0, none⟩ = some (.int .i64 x) := by simp [go_sem, P0]
  have P1' : (on ux).cell? ⟨w.heap.size, 1, none⟩ = some (.int .i64 y) := by simp [go_sem, P1]
  have Q0' : (on ux).cell? ⟨b1, 0, none⟩ = some (.int .u8 0) := by simp [go_sem, Q0]
  have Q1' : (on ux).cell? ⟨b1, 1, none⟩ = some (.int .i64 0) := by simp [go_sem, Q1]
  clear P0 P1 Q0 Q1 hB
  generalize on ux = W3 at *
  clear ux
  go_loopw [11, 12] (fun mv iv wr => ∃ i m0 : Int, iv = .int .u8 i ∧ mv = .int .i64 m0 ∧ ((i = 1 ∧ m0 = 0) ∨ (i = 2 ∧ m0 = 0) ∨ (i = 3 ∧ m0 = 1) ∨ (i = 4 ∧ m0 = 1) ∨ (i = 5 ∧ m0 = 1)) ∧ ∃ u : Later W3, wr = on u) (fun _ iv _ => (5 - intOf iv).toNat)
  case atStart => exact ⟨1, 0, rfl, rfl, by omega, ⟨W3, Below.refl _ _⟩, rfl⟩
  case round =>
    obtain ⟨i, m0, rfl, rfl, hp, u0, rfl⟩ := hrel
    obtain ⟨rfl, rfl⟩ | ⟨rfl, rfl⟩ | ⟨rfl, rfl⟩ | ⟨rfl, rfl⟩ | ⟨rfl, rfl⟩ := hp
    · go_wp2_with (first | (go_at_call 51; with_reducible refine (through_odd1 x y _ h5 h6 h7 h8 (tm_odd _ (by have h1 := HX.out; have h2 := HY.out; omega))).mono ?_; rintro e wx ⟨rfl, hx⟩; obtain ⟨ux, rfl⟩ := after hx; clear hx) | fail)
      go_roundw
      case rel => exact ⟨1 + 1, 0, rfl, rfl, by omega, after (by repeat first | (with_reducible exact Below.refl _ _) | (with_reducible refine below_on ?_ _) | (with_reducible refine below_alloc ?_ _))⟩
      case measure => simp [intOf]
    · go_wp2_with (first | (go_at_call 51; (with_reducible refine (thr_even2 x y _ h5 h6 h7 h8 (by have h1 := HX.out; have h2 := HY.out; omega)).mono ?_); rintro e wx ⟨ra, rb, rr, rfl, r1, r2, hx⟩; obtain ⟨ux, rfl⟩ := after hx; clear hx) | fail)
      go_roundw
      case rel => exact ⟨2 + 1, 1, rfl, rfl, by omega, after (by repeat first | (with_reducible exact Below.refl _ _) | (with_reducible refine below_on ?_ _) | (with_reducible refine below_alloc ?_ _))⟩
      case measure => simp [intOf]
    · go_wp2_with (first | (go_at_call 51; with_reducible refine (through_odd3 x y _ h5 h6 h7 h8 (tm_odd _ (by have h1 := HX.out; have h2 := HY.out; omega))).mono ?_; rintro e wx ⟨rfl, hx⟩; obtain ⟨ux, rfl⟩ := after hx; clear hx) | fail)
      go_roundw
      case rel => exact ⟨3 + 1, 1, rfl, rfl, by omega, after (by repeat first | (with_reducible exact Below.refl _ _) | (with_reducible refine below_on ?_ _) | (with_reducible refine below_alloc ?_ _))⟩
      case measure => simp [intOf]
    · go_wp2_with (first | (go_at_call 51; with_reducible refine (through_odd4 x y _ h5 h6 h7 h8 (tm_odd _ (by have h1 := HX.out; have h2 := HY.out; omega))).mono ?_; rintro e wx ⟨rfl, hx⟩; obtain ⟨ux, rfl⟩ := after hx; clear hx) | fail)
      go_roundw
      case rel => exact ⟨4 + 1, 1, rfl, rfl, by omega, after (by repeat first | (with_reducible exact Below.refl _ _) | (with_reducible refine below_on ?_ _) | (with_reducible refine below_alloc ?_ _))⟩
      case measure => simp [intOf]
    · have hB3 : Below w.heap.size w (on u0) := below_on hB2 u0
      have T3 := hT' _ hB3
      go_wp2_with (first  | (go_at_call 14; with_reducible refine (lives_ok _ (hT' _ (by have bw := hB3; repeat first | exact bw | (with_reducible refine below_on ?_ _) | (with_reducible refine below_alloc ?_ _)))).mono ?_; rintro e wx ⟨rfl, hx⟩; obtain ⟨ux, rfl⟩ := after hx; clear hx) | fail)
      go_ret
      exact ⟨rfl, by
        have bw := hB3
        repeat first | exact bw | (with_reducible refine below_on ?_ _) | (with_reducible refine below_alloc ?_ _)⟩

set_option maxRecDepth 100000 in
set_option maxHeartbeats 8000000 in
theorem thr4_11ok (x y : Int) (w : World) (hT : Tab w) (h5 : -65536 ≤ x) (h6 : x ≤ 65536) (h7 : -65536 ≤ y) (h8 : y ≤ 65536) (hx : x % 2 ≠ 0) (hy : y % 2 ≠ 0) (m : Int) (hm : y - x = 2 * m) (hl : -4096 ≤ m) (hl2 : m ≤ 4096) : Calls Tryd.prog 23 #[.int .u8 4, pt x y] w fun e w' => e = .returned (.bool true) ∧ Below w.heap.size w w' := by
  have hT' : ∀ W, Below w.heap.size w W → Tab W := fun W hb => tab_below hT hb
  have x0 : (x.tmod 2 == 0) = false := tm_odd1 x hx
  have x1 : (x.tmod 2 != 0) = true := tm_odd2 x hx
  have x2 : (x % 2 != 0) = true := by simpa using hx
  have x3 : (x % 2 == 0) = false := by simpa using hx
  have y0 : (y.tmod 2 == 0) = false := tm_odd1 y hy
  have y1 : (y.tmod 2 != 0) = true := tm_odd2 y hy
  have y2 : (y % 2 != 0) = true := by simpa using hy
  have y3 : (y % 2 == 0) = false := by simpa using hy
  have n0 : (-x + y).tmod 2 = 0 := tm_even _ (by omega)
  have g1 : ¬ (-x + y < -8192) := by omega
  have g2 : ¬ (8192 < -x + y) := by omega
  have HX : Hid (x % 2 ≠ 0) := hx
  have HY : Hid (y % 2 ≠ 0) := hy
  clear hx hy
  have HM : Hid (y - x = 2 * m) := hm
  clear hm
  go_enter Tryd.func23, Tryd.ntmps23
  go_wp2_with fail
  (go_at_call 51; with_reducible refine (through_ok4 x y _ h5 h6 h7 h8 m HM.out hl hl2).mono ?_; rintro e wx ⟨rfl, hx⟩; obtain ⟨ux, rfl⟩ := after hx; clear hx)
  go_wp2_with fail
  have hB : Below w.heap.size w ((on ux).alloc (.cells #[.int .u8 4, .int .i64 m] 24)) := by repeat first | (with_reducible exact Below.refl _ _) | (with_reducible refine below_on ?_ _) | (with_reducible refine below_alloc ?_ _) | (with_reducible refine below_set ?_ (by simp; try omega) _) | (with_reducible refine below_drew ?_)
  have P0 : ((on ux).alloc (.cells #[.int .u8 4, .int .i64 m] 24)).cell? ⟨w.heap.size, 0, none⟩ = some (.int .i64 x) := by simp [go_sem]
  have P1 : ((on ux).alloc (.cells #[.int .u8 4, .int .i64 m] 24)).cell? ⟨w.heap.size, 1, none⟩ = some (.int .i64 y) := by simp [go_sem]
  have Q0 : ((on ux).alloc (.cells #[.int .u8 4, .int .i64 m] 24)).cell? ⟨(on ux).heap.size, 0, none⟩ = some (.int .u8 4) := by simp [go_sem]
  have Q1 : ((on ux).alloc (.cells #[.int .u8 4, .int .i64 m] 24)).cell? ⟨(on ux).heap.size, 1, none⟩ = some (.int .i64 m) := by simp [go_sem]
  generalize (on ux).alloc (.cells #[.int .u8 4, .int .i64 m] 24) = W1 at *
  generalize (on ux).heap.size = b1 at *
  clear ux
  go_wp2_with (first | (go_at_call 39; with_reducible refine (inside_yes x y _ h5 h6 h7 h8).mono ?_; rintro e wx ⟨rfl, hx⟩; obtain ⟨ux, rfl⟩ := after hx; clear hx) | (go_at_call 17; with_reducible refine (across_4 _).mono ?_; rintro e wx ⟨rfl, rfl⟩) | fail)
  have hB2 : Below w.heap.size w (on ux) := below_on hB ux
  have P0' : (on ux).cell? ⟨w.heap.size, 0, none⟩ = some (.int .i64 x) := by simp [go_sem, P0]
  have P1' : (on ux).cell? ⟨w.heap.size, 1, none⟩ = some (.int .i64 y) := by simp [go_sem, P1]
  have Q0' : (on ux).cell? ⟨b1, 0, none⟩ = some (.int .u8 4) := by simp [go_sem, Q0]
  have Q1' : (on ux).cell? ⟨b1, 1, none⟩ = some (.int .i64 m) := by simp [go_sem, Q1]
  clear P0 P1 Q0 Q1 hB
  generalize on ux = W3 at *
  clear ux
  go_loopw [11, 12] (fun mv iv wr => ∃ i m0 : Int, iv = .int .u8 i ∧ mv = .int .i64 m0 ∧ ((i = 1 ∧ m0 = 0) ∨ (i = 2 ∧ m0 = 0) ∨ (i = 3 ∧ m0 = 0) ∨ (i = 4 ∧ m0 = 1) ∨ (i = 5 ∧ m0 = 2)) ∧ ∃ u : Later W3, wr = on u) (fun _ iv _ => (5 - intOf iv).toNat)
  case atStart => exact ⟨1, 0, rfl, rfl, by omega, ⟨W3, Below.refl _ _⟩, rfl⟩
  case round =>
    obtain ⟨i, m0, rfl, rfl, hp, u0, rfl⟩ := hrel
    obtain ⟨rfl, rfl⟩ | ⟨rfl, rfl⟩ | ⟨rfl, rfl⟩ | ⟨rfl, rfl⟩ | ⟨rfl, rfl⟩ := hp
    · go_wp2_with (first | (go_at_call 51; with_reducible refine (through_odd1 x y _ h5 h6 h7 h8 (tm_odd _ (by have h1 := HX.out; have h2 := HY.out; omega))).mono ?_; rintro e wx ⟨rfl, hx⟩; obtain ⟨ux, rfl⟩ := after hx; clear hx) | fail)
      go_roundw
      case rel => exact ⟨1 + 1, 0, rfl, rfl, by omega, after (by repeat first | (with_reducible exact Below.refl _ _) | (with_reducible refine below_on ?_ _) | (with_reducible refine below_alloc ?_ _))⟩
      case measure => simp [intOf]
    · go_wp2_with (first | (go_at_call 51; with_reducible refine (through_odd2 x y _ h5 h6 h7 h8 (tm_odd _ (by have h1 := HX.out; have h2 := HY.out; omega))).mono ?_; rintro e wx ⟨rfl, hx⟩; obtain ⟨ux, rfl⟩ := after hx; clear hx) | fail)
      go_roundw
      case rel => exact ⟨2 + 1, 0, rfl, rfl, by omega, after (by repeat first | (with_reducible exact Below.refl _ _) | (with_reducible refine below_on ?_ _) | (with_reducible refine below_alloc ?_ _))⟩
      case measure => simp [intOf]
    · go_wp2_with (first | (go_at_call 51; (with_reducible refine (thr_even3 x y _ h5 h6 h7 h8 (by have h1 := HX.out; have h2 := HY.out; omega)).mono ?_); rintro e wx ⟨ra, rb, rr, rfl, r1, r2, hx⟩; obtain ⟨ux, rfl⟩ := after hx; clear hx) | fail)
      go_roundw
      case rel => exact ⟨3 + 1, 1, rfl, rfl, by omega, after (by repeat first | (with_reducible exact Below.refl _ _) | (with_reducible refine below_on ?_ _) | (with_reducible refine below_alloc ?_ _))⟩
      case measure => simp [intOf]
    · go_wp2_with (first | (go_at_call 51; (with_reducible refine (thr_even4 x y _ h5 h6 h7 h8 (by have h1 := HX.out; have h2 := HY.out; omega)).mono ?_); rintro e wx ⟨ra, rb, rr, rfl, r1, r2, hx⟩; obtain ⟨ux, rfl⟩ := after hx; clear hx) | fail)
      go_roundw
      case rel => exact ⟨4 + 1, 2, rfl, rfl, by omega, after (by repeat first | (with_reducible exact Below.refl _ _) | (with_reducible refine below_on ?_ _) | (with_reducible refine below_alloc ?_ _))⟩
      case measure => simp [intOf]
    · have hB3 : Below w.heap.size w (on u0) := below_on hB2 u0
      have T3 := hT' _ hB3
      go_wp2_with (first | (go_at_call 53; with_reducible refine (far0_wide 4 m x y _ (by omega) (by omega) h5 h6 h7 h8 hl hl2 (by rw [val4]; exact HM.out)).mono ?_; rintro e wx ⟨rfl, hx⟩; obtain ⟨ux, rfl⟩ := after hx; clear hx) | (go_at_call 14; with_reducible refine (lives_ok _ (hT' _ (by have bw := hB3; repeat first | exact bw | (with_reducible refine below_on ?_ _) | (with_reducible refine below_alloc ?_ _)))).mono ?_; rintro e wx ⟨rfl, hx⟩; obtain ⟨ux, rfl⟩ := after hx; clear hx) | fail)
      go_ret
      exact ⟨rfl, by
        have bw := hB3
        repeat first | exact bw | (with_reducible refine below_on ?_ _) | (with_reducible refine below_alloc ?_ _)⟩

theorem thr_all4 (x y : Int) (w : World) (hT : Tab w) (h5 : -65536 ≤ x) (h6 : x ≤ 65536) (h7 : -65536 ≤ y) (h8 : y ≤ 65536) : Calls Tryd.prog 23 #[.int .u8 4, pt x y] w fun e w' => e = .returned (.bool true) ∧ Below w.heap.size w w' := by
  by_cases hl : y - x < -8192
  · by_cases hx : x % 2 = 0
    · by_cases hy : y % 2 = 0
      · exact thr4_00lo x y w hT h5 h6 h7 h8 hx hy ((y - x) / 2) (by omega) (by omega)
      · exact thr4_01oddlo x y w hT h5 h6 h7 h8 hx hy (by omega)
    · by_cases hy : y % 2 = 0
      · exact thr4_10oddlo x y w hT h5 h6 h7 h8 hx hy (by omega)
      · exact thr4_11lo x y w hT h5 h6 h7 h8 hx hy ((y - x) / 2) (by omega) (by omega)
  by_cases hr : 8192 < y - x
  · by_cases hx : x % 2 = 0
    · by_cases hy : y % 2 = 0
      · exact thr4_00hi x y w hT h5 h6 h7 h8 hx hy ((y - x) / 2) (by omega) (by omega)
      · exact thr4_01oddhi x y w hT h5 h6 h7 h8 hx hy (by omega) (by omega)
    · by_cases hy : y % 2 = 0
      · exact thr4_10oddhi x y w hT h5 h6 h7 h8 hx hy (by omega) (by omega)
      · exact thr4_11hi x y w hT h5 h6 h7 h8 hx hy ((y - x) / 2) (by omega) (by omega)
  · by_cases hx : x % 2 = 0
    · by_cases hy : y % 2 = 0
      · exact thr4_00ok x y w hT h5 h6 h7 h8 hx hy ((y - x) / 2) (by omega) (by omega) (by omega)
      · exact thr4_01odd x y w hT h5 h6 h7 h8 hx hy (by omega) (by omega)
    · by_cases hy : y % 2 = 0
      · exact thr4_10odd x y w hT h5 h6 h7 h8 hx hy (by omega) (by omega)
      · exact thr4_11ok x y w hT h5 h6 h7 h8 hx hy ((y - x) / 2) (by omega) (by omega) (by omega)

end Go.Proofs.YtbcmfenekpllhaaDoor
