/-
  Says: which cell With of the reference finds.
-/
import Derived.Test.YtgkiliijefkcaaaDoorCr1
import Derived.BigRegion
import Derived.Deep.CutRange
set_option linter.unusedVariables false
set_option linter.unusedSimpArgs false
namespace Go.Proofs.YtgkiliijefkcaaaDoor
open Go Go.RowKit

attribute [local go_sem] World.cell?_alloc_some frozen?_alloc_cells fz0 fz1 fz2 fz3 fz4 fz5

set_option maxRecDepth 100000 in
set_option maxHeartbeats 8000000 in
theorem rwthb (X Y q a0 a1 a2 a3 a4 a5 : Int) (w : World) (x1 : -100000 ≤ X) (x2 : X ≤ 100000) (y1 : -100000 ≤ Y) (y2 : Y ≤ 100000) (h : (q = 2 ∧ a0 = 1 + 2 * X ∧ a1 = 1 + 2 * Y ∧ a2 = 2 * X ∧ a3 = 2 + 2 * Y ∧ a4 = 2 + 2 * X ∧ a5 = 2 + 2 * Y) ∨ (q = 3 ∧ a0 = 1 + 2 * X ∧ a1 = 1 + 2 * Y ∧ a2 = 2 * X ∧ a3 = 2 * Y ∧ a4 = 2 * X ∧ a5 = 2 + 2 * Y) ∨ (q = 3 ∧ a0 = 1 + 2 * X ∧ a1 = 1 + 2 * Y ∧ a2 = 2 * X ∧ a3 = 2 + 2 * Y ∧ a4 = 2 * X ∧ a5 = 2 * Y)) : Calls Tryd.prog 50 #[.agg #[.int .i64 (a0), .int .i64 (a1), .int .i64 (a2), .int .i64 (a3), .int .i64 (a4), .int .i64 (a5)]] w fun e w' => e = .returned (cl X Y q) ∧ Below w.heap.size w w' := by
  have t1 : (1 + 2 * X - 1).tdiv 2 = X := td2 (by omega)
  have t2 : (1 + 2 * Y - 1).tdiv 2 = Y := td2 (by omega)
  have t3 : ((1 + 2 * X).tmod 2 == 0) = false := tm_odd1 _ (by omega)
  have t4 : ((1 + 2 * Y).tmod 2 == 0) = false := tm_odd1 _ (by omega)
  have T_ : Hid ((1 + 2 * X - 1).tdiv 2 = X ∧ (1 + 2 * Y - 1).tdiv 2 = Y ∧ ((1 + 2 * X).tmod 2 == 0) = false ∧ ((1 + 2 * Y).tmod 2 == 0) = false) := ⟨t1, t2, t3, t4⟩
  have HH : Hid ((q = 2 ∧ a0 = 1 + 2 * X ∧ a1 = 1 + 2 * Y ∧ a2 = 2 * X ∧ a3 = 2 + 2 * Y ∧ a4 = 2 + 2 * X ∧ a5 = 2 + 2 * Y) ∨ (q = 3 ∧ a0 = 1 + 2 * X ∧ a1 = 1 + 2 * Y ∧ a2 = 2 * X ∧ a3 = 2 * Y ∧ a4 = 2 * X ∧ a5 = 2 + 2 * Y) ∨ (q = 3 ∧ a0 = 1 + 2 * X ∧ a1 = 1 + 2 * Y ∧ a2 = 2 * X ∧ a3 = 2 + 2 * Y ∧ a4 = 2 * X ∧ a5 = 2 * Y)) := h
  clear h t1 t2 t3 t4
  go_enter Tryd.func50, Tryd.ntmps50
  go_wp2_with fail
  go_loopw [3] (fun iv wr => ∃ i : Int, iv = .int .i64 i ∧ i = 0 ∧ wr = ((w.alloc (.cells #[.int .i64 (a0), .int .i64 (a1), .int .i64 (a2), .int .i64 (a3), .int .i64 (a4), .int .i64 (a5)] 32)).alloc (.cells #[.int .i64 0, .int .i64 0, .int .u8 0] 23))) (fun iv _ => (3 - intOf iv).toNat)
  case atStart => exact ⟨0, rfl, rfl, rfl⟩
  case round =>
    obtain ⟨i, rfl, rfl, rfl⟩ := hrel
    go_upto_region 4 with fail
    go_cut [4, 5, 6] from 10 to 75 (fun s4 s5 s6 wx => ∃ b0 b1 b2 : Nat, s4 = .pointer (some ⟨b0, 0, none⟩) ∧ s5 = .pointer (some ⟨b1, 0, none⟩) ∧ s6 = .pointer (some ⟨b2, 0, none⟩) ∧ Below w.heap.size w wx ∧ wx.cell? ⟨b0, 0, none⟩ = some (.int .i64 a0) ∧ wx.cell? ⟨b0, 1, none⟩ = some (.int .i64 a1) ∧ wx.cell? ⟨b1, 0, none⟩ = some (.int .i64 a2) ∧ wx.cell? ⟨b1, 1, none⟩ = some (.int .i64 a3) ∧ wx.cell? ⟨b2, 0, none⟩ = some (.int .i64 a4) ∧ wx.cell? ⟨b2, 1, none⟩ = some (.int .i64 a5) ∧ wx.cell? ⟨w.heap.size + 1, 0, none⟩ = some (.int .i64 0) ∧ wx.cell? ⟨w.heap.size + 1, 1, none⟩ = some (.int .i64 0) ∧ wx.cell? ⟨w.heap.size + 1, 2, none⟩ = some (.int .u8 0) ∧ wx.frozen? ⟨w.heap.size + 1, 0, none⟩ = false ∧ wx.frozen? ⟨w.heap.size + 1, 1, none⟩ = false ∧ wx.frozen? ⟨w.heap.size + 1, 2, none⟩ = false)
    case first =>
      go_region
      all_goals (go_wp2_with fail; go_meet)
      all_goals exact ⟨_, _, _, rfl, rfl, rfl, (by repeat first | (with_reducible exact Below.refl _ _) | (with_reducible refine below_drew ?_) | (with_reducible refine below_on ?_ _) | (with_reducible refine below_alloc ?_ _) | (with_reducible refine below_set ?_ (by simp; try omega) _)), by simp [go_sem], by simp [go_sem], by simp [go_sem], by simp [go_sem], by simp [go_sem], by simp [go_sem], by simp [go_sem], by simp [go_sem], by simp [go_sem], by simp [go_sem], by simp [go_sem], by simp [go_sem]⟩
    case rest =>
      obtain ⟨b0, b1, b2, rfl, rfl, rfl, hB1, g00, g01, g10, g11, g20, g21, r0, r1, r2, z0, z1, z2⟩ := hcut
      generalize wc = W1 at *
      have hh := HH.out
      have tt := T_.out
      clear HH T_
      obtain ⟨t1, t2, t3, t4⟩ := tt
      obtain ⟨rfl, rfl, rfl, rfl, rfl, rfl, rfl⟩ | ⟨rfl, rfl, rfl, rfl, rfl, rfl, rfl⟩ | ⟨rfl, rfl, rfl, rfl, rfl, rfl, rfl⟩ := hh
      · go_wp2_with fail
        go_loopw [7] (fun jv wr => ∃ j : Int, jv = .int .u8 j ∧ (j = 0 ∨ j = 1 ∨ j = 2) ∧ ∃ u : Later W1, wr = on u) (fun jv _ => (4 - intOf jv).toNat)
        case atStart => exact ⟨0, rfl, by omega, ⟨_, Below.refl _ _⟩, rfl⟩
        case round =>
          obtain ⟨j, rfl, hj, u0, rfl⟩ := hrel
          have hq : Below w.heap.size w (on u0) := below_on hB1 u0
          obtain rfl | rfl | rfl := hj
          · go_wp2_with (first | (go_at_call 16; with_reducible refine (rcor_0 X Y _ x1 x2 y1 y2).mono ?_; rintro e wx ⟨rfl, hx⟩; obtain ⟨ux, rfl⟩ := after hx; clear hx) | fail)
            exact ⟨⟨0 + 1, rfl, by omega, after (by repeat first | (with_reducible exact Below.refl _ _) | (with_reducible refine below_on ?_ _) | (with_reducible refine below_alloc ?_ _) | (with_reducible refine below_set ?_ (by simp; try omega) _))⟩, by simp [intOf]⟩
          · go_wp2_with (first | (go_at_call 16; with_reducible refine (rcor_1 X Y _ x1 x2 y1 y2).mono ?_; rintro e wx ⟨rfl, hx⟩; obtain ⟨ux, rfl⟩ := after hx; clear hx) | fail)
            exact ⟨⟨1 + 1, rfl, by omega, after (by repeat first | (with_reducible exact Below.refl _ _) | (with_reducible refine below_on ?_ _) | (with_reducible refine below_alloc ?_ _) | (with_reducible refine below_set ?_ (by simp; try omega) _))⟩, by simp [intOf]⟩
          · go_wp2_with (first | (go_at_call 16; with_reducible refine (rcor_2 X Y _ x1 x2 y1 y2).mono ?_; rintro e wx ⟨rfl, hx⟩; obtain ⟨ux, rfl⟩ := after hx; clear hx) | fail)
            have y0 := held_c ux (al1 (held_c u0 r0) _)
            have y1 := held_c ux (al1 (held_c u0 r1) _)
            have y2 := held_c ux (al1 (held_c u0 r2) _)
            exact bodyPost_ret (v := cl X Y 2) (by simp [results, Tryd.results50, go_sem, y0, y1, y2]) rfl ⟨rfl, (by repeat first | (with_reducible exact hq) | (with_reducible refine below_on ?_ _) | (with_reducible refine below_alloc ?_ _) | (with_reducible refine below_set ?_ (by simp; try omega) _))⟩
      · go_wp2_with fail
        go_loopw [7] (fun jv wr => ∃ j : Int, jv = .int .u8 j ∧ (j = 0 ∨ j = 1 ∨ j = 2 ∨ j = 3) ∧ ∃ u : Later W1, wr = on u) (fun jv _ => (4 - intOf jv).toNat)
        case atStart => exact ⟨0, rfl, by omega, ⟨_, Below.refl _ _⟩, rfl⟩
        case round =>
          obtain ⟨j, rfl, hj, u0, rfl⟩ := hrel
          have hq : Below w.heap.size w (on u0) := below_on hB1 u0
          obtain rfl | rfl | rfl | rfl := hj
          · go_wp2_with (first | (go_at_call 16; with_reducible refine (rcor_0 X Y _ x1 x2 y1 y2).mono ?_; rintro e wx ⟨rfl, hx⟩; obtain ⟨ux, rfl⟩ := after hx; clear hx) | fail)
            exact ⟨⟨0 + 1, rfl, by omega, after (by repeat first | (with_reducible exact Below.refl _ _) | (with_reducible refine below_on ?_ _) | (with_reducible refine below_alloc ?_ _) | (with_reducible refine below_set ?_ (by simp; try omega) _))⟩, by simp [intOf]⟩
          · go_wp2_with (first | (go_at_call 16; with_reducible refine (rcor_1 X Y _ x1 x2 y1 y2).mono ?_; rintro e wx ⟨rfl, hx⟩; obtain ⟨ux, rfl⟩ := after hx; clear hx) | fail)
            exact ⟨⟨1 + 1, rfl, by omega, after (by repeat first | (with_reducible exact Below.refl _ _) | (with_reducible refine below_on ?_ _) | (with_reducible refine below_alloc ?_ _) | (with_reducible refine below_set ?_ (by simp; try omega) _))⟩, by simp [intOf]⟩
          · go_wp2_with (first | (go_at_call 16; with_reducible refine (rcor_2 X Y _ x1 x2 y1 y2).mono ?_; rintro e wx ⟨rfl, hx⟩; obtain ⟨ux, rfl⟩ := after hx; clear hx) | fail)
            exact ⟨⟨2 + 1, rfl, by omega, after (by repeat first | (with_reducible exact Below.refl _ _) | (with_reducible refine below_on ?_ _) | (with_reducible refine below_alloc ?_ _) | (with_reducible refine below_set ?_ (by simp; try omega) _))⟩, by simp [intOf]⟩
          · go_wp2_with (first | (go_at_call 16; with_reducible refine (rcor_3 X Y _ x1 x2 y1 y2).mono ?_; rintro e wx ⟨rfl, hx⟩; obtain ⟨ux, rfl⟩ := after hx; clear hx) | fail)
            have y0 := held_c ux (al1 (held_c u0 r0) _)
            have y1 := held_c ux (al1 (held_c u0 r1) _)
            have y2 := held_c ux (al1 (held_c u0 r2) _)
            exact bodyPost_ret (v := cl X Y 3) (by simp [results, Tryd.results50, go_sem, y0, y1, y2]) rfl ⟨rfl, (by repeat first | (with_reducible exact hq) | (with_reducible refine below_on ?_ _) | (with_reducible refine below_alloc ?_ _) | (with_reducible refine below_set ?_ (by simp; try omega) _))⟩
      · go_wp2_with fail
        go_loopw [7] (fun jv wr => ∃ j : Int, jv = .int .u8 j ∧ (j = 0 ∨ j = 1 ∨ j = 2 ∨ j = 3) ∧ ∃ u : Later W1, wr = on u) (fun jv _ => (4 - intOf jv).toNat)
        case atStart => exact ⟨0, rfl, by omega, ⟨_, Below.refl _ _⟩, rfl⟩
        case round =>
          obtain ⟨j, rfl, hj, u0, rfl⟩ := hrel
          have hq : Below w.heap.size w (on u0) := below_on hB1 u0
          obtain rfl | rfl | rfl | rfl := hj
          · go_wp2_with (first | (go_at_call 16; with_reducible refine (rcor_0 X Y _ x1 x2 y1 y2).mono ?_; rintro e wx ⟨rfl, hx⟩; obtain ⟨ux, rfl⟩ := after hx; clear hx) | fail)
            exact ⟨⟨0 + 1, rfl, by omega, after (by repeat first | (with_reducible exact Below.refl _ _) | (with_reducible refine below_on ?_ _) | (with_reducible refine below_alloc ?_ _) | (with_reducible refine below_set ?_ (by simp; try omega) _))⟩, by simp [intOf]⟩
          · go_wp2_with (first | (go_at_call 16; with_reducible refine (rcor_1 X Y _ x1 x2 y1 y2).mono ?_; rintro e wx ⟨rfl, hx⟩; obtain ⟨ux, rfl⟩ := after hx; clear hx) | fail)
            exact ⟨⟨1 + 1, rfl, by omega, after (by repeat first | (with_reducible exact Below.refl _ _) | (with_reducible refine below_on ?_ _) | (with_reducible refine below_alloc ?_ _) | (with_reducible refine below_set ?_ (by simp; try omega) _))⟩, by simp [intOf]⟩
          · go_wp2_with (first | (go_at_call 16; with_reducible refine (rcor_2 X Y _ x1 x2 y1 y2).mono ?_; rintro e wx ⟨rfl, hx⟩; obtain ⟨ux, rfl⟩ := after hx; clear hx) | fail)
            exact ⟨⟨2 + 1, rfl, by omega, after (by repeat first | (with_reducible exact Below.refl _ _) | (with_reducible refine below_on ?_ _) | (with_reducible refine below_alloc ?_ _) | (with_reducible refine below_set ?_ (by simp; try omega) _))⟩, by simp [intOf]⟩
          · go_wp2_with (first | (go_at_call 16; with_reducible refine (rcor_3 X Y _ x1 x2 y1 y2).mono ?_; rintro e wx ⟨rfl, hx⟩; obtain ⟨ux, rfl⟩ := after hx; clear hx) | fail)
            have y0 := held_c ux (al1 (held_c u0 r0) _)
            have y1 := held_c ux (al1 (held_c u0 r1) _)
            have y2 := held_c ux (al1 (held_c u0 r2) _)
            exact bodyPost_ret (v := cl X Y 3) (by simp [results, Tryd.results50, go_sem, y0, y1, y2]) rfl ⟨rfl, (by repeat first | (with_reducible exact hq) | (with_reducible refine below_on ?_ _) | (with_reducible refine below_alloc ?_ _) | (with_reducible refine below_set ?_ (by simp; try omega) _))⟩

theorem rwth_21 (X Y : Int) (w : World) (x1 : -100000 ≤ X) (x2 : X ≤ 100000) (y1 : -100000 ≤ Y) (y2 : Y ≤ 100000) : Calls Tryd.prog 50 #[.agg #[.int .i64 (1 + 2 * X), .int .i64 (1 + 2 * Y), .int .i64 (2 * X), .int .i64 (2 + 2 * Y), .int .i64 (2 + 2 * X), .int .i64 (2 + 2 * Y)]] w fun e w' => e = .returned (cl X Y 2) ∧ Below w.heap.size w w' :=
  rwthb X Y 2 _ _ _ _ _ _ w x1 x2 y1 y2 (.inl ⟨rfl, rfl, rfl, rfl, rfl, rfl, rfl⟩)

theorem rwth_30 (X Y : Int) (w : World) (x1 : -100000 ≤ X) (x2 : X ≤ 100000) (y1 : -100000 ≤ Y) (y2 : Y ≤ 100000) : Calls Tryd.prog 50 #[.agg #[.int .i64 (1 + 2 * X), .int .i64 (1 + 2 * Y), .int .i64 (2 * X), .int .i64 (2 * Y), .int .i64 (2 * X), .int .i64 (2 + 2 * Y)]] w fun e w' => e = .returned (cl X Y 3) ∧ Below w.heap.size w w' :=
  rwthb X Y 3 _ _ _ _ _ _ w x1 x2 y1 y2 (.inr (.inl ⟨rfl, rfl, rfl, rfl, rfl, rfl, rfl⟩))

theorem rwth_31 (X Y : Int) (w : World) (x1 : -100000 ≤ X) (x2 : X ≤ 100000) (y1 : -100000 ≤ Y) (y2 : Y ≤ 100000) : Calls Tryd.prog 50 #[.agg #[.int .i64 (1 + 2 * X), .int .i64 (1 + 2 * Y), .int .i64 (2 * X), .int .i64 (2 + 2 * Y), .int .i64 (2 * X), .int .i64 (2 * Y)]] w fun e w' => e = .returned (cl X Y 3) ∧ Below w.heap.size w w' :=
  rwthb X Y 3 _ _ _ _ _ _ w x1 x2 y1 y2 (.inr (.inr (⟨rfl, rfl, rfl, rfl, rfl, rfl, rfl⟩)))

end Go.Proofs.YtgkiliijefkcaaaDoor
