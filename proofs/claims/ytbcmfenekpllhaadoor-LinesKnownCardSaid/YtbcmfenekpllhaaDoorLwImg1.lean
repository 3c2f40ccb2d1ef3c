/-
  Says: LinesImage answers true where the first line is of kind 1, where the librarys table stands as it was laid.
-/
import Derived.Test.YtbcmfenekpllhaaDoorLwImg0
import Derived.Test.YtbcmfenekpllhaaDoorRfO
set_option linter.unusedVariables false
set_option linter.unusedSimpArgs false
namespace Go.Proofs.YtbcmfenekpllhaaDoor
open Go Go.RowKit

attribute [local go_sem] World.cell?_alloc_some

set_option maxRecDepth 100000 in
set_option maxHeartbeats 8000000 in
theorem limg_ok11 (c d : Int) (w : World) (hT : Tab w) (h3 : -4096 ≤ c) (h4 : c ≤ 4096) (b3 : -4096 ≤ d) (b4 : d ≤ 4096) (m : Int) (hm : m = (2) * c + (-1) * d) (hl : -4096 ≤ m) (hl2 : m ≤ 4096) : Calls Tryd.prog 3 #[ln 1 c, ln 1 d] w fun e w' => e = .returned (.bool true) ∧ Below w.heap.size w w' := by
  have hT' : ∀ W, Below w.heap.size w W → Tab W := fun W hb => tab_below hT hb
  have HM : Hid (m = (2) * c + (-1) * d) := hm
  clear hm
  go_enter Tryd.func3, Tryd.ntmps3
  go_wp2_with (first | (go_at_call 12; with_reducible refine (image_ok11 c d _ h3 h4 b3 b4 m HM.out hl hl2).mono ?_; rintro e wx ⟨rfl, hx⟩; obtain ⟨ux, rfl⟩ := after hx; clear hx) | fail)
  have hB1a : Below w.heap.size w ((on ux).alloc (.cells #[.int .u8 1, .int .i64 m] 24)) := by
    have bw : Below w.heap.size w w := Below.refl _ _
    repeat first | (with_reducible exact bw) | (with_reducible refine below_on ?_ _) | (with_reducible refine below_alloc ?_ _)
  have L0_ : ((on ux).alloc (.cells #[.int .u8 1, .int .i64 m] 24)).cell? ⟨w.heap.size, 0, none⟩ = some (.int .u8 1) := by simp [go_sem]
  have L1_ : ((on ux).alloc (.cells #[.int .u8 1, .int .i64 m] 24)).cell? ⟨w.heap.size, 1, none⟩ = some (.int .i64 c) := by simp [go_sem]
  have O0_ : ((on ux).alloc (.cells #[.int .u8 1, .int .i64 m] 24)).cell? ⟨w.heap.size + 1, 0, none⟩ = some (.int .u8 1) := by simp [go_sem]
  have O1_ : ((on ux).alloc (.cells #[.int .u8 1, .int .i64 m] 24)).cell? ⟨w.heap.size + 1, 1, none⟩ = some (.int .i64 d) := by simp [go_sem]
  have a0 : ((on ux).alloc (.cells #[.int .u8 1, .int .i64 m] 24)).cell? ⟨(on ux).heap.size, 0, none⟩ = some (.int .u8 1) := by simp [go_sem]
  have a1 : ((on ux).alloc (.cells #[.int .u8 1, .int .i64 m] 24)).cell? ⟨(on ux).heap.size, 1, none⟩ = some (.int .i64 m) := by simp [go_sem]
  generalize (on ux).alloc (.cells #[.int .u8 1, .int .i64 m] 24) = Wa at *
  generalize (on ux).heap.size = Ba at *
  clear ux
  go_wp2_with (first | (go_at_call 13; with_reducible refine (valid_yes 1 c _ (by omega) (by omega) h3 h4).mono ?_; rintro e wx ⟨rfl, hx⟩; obtain ⟨ux, rfl⟩ := after hx; clear hx) | (go_at_call 13; with_reducible refine (valid_yes 1 d _ (by omega) (by omega) b3 b4).mono ?_; rintro e wx ⟨rfl, hx⟩; obtain ⟨ux, rfl⟩ := after hx; clear hx) | (go_at_call 15; with_reducible refine (on_1 d _ b3 b4).mono ?_; rintro e wx ⟨rfl, hx⟩; obtain ⟨ux, rfl⟩ := after hx; clear hx) | fail)
  have hB2 : Below w.heap.size w (((on ux).alloc (.cells #[.int .i64 (2 * d), .int .i64 (0)] 31)).alloc (.cells #[.int .i64 (2 * d), .int .i64 (2)] 31)) := by
    have bw : Below w.heap.size w Wa := hB1a
    repeat first | (with_reducible exact bw) | (with_reducible refine below_on ?_ _) | (with_reducible refine below_alloc ?_ _)
  have L0__ : (((on ux).alloc (.cells #[.int .i64 (2 * d), .int .i64 (0)] 31)).alloc (.cells #[.int .i64 (2 * d), .int .i64 (2)] 31)).cell? ⟨w.heap.size, 0, none⟩ = some (.int .u8 1) := by simp [go_sem, L0_]
  have L1__ : (((on ux).alloc (.cells #[.int .i64 (2 * d), .int .i64 (0)] 31)).alloc (.cells #[.int .i64 (2 * d), .int .i64 (2)] 31)).cell? ⟨w.heap.size, 1, none⟩ = some (.int .i64 c) := by simp [go_sem, L1_]
  have O0__ : (((on ux).alloc (.cells #[.int .i64 (2 * d), .int .i64 (0)] 31)).alloc (.cells #[.int .i64 (2 * d), .int .i64 (2)] 31)).cell? ⟨w.heap.size + 1, 0, none⟩ = some (.int .u8 1) := by simp [go_sem, O0_]
  have O1__ : (((on ux).alloc (.cells #[.int .i64 (2 * d), .int .i64 (0)] 31)).alloc (.cells #[.int .i64 (2 * d), .int .i64 (2)] 31)).cell? ⟨w.heap.size + 1, 1, none⟩ = some (.int .i64 d) := by simp [go_sem, O1_]
  have a0_ : (((on ux).alloc (.cells #[.int .i64 (2 * d), .int .i64 (0)] 31)).alloc (.cells #[.int .i64 (2 * d), .int .i64 (2)] 31)).cell? ⟨Ba, 0, none⟩ = some (.int .u8 1) := by simp [go_sem, a0]
  have a1_ : (((on ux).alloc (.cells #[.int .i64 (2 * d), .int .i64 (0)] 31)).alloc (.cells #[.int .i64 (2 * d), .int .i64 (2)] 31)).cell? ⟨Ba, 1, none⟩ = some (.int .i64 m) := by simp [go_sem, a1]
  have p0 : (((on ux).alloc (.cells #[.int .i64 (2 * d), .int .i64 (0)] 31)).alloc (.cells #[.int .i64 (2 * d), .int .i64 (2)] 31)).cell? ⟨(on ux).heap.size, 0, none⟩ = some (.int .i64 (2 * d)) := by simp [go_sem]
  have p1 : (((on ux).alloc (.cells #[.int .i64 (2 * d), .int .i64 (0)] 31)).alloc (.cells #[.int .i64 (2 * d), .int .i64 (2)] 31)).cell? ⟨(on ux).heap.size, 1, none⟩ = some (.int .i64 (0)) := by simp [go_sem]
  have q0 : (((on ux).alloc (.cells #[.int .i64 (2 * d), .int .i64 (0)] 31)).alloc (.cells #[.int .i64 (2 * d), .int .i64 (2)] 31)).cell? ⟨(on ux).heap.size + 1, 0, none⟩ = some (.int .i64 (2 * d)) := by simp [go_sem]
  have q1 : (((on ux).alloc (.cells #[.int .i64 (2 * d), .int .i64 (0)] 31)).alloc (.cells #[.int .i64 (2 * d), .int .i64 (2)] 31)).cell? ⟨(on ux).heap.size + 1, 1, none⟩ = some (.int .i64 (2)) := by simp [go_sem]
  clear L0_ L1_ O0_ O1_ a0 a1 hB1a
  generalize (((on ux).alloc (.cells #[.int .i64 (2 * d), .int .i64 (0)] 31)).alloc (.cells #[.int .i64 (2 * d), .int .i64 (2)] 31)) = Wb at *
  generalize (on ux).heap.size = Bb at *
  clear ux
  refine region_free2 8 6 9 31 7 10 31 _ _ (by kernel_rfl) (by kernel_rfl) (by decide) (by kernel_rfl) alloc26 (by kernel_rfl) alloc26 ?_
  simp only [List.take_succ_cons, List.take_zero, List.drop_succ_cons, List.drop_zero]
  repeat (first
    | (refine wpLex_plain (by rfl) (by rfl) (by rfl) (fun K hK => ?_); go_big_quiet_op; refine hK _ ?_; clear hK K)
    | (refine wpLex_call (by rfl) (by rfl) (fun K hK => ?_); go_simp; apply Exists.intro; refine ⟨fun _ => ?_, hK _ ?_⟩; ((first | (go_at_call 16; with_reducible exact Calls.laterL (rreflect_1 c _ _ _ (by omega) (by omega) (by omega) (by omega) h3 h4)))); clear hK K)
    | (refine wpLex_new (by rfl) ?_; simp only [Act.put, List.setIfInBounds_toArray, List.set_cons_zero, List.set_cons_succ]))
  refine wpLex_nil ?_
  intro q q2 u hb hk hb2 hk2 hne
  simp only [Act.put, List.setIfInBounds_toArray, List.set_cons_zero, List.set_cons_succ]
  have hne2 : q2 ≠ q := Ne.symm hne
  have e0 : (on u).cell? ⟨q, 0, none⟩ = some (.int .i64 0) := held_cell hk 0
  have e1 : (on u).cell? ⟨q, 1, none⟩ = some (.int .i64 0) := held_cell hk 1
  have f0 : (on u).frozen? ⟨q, 0, none⟩ = false := held_free hk 0
  have f1 : (on u).frozen? ⟨q, 1, none⟩ = false := held_free hk 1
  have e2 : ∀ v v', (((on u).setCell ⟨q, 0, none⟩ v).setCell ⟨q, 1, none⟩ v').cell? ⟨q2, 0, none⟩ = some (.int .i64 0) := fun v v' => held_cell (held_set_other (held_set_other hk2 hne2 _ _) hne2 _ _) 0
  have e3 : ∀ v v', (((on u).setCell ⟨q, 0, none⟩ v).setCell ⟨q, 1, none⟩ v').cell? ⟨q2, 1, none⟩ = some (.int .i64 0) := fun v v' => held_cell (held_set_other (held_set_other hk2 hne2 _ _) hne2 _ _) 1
  have f2 : (on u).frozen? ⟨q2, 0, none⟩ = false := held_free hk2 0
  have f3 : (on u).frozen? ⟨q2, 1, none⟩ = false := held_free hk2 1
  obtain ⟨v, hv, hl1, hl2'⟩ := stored22 hb hk hb2 hk2 hne (.int .i64 (2 * (2 * c) - (2 * d))) (.int .i64 ((0))) (.int .i64 (2 * (2 * c) - (2 * d))) (.int .i64 ((2)))
  try simp only [Int.sub_zero, Int.zero_sub, Int.zero_add, Int.sub_neg] at hv hl1 hl2'
  have x0 : (on v).cell? ⟨q, 0, none⟩ = _ := held_cell hl1 0
  have x1 : (on v).cell? ⟨q, 1, none⟩ = _ := held_cell hl1 1
  have y0 : (on v).cell? ⟨q2, 0, none⟩ = _ := held_cell hl2' 0
  have y1 : (on v).cell? ⟨q2, 1, none⟩ = _ := held_cell hl2' 1
  simp only [List.getElem?_toArray, List.getElem?_cons_zero, List.getElem?_cons_succ] at x0 x1 y0 y1
  have L0___ : (on v).cell? ⟨w.heap.size, 0, none⟩ = some (.int .u8 1) := by simp [go_sem, L0__]
  have L1___ : (on v).cell? ⟨w.heap.size, 1, none⟩ = some (.int .i64 c) := by simp [go_sem, L1__]
  have O0___ : (on v).cell? ⟨w.heap.size + 1, 0, none⟩ = some (.int .u8 1) := by simp [go_sem, O0__]
  have O1___ : (on v).cell? ⟨w.heap.size + 1, 1, none⟩ = some (.int .i64 d) := by simp [go_sem, O1__]
  have a0__ : (on v).cell? ⟨Ba, 0, none⟩ = some (.int .u8 1) := by simp [go_sem, a0_]
  have a1__ : (on v).cell? ⟨Ba, 1, none⟩ = some (.int .i64 m) := by simp [go_sem, a1_]
  have p0_ : (on v).cell? ⟨Bb, 0, none⟩ = some (.int .i64 (2 * d)) := by simp [go_sem, p0]
  have p1_ : (on v).cell? ⟨Bb, 1, none⟩ = some (.int .i64 (0)) := by simp [go_sem, p1]
  have q0_ : (on v).cell? ⟨Bb + 1, 0, none⟩ = some (.int .i64 (2 * d)) := by simp [go_sem, q0]
  have q1_ : (on v).cell? ⟨Bb + 1, 1, none⟩ = some (.int .i64 (2)) := by simp [go_sem, q1]
  have hB3 : Below w.heap.size w (on v) := below_on hB2 v
  go_wp2_with fail
  clear hb hb2 hk hk2 hne hne2 e0 e1 e2 e3 f0 f1 f2 f3 hl1 hl2' L0__ L1__ O0__ O1__ a0_ a1_ p0 p1 q0 q1 hB2 hv
  generalize on v = Wc at *
  clear v
  go_loopw [12] (fun iv wr => ∃ i s0 s1 : Int, iv = .int .u8 i ∧ ((i = 1 ∧ s0 = 0 ∧ 0 = s1) ∨ (i = 2 ∧ s0 = 1 ∧ m = s1) ∨ (i = 3 ∧ s0 = 1 ∧ m = s1) ∨ (i = 4 ∧ s0 = 1 ∧ m = s1) ∨ (i = 5 ∧ s0 = 1 ∧ m = s1)) ∧ ∃ u : Later Wc, wr = on u ∧ (on u).heap[Wc.heap.size]? = some (.cells #[.int .u8 s0, .int .i64 s1] 24)) (fun iv _ => (5 - intOf iv).toNat)
  case atStart => exact ⟨1, 0, 0, rfl, by omega, ⟨_, below_alloc (Below.refl _ _) _⟩, rfl, (MapKept.heap_alloc _ _).1⟩
  case round =>
    obtain ⟨i, s0, s1, rfl, hp, u0, rfl, hh⟩ := hrel
    have n0 : (on u0).cell? ⟨Wc.heap.size, 0, none⟩ = some (.int .u8 s0) := held_cell hh 0
    have n1 : (on u0).cell? ⟨Wc.heap.size, 1, none⟩ = some (.int .i64 s1) := held_cell hh 1
    have nf0 : (on u0).frozen? ⟨Wc.heap.size, 0, none⟩ = false := held_free hh 0
    have nf1 : (on u0).frozen? ⟨Wc.heap.size, 1, none⟩ = false := held_free hh 1
    obtain ⟨rfl, rfl, rfl⟩ | ⟨rfl, rfl, rfl⟩ | ⟨rfl, rfl, rfl⟩ | ⟨rfl, rfl, rfl⟩ | ⟨rfl, rfl, rfl⟩ := hp
    · go_wp2_with (first | (go_at_call 17; with_reducible refine (across_1 _).mono ?_; rintro e wx ⟨rfl, rfl⟩) | fail)
      all_goals first
        | (obtain ⟨u1, hu, hh1⟩ := stored2 (Nat.le_refl _) hh (.int .u8 1) (.int .i64 m)
           refine ⟨⟨1 + 1, 1, m, rfl, by omega, u1, ?_, hh1⟩, by simp [intOf]⟩
           rw [← hu]
           congr 2
           have := HM.out
           first | omega | exact td2 (by omega))
        | (exfalso; rename_i hq; simp at hq; omega)
        | (exfalso; rename_i hq; simp at hq)
    · go_wp2_with (first | (go_at_call 17; with_reducible refine (across_2 _).mono ?_; rintro e wx ⟨rfl, rfl⟩) | fail)
      all_goals first
        | exact ⟨⟨2 + 1, 1, m, rfl, by omega, u0, rfl, hh⟩, by simp [intOf]⟩
        | (go_roundw
           case rel => exact ⟨2 + 1, 1, m, rfl, by omega, u0, rfl, hh⟩
           case measure => simp [intOf])
        | (exfalso; rename_i hq; simp at hq; omega)
        | (exfalso; rename_i hq; simp at hq)
    · go_wp2_with (first | (go_at_call 17; with_reducible refine (across_3 _).mono ?_; rintro e wx ⟨rfl, rfl⟩) | fail)
      all_goals first
        | exact ⟨⟨3 + 1, 1, m, rfl, by omega, u0, rfl, hh⟩, by simp [intOf]⟩
        | (go_roundw
           case rel => exact ⟨3 + 1, 1, m, rfl, by omega, u0, rfl, hh⟩
           case measure => simp [intOf])
        | (exfalso; rename_i hq; simp at hq; omega)
        | (exfalso; rename_i hq; simp at hq)
    · go_wp2_with (first | (go_at_call 17; with_reducible refine (across_4 _).mono ?_; rintro e wx ⟨rfl, rfl⟩) | fail)
      all_goals first
        | exact ⟨⟨4 + 1, 1, m, rfl, by omega, u0, rfl, hh⟩, by simp [intOf]⟩
        | (go_roundw
           case rel => exact ⟨4 + 1, 1, m, rfl, by omega, u0, rfl, hh⟩
           case measure => simp [intOf])
        | (exfalso; rename_i hq; simp at hq; omega)
        | (exfalso; rename_i hq; simp at hq)
    · have hB4 : Below w.heap.size w (on u0) := below_on hB3 u0
      go_wp2_with (first | (go_at_call 13; with_reducible refine (valid_yes 1 m _ (by omega) (by omega) hl hl2).mono ?_; rintro e wx ⟨rfl, hx⟩; obtain ⟨ux, rfl⟩ := after hx; clear hx) | (go_at_call 12; with_reducible refine (image_ok11 c m _ h3 h4 hl hl2 d (by have := HM.out; omega) b3 b4).mono ?_; rintro e wx ⟨rfl, hx⟩; obtain ⟨ux, rfl⟩ := after hx; clear hx) | (go_at_call 14; with_reducible refine (lives_ok _ (hT' _ (by have bw := hB4; repeat first | exact bw | (with_reducible refine below_on ?_ _) | (with_reducible refine below_alloc ?_ _)))).mono ?_; rintro e wx ⟨rfl, hx⟩; obtain ⟨ux, rfl⟩ := after hx; clear hx) | fail)
      go_ret
      exact ⟨rfl, by
        have bw := hB4
        repeat first | exact bw | (with_reducible refine below_on ?_ _) | (with_reducible refine below_alloc ?_ _)⟩

set_option maxRecDepth 100000 in
set_option maxHeartbeats 8000000 in
theorem limg_far11 (c d : Int) (w : World) (hT : Tab w) (h3 : -4096 ≤ c) (h4 : c ≤ 4096) (b3 : -4096 ≤ d) (b4 : d ≤ 4096) (m : Int) (hm : m = (2) * c + (-1) * d) (hl : m < -4096 ∨ 4096 < m) : Calls Tryd.prog 3 #[ln 1 c, ln 1 d] w fun e w' => e = .returned (.bool true) ∧ Below w.heap.size w w' := by
  have hT' : ∀ W, Below w.heap.size w W → Tab W := fun W hb => tab_below hT hb
  have HL : Hid (m < -4096 ∨ 4096 < m) := hl
  clear hl
  have HM : Hid (m = (2) * c + (-1) * d) := hm
  clear hm
  go_enter Tryd.func3, Tryd.ntmps3
  go_wp2_with (first | (go_at_call 12; with_reducible refine (image_far11 c d _ h3 h4 b3 b4 m HM.out HL.out).mono ?_; rintro e wx ⟨rfl, hx⟩; obtain ⟨ux, rfl⟩ := after hx; clear hx) | fail)
  have hB1a : Below w.heap.size w ((on ux).alloc (.cells #[.int .u8 0, .int .i64 0] 24)) := by
    have bw : Below w.heap.size w w := Below.refl _ _
    repeat first | (with_reducible exact bw) | (with_reducible refine below_on ?_ _) | (with_reducible refine below_alloc ?_ _)
  have L0_ : ((on ux).alloc (.cells #[.int .u8 0, .int .i64 0] 24)).cell? ⟨w.heap.size, 0, none⟩ = some (.int .u8 1) := by simp [go_sem]
  have L1_ : ((on ux).alloc (.cells #[.int .u8 0, .int .i64 0] 24)).cell? ⟨w.heap.size, 1, none⟩ = some (.int .i64 c) := by simp [go_sem]
  have O0_ : ((on ux).alloc (.cells #[.int .u8 0, .int .i64 0] 24)).cell? ⟨w.heap.size + 1, 0, none⟩ = some (.int .u8 1) := by simp [go_sem]
  have O1_ : ((on ux).alloc (.cells #[.int .u8 0, .int .i64 0] 24)).cell? ⟨w.heap.size + 1, 1, none⟩ = some (.int .i64 d) := by simp [go_sem]
  have a0 : ((on ux).alloc (.cells #[.int .u8 0, .int .i64 0] 24)).cell? ⟨(on ux).heap.size, 0, none⟩ = some (.int .u8 0) := by simp [go_sem]
  have a1 : ((on ux).alloc (.cells #[.int .u8 0, .int .i64 0] 24)).cell? ⟨(on ux).heap.size, 1, none⟩ = some (.int .i64 0) := by simp [go_sem]
  generalize (on ux).alloc (.cells #[.int .u8 0, .int .i64 0] 24) = Wa at *
  generalize (on ux).heap.size = Ba at *
  clear ux
  go_wp2_with (first | (go_at_call 13; with_reducible refine (valid_yes 1 c _ (by omega) (by omega) h3 h4).mono ?_; rintro e wx ⟨rfl, hx⟩; obtain ⟨ux, rfl⟩ := after hx; clear hx) | (go_at_call 13; with_reducible refine (valid_yes 1 d _ (by omega) (by omega) b3 b4).mono ?_; rintro e wx ⟨rfl, hx⟩; obtain ⟨ux, rfl⟩ := after hx; clear hx) | (go_at_call 15; with_reducible refine (on_1 d _ b3 b4).mono ?_; rintro e wx ⟨rfl, hx⟩; obtain ⟨ux, rfl⟩ := after hx; clear hx) | fail)
  have hB2 : Below w.heap.size w (((on ux).alloc (.cells #[.int .i64 (2 * d), .int .i64 (0)] 31)).alloc (.cells #[.int .i64 (2 * d), .int .i64 (2)] 31)) := by
    have bw : Below w.heap.size w Wa := hB1a
    repeat first | (with_reducible exact bw) | (with_reducible refine below_on ?_ _) | (with_reducible refine below_alloc ?_ _)
  have L0__ : (((on ux).alloc (.cells #[.int .i64 (2 * d), .int .i64 (0)] 31)).alloc (.cells #[.int .i64 (2 * d), .int .i64 (2)] 31)).cell? ⟨w.heap.size, 0, none⟩ = some (.int .u8 1) := by simp [go_sem, L0_]
  have L1__ : (((on ux).alloc (.cells #[.int .i64 (2 * d), .int .i64 (0)] 31)).alloc (.cells #[.int .i64 (2 * d), .int .i64 (2)] 31)).cell? ⟨w.heap.size, 1, none⟩ = some (.int .i64 c) := by simp [go_sem, L1_]
  have O0__ : (((on ux).alloc (.cells #[.int .i64 (2 * d), .int .i64 (0)] 31)).alloc (.cells #[.int .i64 (2 * d), .int .i64 (2)] 31)).cell? ⟨w.heap.size + 1, 0, none⟩ = some (.int .u8 1) := by simp [go_sem, O0_]
  have O1__ : (((on ux).alloc (.cells #[.int .i64 (2 * d), .int .i64 (0)] 31)).alloc (.cells #[.int .i64 (2 * d), .int .i64 (2)] 31)).cell? ⟨w.heap.size + 1, 1, none⟩ = some (.int .i64 d) := by simp [go_sem, O1_]
  have a0_ : (((on ux).alloc (.cells #[.int .i64 (2 * d), .int .i64 (0)] 31)).alloc (.cells #[.int .i64 (2 * d), .int .i64 (2)] 31)).cell? ⟨Ba, 0, none⟩ = some (.int .u8 0) := by simp [go_sem, a0]
  have a1_ : (((on ux).alloc (.cells #[.int .i64 (2 * d), .int .i64 (0)] 31)).alloc (.cells #[.int .i64 (2 * d), .int .i64 (2)] 31)).cell? ⟨Ba, 1, none⟩ = some (.int .i64 0) := by simp [go_sem, a1]
  have p0 : (((on ux).alloc (.cells #[.int .i64 (2 * d), .int .i64 (0)] 31)).alloc (.cells #[.int .i64 (2 * d), .int .i64 (2)] 31)).cell? ⟨(on ux).heap.size, 0, none⟩ = some (.int .i64 (2 * d)) := by simp [go_sem]
  have p1 : (((on ux).alloc (.cells #[.int .i64 (2 * d), .int .i64 (0)] 31)).alloc (.cells #[.int .i64 (2 * d), .int .i64 (2)] 31)).cell? ⟨(on ux).heap.size, 1, none⟩ = some (.int .i64 (0)) := by simp [go_sem]
  have q0 : (((on ux).alloc (.cells #[.int .i64 (2 * d), .int .i64 (0)] 31)).alloc (.cells #[.int .i64 (2 * d), .int .i64 (2)] 31)).cell? ⟨(on ux).heap.size + 1, 0, none⟩ = some (.int .i64 (2 * d)) := by simp [go_sem]
  have q1 : (((on ux).alloc (.cells #[.int .i64 (2 * d), .int .i64 (0)] 31)).alloc (.cells #[.int .i64 (2 * d), .int .i64 (2)] 31)).cell? ⟨(on ux).heap.size + 1, 1, none⟩ = some (.int .i64 (2)) := by simp [go_sem]
  clear L0_ L1_ O0_ O1_ a0 a1 hB1a
  generalize (((on ux).alloc (.cells #[.int .i64 (2 * d), .int .i64 (0)] 31)).alloc (.cells #[.int .i64 (2 * d), .int .i64 (2)] 31)) = Wb at *
  generalize (on ux).heap.size = Bb at *
  clear ux
  refine region_free2 8 6 9 31 7 10 31 _ _ (by kernel_rfl) (by kernel_rfl) (by decide) (by kernel_rfl) alloc26 (by kernel_rfl) alloc26 ?_
  simp only [List.take_succ_cons, List.take_zero, List.drop_succ_cons, List.drop_zero]
  repeat (first
    | (refine wpLex_plain (by rfl) (by rfl) (by rfl) (fun K hK => ?_); go_big_quiet_op; refine hK _ ?_; clear hK K)
    | (refine wpLex_call (by rfl) (by rfl) (fun K hK => ?_); go_simp; apply Exists.intro; refine ⟨fun _ => ?_, hK _ ?_⟩; ((first | (go_at_call 16; with_reducible exact Calls.laterL (rreflect_1 c _ _ _ (by omega) (by omega) (by omega) (by omega) h3 h4)))); clear hK K)
    | (refine wpLex_new (by rfl) ?_; simp only [Act.put, List.setIfInBounds_toArray, List.set_cons_zero, List.set_cons_succ]))
  refine wpLex_nil ?_
  intro q q2 u hb hk hb2 hk2 hne
  simp only [Act.put, List.setIfInBounds_toArray, List.set_cons_zero, List.set_cons_succ]
  have hne2 : q2 ≠ q := Ne.symm hne
  have e0 : (on u).cell? ⟨q, 0, none⟩ = some (.int .i64 0) := held_cell hk 0
  have e1 : (on u).cell? ⟨q, 1, none⟩ = some (.int .i64 0) := held_cell hk 1
  have f0 : (on u).frozen? ⟨q, 0, none⟩ = false := held_free hk 0
  have f1 : (on u).frozen? ⟨q, 1, none⟩ = false := held_free hk 1
  have e2 : ∀ v v', (((on u).setCell ⟨q, 0, none⟩ v).setCell ⟨q, 1, none⟩ v').cell? ⟨q2, 0, none⟩ = some (.int .i64 0) := fun v v' => held_cell (held_set_other (held_set_other hk2 hne2 _ _) hne2 _ _) 0
  have e3 : ∀ v v', (((on u).setCell ⟨q, 0, none⟩ v).setCell ⟨q, 1, none⟩ v').cell? ⟨q2, 1, none⟩ = some (.int .i64 0) := fun v v' => held_cell (held_set_other (held_set_other hk2 hne2 _ _) hne2 _ _) 1
  have f2 : (on u).frozen? ⟨q2, 0, none⟩ = false := held_free hk2 0
  have f3 : (on u).frozen? ⟨q2, 1, none⟩ = false := held_free hk2 1
  obtain ⟨v, hv, hl1, hl2'⟩ := stored22 hb hk hb2 hk2 hne (.int .i64 (2 * (2 * c) - (2 * d))) (.int .i64 ((0))) (.int .i64 (2 * (2 * c) - (2 * d))) (.int .i64 ((2)))
  try simp only [Int.sub_zero, Int.zero_sub, Int.zero_add, Int.sub_neg] at hv hl1 hl2'
  have x0 : (on v).cell? ⟨q, 0, none⟩ = _ := held_cell hl1 0
  have x1 : (on v).cell? ⟨q, 1, none⟩ = _ := held_cell hl1 1
  have y0 : (on v).cell? ⟨q2, 0, none⟩ = _ := held_cell hl2' 0
  have y1 : (on v).cell? ⟨q2, 1, none⟩ = _ := held_cell hl2' 1
  simp only [List.getElem?_toArray, List.getElem?_cons_zero, List.getElem?_cons_succ] at x0 x1 y0 y1
  have L0___ : (on v).cell? ⟨w.heap.size, 0, none⟩ = some (.int .u8 1) := by simp [go_sem, L0__]
  have L1___ : (on v).cell? ⟨w.heap.size, 1, none⟩ = some (.int .i64 c) := by simp [go_sem, L1__]
  have O0___ : (on v).cell? ⟨w.heap.size + 1, 0, none⟩ = some (.int .u8 1) := by simp [go_sem, O0__]
  have O1___ : (on v).cell? ⟨w.heap.size + 1, 1, none⟩ = some (.int .i64 d) := by simp [go_sem, O1__]
  have a0__ : (on v).cell? ⟨Ba, 0, none⟩ = some (.int .u8 0) := by simp [go_sem, a0_]
  have a1__ : (on v).cell? ⟨Ba, 1, none⟩ = some (.int .i64 0) := by simp [go_sem, a1_]
  have p0_ : (on v).cell? ⟨Bb, 0, none⟩ = some (.int .i64 (2 * d)) := by simp [go_sem, p0]
  have p1_ : (on v).cell? ⟨Bb, 1, none⟩ = some (.int .i64 (0)) := by simp [go_sem, p1]
  have q0_ : (on v).cell? ⟨Bb + 1, 0, none⟩ = some (.int .i64 (2 * d)) := by simp [go_sem, q0]
  have q1_ : (on v).cell? ⟨Bb + 1, 1, none⟩ = some (.int .i64 (2)) := by simp [go_sem, q1]
  have hB3 : Below w.heap.size w (on v) := below_on hB2 v
  go_wp2_with fail
  clear hb hb2 hk hk2 hne hne2 e0 e1 e2 e3 f0 f1 f2 f3 hl1 hl2' L0__ L1__ O0__ O1__ a0_ a1_ p0 p1 q0 q1 hB2 hv
  generalize on v = Wc at *
  clear v
  go_loopw [12] (fun iv wr => ∃ i s0 s1 : Int, iv = .int .u8 i ∧ ((i = 1 ∧ s0 = 0 ∧ 0 = s1) ∨ (i = 2 ∧ s0 = 1 ∧ m = s1) ∨ (i = 3 ∧ s0 = 1 ∧ m = s1) ∨ (i = 4 ∧ s0 = 1 ∧ m = s1) ∨ (i = 5 ∧ s0 = 1 ∧ m = s1)) ∧ ∃ u : Later Wc, wr = on u ∧ (on u).heap[Wc.heap.size]? = some (.cells #[.int .u8 s0, .int .i64 s1] 24)) (fun iv _ => (5 - intOf iv).toNat)
  case atStart => exact ⟨1, 0, 0, rfl, by omega, ⟨_, below_alloc (Below.refl _ _) _⟩, rfl, (MapKept.heap_alloc _ _).1⟩
  case round =>
    obtain ⟨i, s0, s1, rfl, hp, u0, rfl, hh⟩ := hrel
    have n0 : (on u0).cell? ⟨Wc.heap.size, 0, none⟩ = some (.int .u8 s0) := held_cell hh 0
    have n1 : (on u0).cell? ⟨Wc.heap.size, 1, none⟩ = some (.int .i64 s1) := held_cell hh 1
    have nf0 : (on u0).frozen? ⟨Wc.heap.size, 0, none⟩ = false := held_free hh 0
    have nf1 : (on u0).frozen? ⟨Wc.heap.size, 1, none⟩ = false := held_free hh 1
    obtain ⟨rfl, rfl, rfl⟩ | ⟨rfl, rfl, rfl⟩ | ⟨rfl, rfl, rfl⟩ | ⟨rfl, rfl, rfl⟩ | ⟨rfl, rfl, rfl⟩ := hp
    · go_wp2_with (first | (go_at_call 17; with_reducible refine (across_1 _).mono ?_; rintro e wx ⟨rfl, rfl⟩) | fail)
      all_goals first
        | (obtain ⟨u1, hu, hh1⟩ := stored2 (Nat.le_refl _) hh (.int .u8 1) (.int .i64 m)
           refine ⟨⟨1 + 1, 1, m, rfl, by omega, u1, ?_, hh1⟩, by simp [intOf]⟩
           rw [← hu]
           congr 2
           have := HM.out
           first | omega | exact td2 (by omega))
        | (exfalso; rename_i hq; simp at hq; omega)
        | (exfalso; rename_i hq; simp at hq)
    · go_wp2_with (first | (go_at_call 17; with_reducible refine (across_2 _).mono ?_; rintro e wx ⟨rfl, rfl⟩) | fail)
      all_goals first
        | exact ⟨⟨2 + 1, 1, m, rfl, by omega, u0, rfl, hh⟩, by simp [intOf]⟩
        | (go_roundw
           case rel => exact ⟨2 + 1, 1, m, rfl, by omega, u0, rfl, hh⟩
           case measure => simp [intOf])
        | (exfalso; rename_i hq; simp at hq; omega)
        | (exfalso; rename_i hq; simp at hq)
    · go_wp2_with (first | (go_at_call 17; with_reducible refine (across_3 _).mono ?_; rintro e wx ⟨rfl, rfl⟩) | fail)
      all_goals first
        | exact ⟨⟨3 + 1, 1, m, rfl, by omega, u0, rfl, hh⟩, by simp [intOf]⟩
        | (go_roundw
           case rel => exact ⟨3 + 1, 1, m, rfl, by omega, u0, rfl, hh⟩
           case measure => simp [intOf])
        | (exfalso; rename_i hq; simp at hq; omega)
        | (exfalso; rename_i hq; simp at hq)
    · go_wp2_with (first | (go_at_call 17; with_reducible refine (across_4 _).mono ?_; rintro e wx ⟨rfl, rfl⟩) | fail)
      all_goals first
        | exact ⟨⟨4 + 1, 1, m, rfl, by omega, u0, rfl, hh⟩, by simp [intOf]⟩
        | (go_roundw
           case rel => exact ⟨4 + 1, 1, m, rfl, by omega, u0, rfl, hh⟩
           case measure => simp [intOf])
        | (exfalso; rename_i hq; simp at hq; omega)
        | (exfalso; rename_i hq; simp at hq)
    · have hB4 : Below w.heap.size w (on u0) := below_on hB3 u0
      go_wp2_with (first | (go_at_call 13; with_reducible refine (valid_no 1 m _ (by have := HL.out; omega)).mono ?_; rintro e wx ⟨rfl, hx⟩; obtain ⟨ux, rfl⟩ := after hx; clear hx) | (go_at_call 14; with_reducible refine (lives_ok _ (hT' _ (by have bw := hB4; repeat first | exact bw | (with_reducible refine below_on ?_ _) | (with_reducible refine below_alloc ?_ _)))).mono ?_; rintro e wx ⟨rfl, hx⟩; obtain ⟨ux, rfl⟩ := after hx; clear hx) | fail)
      go_ret
      exact ⟨rfl, by
        have bw := hB4
        repeat first | exact bw | (with_reducible refine below_on ?_ _) | (with_reducible refine below_alloc ?_ _)⟩

set_option maxRecDepth 100000 in
set_option maxHeartbeats 8000000 in
theorem limg_ok12 (c d : Int) (w : World) (hT : Tab w) (h3 : -4096 ≤ c) (h4 : c ≤ 4096) (b3 : -4096 ≤ d) (b4 : d ≤ 4096) (m : Int) (hm : m = (0) * c + (1) * d) (hl : -4096 ≤ m) (hl2 : m ≤ 4096) : Calls Tryd.prog 3 #[ln 1 c, ln 2 d] w fun e w' => e = .returned (.bool true) ∧ Below w.heap.size w w' := by
  have hT' : ∀ W, Below w.heap.size w W → Tab W := fun W hb => tab_below hT hb
  have HM : Hid (m = (0) * c + (1) * d) := hm
  clear hm
  go_enter Tryd.func3, Tryd.ntmps3
  go_wp2_with (first | (go_at_call 12; with_reducible refine (image_ok12 c d _ h3 h4 b3 b4 m HM.out hl hl2).mono ?_; rintro e wx ⟨rfl, hx⟩; obtain ⟨ux, rfl⟩ := after hx; clear hx) | fail)
  have hB1a : Below w.heap.size w ((on ux).alloc (.cells #[.int .u8 2, .int .i64 m] 24)) := by
    have bw : Below w.heap.size w w := Below.refl _ _
    repeat first | (with_reducible exact bw) | (with_reducible refine below_on ?_ _) | (with_reducible refine below_alloc ?_ _)
  have L0_ : ((on ux).alloc (.cells #[.int .u8 2, .int .i64 m] 24)).cell? ⟨w.heap.size, 0, none⟩ = some (.int .u8 1) := by simp [go_sem]
  have L1_ : ((on ux).alloc (.cells #[.int .u8 2, .int .i64 m] 24)).cell? ⟨w.heap.size, 1, none⟩ = some (.int .i64 c) := by simp [go_sem]
  have O0_ : ((on ux).alloc (.cells #[.int .u8 2, .int .i64 m] 24)).cell? ⟨w.heap.size + 1, 0, none⟩ = some (.int .u8 2) := by simp [go_sem]
  have O1_ : ((on ux).alloc (.cells #[.int .u8 2, .int .i64 m] 24)).cell? ⟨w.heap.size + 1, 1, none⟩ = some (.int .i64 d) := by simp [go_sem]
  have a0 : ((on ux).alloc (.cells #[.int .u8 2, .int .i64 m] 24)).cell? ⟨(on ux).heap.size, 0, none⟩ = some (.int .u8 2) := by simp [go_sem]
  have a1 : ((on ux).alloc (.cells #[.int .u8 2, .int .i64 m] 24)).cell? ⟨(on ux).heap.size, 1, none⟩ = some (.int .i64 m) := by simp [go_sem]
  generalize (on ux).alloc (.cells #[.int .u8 2, .int .i64 m] 24) = Wa at *
  generalize (on ux).heap.size = Ba at *
  clear ux
  go_wp2_with (first | (go_at_call 13; with_reducible refine (valid_yes 1 c _ (by omega) (by omega) h3 h4).mono ?_; rintro e wx ⟨rfl, hx⟩; obtain ⟨ux, rfl⟩ := after hx; clear hx) | (go_at_call 13; with_reducible refine (valid_yes 2 d _ (by omega) (by omega) b3 b4).mono ?_; rintro e wx ⟨rfl, hx⟩; obtain ⟨ux, rfl⟩ := after hx; clear hx) | (go_at_call 15; with_reducible refine (on_2 d _ b3 b4).mono ?_; rintro e wx ⟨rfl, hx⟩; obtain ⟨ux, rfl⟩ := after hx; clear hx) | fail)
  have hB2 : Below w.heap.size w (((on ux).alloc (.cells #[.int .i64 (0), .int .i64 (2 * d)] 31)).alloc (.cells #[.int .i64 (-2), .int .i64 (2 * d)] 31)) := by
    have bw : Below w.heap.size w Wa := hB1a
    repeat first | (with_reducible exact bw) | (with_reducible refine below_on ?_ _) | (with_reducible refine below_alloc ?_ _)
  have L0__ : (((on ux).alloc (.cells #[.int .i64 (0), .int .i64 (2 * d)] 31)).alloc (.cells #[.int .i64 (-2), .int .i64 (2 * d)] 31)).cell? ⟨w.heap.size, 0, none⟩ = some (.int .u8 1) := by simp [go_sem, L0_]
  have L1__ : (((on ux).alloc (.cells #[.int .i64 (0), .int .i64 (2 * d)] 31)).alloc (.cells #[.int .i64 (-2), .int .i64 (2 * d)] 31)).cell? ⟨w.heap.size, 1, none⟩ = some (.int .i64 c) := by simp [go_sem, L1_]
  have O0__ : (((on ux).alloc (.cells #[.int .i64 (0), .int .i64 (2 * d)] 31)).alloc (.cells #[.int .i64 (-2), .int .i64 (2 * d)] 31)).cell? ⟨w.heap.size + 1, 0, none⟩ = some (.int .u8 2) := by simp [go_sem, O0_]
  have O1__ : (((on ux).alloc (.cells #[.int .i64 (0), .int .i64 (2 * d)] 31)).alloc (.cells #[.int .i64 (-2), .int .i64 (2 * d)] 31)).cell? ⟨w.heap.size + 1, 1, none⟩ = some (.int .i64 d) := by simp [go_sem, O1_]
  have a0_ : (((on ux).alloc (.cells #[.int .i64 (0), .int .i64 (2 * d)] 31)).alloc (.cells #[.int .i64 (-2), .int .i64 (2 * d)] 31)).cell? ⟨Ba, 0, none⟩ = some (.int .u8 2) := by simp [go_sem, a0]
  have a1_ : (((on ux).alloc (.cells #[.int .i64 (0), .int .i64 (2 * d)] 31)).alloc (.cells #[.int .i64 (-2), .int .i64 (2 * d)] 31)).cell? ⟨Ba, 1, none⟩ = some (.int .i64 m) := by simp [go_sem, a1]
  have p0 : (((on ux).alloc (.cells #[.int .i64 (0), .int .i64 (2 * d)] 31)).alloc (.cells #[.int .i64 (-2), .int .i64 (2 * d)] 31)).cell? ⟨(on ux).heap.size, 0, none⟩ = some (.int .i64 (0)) := by simp [go_sem]
  have p1 : (((on ux).alloc (.cells #[.int .i64 (0), .int .i64 (2 * d)] 31)).alloc (.cells #[.int .i64 (-2), .int .i64 (2 * d)] 31)).cell? ⟨(on ux).heap.size, 1, none⟩ = some (.int .i64 (2 * d)) := by simp [go_sem]
  have q0 : (((on ux).alloc (.cells #[.int .i64 (0), .int .i64 (2 * d)] 31)).alloc (.cells #[.int .i64 (-2), .int .i64 (2 * d)] 31)).cell? ⟨(on ux).heap.size + 1, 0, none⟩ = some (.int .i64 (-2)) := by simp [go_sem]
  have q1 : (((on ux).alloc (.cells #[.int .i64 (0), .int .i64 (2 * d)] 31)).alloc (.cells #[.int .i64 (-2), .int .i64 (2 * d)] 31)).cell? ⟨(on ux).heap.size + 1, 1, none⟩ = some (.int .i64 (2 * d)) := by simp [go_sem]
  clear L0_ L1_ O0_ O1_ a0 a1 hB1a
  generalize (((on ux).alloc (.cells #[.int .i64 (0), .int .i64 (2 * d)] 31)).alloc (.cells #[.int .i64 (-2), .int .i64 (2 * d)] 31)) = Wb at *
  generalize (on ux).heap.size = Bb at *
  clear ux
  refine region_free2 8 6 9 31 7 10 31 _ _ (by kernel_rfl) (by kernel_rfl) (by decide) (by kernel_rfl) alloc26 (by kernel_rfl) alloc26 ?_
  simp only [List.take_succ_cons, List.take_zero, List.drop_succ_cons, List.drop_zero]
  repeat (first
    | (refine wpLex_plain (by rfl) (by rfl) (by rfl) (fun K hK => ?_); go_big_quiet_op; refine hK _ ?_; clear hK K)
    | (refine wpLex_call (by rfl) (by rfl) (fun K hK => ?_); go_simp; apply Exists.intro; refine ⟨fun _ => ?_, hK _ ?_⟩; ((first | (go_at_call 16; with_reducible exact Calls.laterL (rreflect_1 c _ _ _ (by omega) (by omega) (by omega) (by omega) h3 h4)))); clear hK K)
    | (refine wpLex_new (by rfl) ?_; simp only [Act.put, List.setIfInBounds_toArray, List.set_cons_zero, List.set_cons_succ]))
  refine wpLex_nil ?_
  intro q q2 u hb hk hb2 hk2 hne
  simp only [Act.put, List.setIfInBounds_toArray, List.set_cons_zero, List.set_cons_succ]
  have hne2 : q2 ≠ q := Ne.symm hne
  have e0 : (on u).cell? ⟨q, 0, none⟩ = some (.int .i64 0) := held_cell hk 0
  have e1 : (on u).cell? ⟨q, 1, none⟩ = some (.int .i64 0) := held_cell hk 1
  have f0 : (on u).frozen? ⟨q, 0, none⟩ = false := held_free hk 0
  have f1 : (on u).frozen? ⟨q, 1, none⟩ = false := held_free hk 1
  have e2 : ∀ v v', (((on u).setCell ⟨q, 0, none⟩ v).setCell ⟨q, 1, none⟩ v').cell? ⟨q2, 0, none⟩ = some (.int .i64 0) := fun v v' => held_cell (held_set_other (held_set_other hk2 hne2 _ _) hne2 _ _) 0
  have e3 : ∀ v v', (((on u).setCell ⟨q, 0, none⟩ v).setCell ⟨q, 1, none⟩ v').cell? ⟨q2, 1, none⟩ = some (.int .i64 0) := fun v v' => held_cell (held_set_other (held_set_other hk2 hne2 _ _) hne2 _ _) 1
  have f2 : (on u).frozen? ⟨q2, 0, none⟩ = false := held_free hk2 0
  have f3 : (on u).frozen? ⟨q2, 1, none⟩ = false := held_free hk2 1
  obtain ⟨v, hv, hl1, hl2'⟩ := stored22 hb hk hb2 hk2 hne (.int .i64 (2 * (2 * c) - (0))) (.int .i64 ((2 * d))) (.int .i64 (2 * (2 * c) - (-2))) (.int .i64 ((2 * d)))
  try simp only [Int.sub_zero, Int.zero_sub, Int.zero_add, Int.sub_neg] at hv hl1 hl2'
  have x0 : (on v).cell? ⟨q, 0, none⟩ = _ := held_cell hl1 0
  have x1 : (on v).cell? ⟨q, 1, none⟩ = _ := held_cell hl1 1
  have y0 : (on v).cell? ⟨q2, 0, none⟩ = _ := held_cell hl2' 0
  have y1 : (on v).cell? ⟨q2, 1, none⟩ = _ := held_cell hl2' 1
  simp only [List.getElem?_toArray, List.getElem?_cons_zero, List.getElem?_cons_succ] at x0 x1 y0 y1
  have L0___ : (on v).cell? ⟨w.heap.size, 0, none⟩ = some (.int .u8 1) := by simp [go_sem, L0__]
  have L1___ : (on v).cell? ⟨w.heap.size, 1, none⟩ = some (.int .i64 c) := by simp [go_sem, L1__]
  have O0___ : (on v).cell? ⟨w.heap.size + 1, 0, none⟩ = some (.int .u8 2) := by simp [go_sem, O0__]
  have O1___ : (on v).cell? ⟨w.heap.size + 1, 1, none⟩ = some (.int .i64 d) := by simp [go_sem, O1__]
  have a0__ : (on v).cell? ⟨Ba, 0, none⟩ = some (.int .u8 2) := by simp [go_sem, a0_]
  have a1__ : (on v).cell? ⟨Ba, 1, none⟩ = some (.int .i64 m) := by simp [go_sem, a1_]
  have p0_ : (on v).cell? ⟨Bb, 0, none⟩ = some (.int .i64 (0)) := by simp [go_sem, p0]
  have p1_ : (on v).cell? ⟨Bb, 1, none⟩ = some (.int .i64 (2 * d)) := by simp [go_sem, p1]
  have q0_ : (on v).cell? ⟨Bb + 1, 0, none⟩ = some (.int .i64 (-2)) := by simp [go_sem, q0]
  have q1_ : (on v).cell? ⟨Bb + 1, 1, none⟩ = some (.int .i64 (2 * d)) := by simp [go_sem, q1]
  have hB3 : Below w.heap.size w (on v) := below_on hB2 v
  go_wp2_with fail
  clear hb hb2 hk hk2 hne hne2 e0 e1 e2 e3 f0 f1 f2 f3 hl1 hl2' L0__ L1__ O0__ O1__ a0_ a1_ p0 p1 q0 q1 hB2 hv
  generalize on v = Wc at *
  clear v
  have zz0 : (2 * (2 * c) == 2 * (2 * c) + 2) = false := eqf (by omega)
  have zz1 : (2 * (2 * c) + 2 * d == 2 * (2 * c) + 2 + 2 * d) = false := eqf (by omega)
  have zz2 : (-(2 * (2 * c)) + 2 * d == -(2 * (2 * c) + 2) + 2 * d) = false := eqf (by omega)
  go_loopw [12] (fun iv wr => ∃ i s0 s1 : Int, iv = .int .u8 i ∧ ((i = 1 ∧ s0 = 0 ∧ 0 = s1) ∨ (i = 2 ∧ s0 = 0 ∧ 0 = s1) ∨ (i = 3 ∧ s0 = 2 ∧ m = s1) ∨ (i = 4 ∧ s0 = 2 ∧ m = s1) ∨ (i = 5 ∧ s0 = 2 ∧ m = s1)) ∧ ∃ u : Later Wc, wr = on u ∧ (on u).heap[Wc.heap.size]? = some (.cells #[.int .u8 s0, .int .i64 s1] 24)) (fun iv _ => (5 - intOf iv).toNat)
  case atStart => exact ⟨1, 0, 0, rfl, by omega, ⟨_, below_alloc (Below.refl _ _) _⟩, rfl, (MapKept.heap_alloc _ _).1⟩
  case round =>
    obtain ⟨i, s0, s1, rfl, hp, u0, rfl, hh⟩ := hrel
    have n0 : (on u0).cell? ⟨Wc.heap.size, 0, none⟩ = some (.int .u8 s0) := held_cell hh 0
    have n1 : (on u0).cell? ⟨Wc.heap.size, 1, none⟩ = some (.int .i64 s1) := held_cell hh 1
    have nf0 : (on u0).frozen? ⟨Wc.heap.size, 0, none⟩ = false := held_free hh 0
    have nf1 : (on u0).frozen? ⟨Wc.heap.size, 1, none⟩ = false := held_free hh 1
    obtain ⟨rfl, rfl, rfl⟩ | ⟨rfl, rfl, rfl⟩ | ⟨rfl, rfl, rfl⟩ | ⟨rfl, rfl, rfl⟩ | ⟨rfl, rfl, rfl⟩ := hp
    · go_wp2_with (first | (go_at_call 17; with_reducible refine (across_1 _).mono ?_; rintro e wx ⟨rfl, rfl⟩) | fail)
      refine ⟨?_, by simp [intOf]⟩
      repeat apply Exists.intro
      refine And.intro ?_ rfl
      exact ⟨1 + 1, 0, 0, rfl, by omega, u0, rfl, hh⟩
    · go_wp2_with (first | (go_at_call 17; with_reducible refine (across_2 _).mono ?_; rintro e wx ⟨rfl, rfl⟩) | fail)
      obtain ⟨u1, hu, hh1⟩ := stored2 (Nat.le_refl _) hh (.int .u8 2) (.int .i64 m)
      refine ⟨?_, by simp [intOf]⟩
      repeat apply Exists.intro
      refine And.intro ?_ rfl
      refine ⟨2 + 1, 2, m, rfl, by omega, u1, ?_, hh1⟩
      rw [← hu]
      congr 2
      have := HM.out
      first | omega | exact td2 (by omega)
    · go_wp2_with (first | (go_at_call 17; with_reducible refine (across_3 _).mono ?_; rintro e wx ⟨rfl, rfl⟩) | fail)
      refine ⟨?_, by simp [intOf]⟩
      repeat apply Exists.intro
      refine And.intro ?_ rfl
      exact ⟨3 + 1, 2, m, rfl, by omega, u0, rfl, hh⟩
    · go_wp2_with (first | (go_at_call 17; with_reducible refine (across_4 _).mono ?_; rintro e wx ⟨rfl, rfl⟩) | fail)
      refine ⟨?_, by simp [intOf]⟩
      repeat apply Exists.intro
      refine And.intro ?_ rfl
      exact ⟨4 + 1, 2, m, rfl, by omega, u0, rfl, hh⟩
    · have hB4 : Below w.heap.size w (on u0) := below_on hB3 u0
      go_wp2_with (first | (go_at_call 13; with_reducible refine (valid_yes 2 m _ (by omega) (by omega) hl hl2).mono ?_; rintro e wx ⟨rfl, hx⟩; obtain ⟨ux, rfl⟩ := after hx; clear hx) | (go_at_call 12; with_reducible refine (image_ok12 c m _ h3 h4 hl hl2 d (by have := HM.out; omega) b3 b4).mono ?_; rintro e wx ⟨rfl, hx⟩; obtain ⟨ux, rfl⟩ := after hx; clear hx) | (go_at_call 14; with_reducible refine (lives_ok _ (hT' _ (by have bw := hB4; repeat first | exact bw | (with_reducible refine below_on ?_ _) | (with_reducible refine below_alloc ?_ _)))).mono ?_; rintro e wx ⟨rfl, hx⟩; obtain ⟨ux, rfl⟩ := after hx; clear hx) | fail)
      go_ret
      exact ⟨rfl, by
        have bw := hB4
        repeat first | exact bw | (with_reducible refine below_on ?_ _) | (with_reducible refine below_alloc ?_ _)⟩

set_option maxRecDepth 100000 in
set_option maxHeartbeats 8000000 in
theorem limg_far12 (c d : Int) (w : World) (hT : Tab w) (h3 : -4096 ≤ c) (h4 : c ≤ 4096) (b3 : -4096 ≤ d) (b4 : d ≤ 4096) (m : Int) (hm : m = (0) * c + (1) * d) (hl : m < -4096 ∨ 4096 < m) : Calls Tryd.prog 3 #[ln 1 c, ln 2 d] w fun e w' => e = .returned (.bool true) ∧ Below w.heap.size w w' := by
  have hT' : ∀ W, Below w.heap.size w W → Tab W := fun W hb => tab_below hT hb
  have HL : Hid (m < -4096 ∨ 4096 < m) := hl
  clear hl
  have HM : Hid (m = (0) * c + (1) * d) := hm
  clear hm
  go_enter Tryd.func3, Tryd.ntmps3
  go_wp2_with (first | (go_at_call 12; with_reducible refine (image_far12 c d _ h3 h4 b3 b4 m HM.out HL.out).mono ?_; rintro e wx ⟨rfl, hx⟩; obtain ⟨ux, rfl⟩ := after hx; clear hx) | fail)
  have hB1a : Below w.heap.size w ((on ux).alloc (.cells #[.int .u8 0, .int .i64 0] 24)) := by
    have bw : Below w.heap.size w w := Below.refl _ _
    repeat first | (with_reducible exact bw) | (with_reducible refine below_on ?_ _) | (with_reducible refine below_alloc ?_ _)
  have L0_ : ((on ux).alloc (.cells #[.int .u8 0, .int .i64 0] 24)).cell? ⟨w.heap.size, 0, none⟩ = some (.int .u8 1) := by simp [go_sem]
  have L1_ : ((on ux).alloc (.cells #[.int .u8 0, .int .i64 0] 24)).cell? ⟨w.heap.size, 1, none⟩ = some (.int .i64 c) := by simp [go_sem]
  have O0_ : ((on ux).alloc (.cells #[.int .u8 0, .int .i64 0] 24)).cell? ⟨w.heap.size + 1, 0, none⟩ = some (.int .u8 2) := by simp [go_sem]
  have O1_ : ((on ux).alloc (.cells #[.int .u8 0, .int .i64 0] 24)).cell? ⟨w.heap.size + 1, 1, none⟩ = some (.int .i64 d) := by simp [go_sem]
  have a0 : ((on ux).alloc (.cells #[.int .u8 0, .int .i64 0] 24)).cell? ⟨(on ux).heap.size, 0, none⟩ = some (.int .u8 0) := by simp [go_sem]
  have a1 : ((on ux).alloc (.cells #[.int .u8 0, .int .i64 0] 24)).cell? ⟨(on ux).heap.size, 1, none⟩ = some (.int .i64 0) := by simp [go_sem]
  generalize (on ux).alloc (.cells #[.int .u8 0, .int .i64 0] 24) = Wa at *
  generalize (on ux).heap.size = Ba at *
  clear ux
  go_wp2_with (first | (go_at_call 13; with_reducible refine (valid_yes 1 c _ (by omega) (by omega) h3 h4).mono ?_; rintro e wx ⟨rfl, hx⟩; obtain ⟨ux, rfl⟩ := after hx; clear hx) | (go_at_call 13; with_reducible refine (valid_yes 2 d _ (by omega) (by omega) b3 b4).mono ?_; rintro e wx ⟨rfl, hx⟩; obtain ⟨ux, rfl⟩ := after hx; clear hx) | (go_at_call 15; with_reducible refine (on_2 d _ b3 b4).mono ?_; rintro e wx ⟨rfl, hx⟩; obtain ⟨ux, rfl⟩ := after hx; clear hx) | fail)
  have hB2 : Below w.heap.size w (((on ux).alloc (.cells #[.int .i64 (0), .int .i64 (2 * d)] 31)).alloc (.cells #[.int .i64 (-2), .int .i64 (2 * d)] 31)) := by
    have bw : Below w.heap.size w Wa := hB1a
    repeat first | (with_reducible exact bw) | (with_reducible refine below_on ?_ _) | (with_reducible refine below_alloc ?_ _)
  have L0__ : (((on ux).alloc (.cells #[.int .i64 (0), .int .i64 (2 * d)] 31)).alloc (.cells #[.int .i64 (-2), .int .i64 (2 * d)] 31)).cell? ⟨w.heap.size, 0, none⟩ = some (.int .u8 1) := by simp [go_sem, L0_]
  have L1__ : (((on ux).alloc (.cells #[.int .i64 (0), .int .i64 (2 * d)] 31)).alloc (.cells #[.int .i64 (-2), .int .i64 (2 * d)] 31)).cell? ⟨w.heap.size, 1, none⟩ = some (.int .i64 c) := by simp [go_sem, L1_]
  have O0__ : (((on ux).alloc (.cells #[.int .i64 (0), .int .i64 (2 * d)] 31)).alloc (.cells #[.int .i64 (-2), .int .i64 (2 * d)] 31)).cell? ⟨w.heap.size + 1, 0, none⟩ = some (.int .u8 2) := by simp [go_sem, O0_]
  have O1__ : (((on ux).alloc (.cells #[.int .i64 (0), .int .i64 (2 * d)] 31)).alloc (.cells #[.int .i64 (-2), .int .i64 (2 * d)] 31)).cell? ⟨w.heap.size + 1, 1, none⟩ = some (.int .i64 d) := by simp [go_sem, O1_]
  have a0_ : (((on ux).alloc (.cells #[.int .i64 (0), .int .i64 (2 * d)] 31)).alloc (.cells #[.int .i64 (-2), .int .i64 (2 * d)] 31)).cell? ⟨Ba, 0, none⟩ = some (.int .u8 0) := by simp [go_sem, a0]
  have a1_ : (((on ux).alloc (.cells #[.int .i64 (0), .int .i64 (2 * d)] 31)).alloc (.cells #[.int .i64 (-2), .int .i64 (2 * d)] 31)).cell? ⟨Ba, 1, none⟩ = some (.int .i64 0) := by simp [go_sem, a1]
  have p0 : (((on ux).alloc (.cells #[.int .i64 (0), .int .i64 (2 * d)] 31)).alloc (.cells #[.int .i64 (-2), .int .i64 (2 * d)] 31)).cell? ⟨(on ux).heap.size, 0, none⟩ = some (.int .i64 (0)) := by simp [go_sem]
  have p1 : (((on ux).alloc (.cells #[.int .i64 (0), .int .i64 (2 * d)] 31)).alloc (.cells #[.int .i64 (-2), .int .i64 (2 * d)] 31)).cell? ⟨(on ux).heap.size, 1, none⟩ = some (.int .i64 (2 * d)) := by simp [go_sem]
  have q0 : (((on ux).alloc (.cells #[.int .i64 (0), .int .i64 (2 * d)] 31)).alloc (.cells #[.int .i64 (-2), .int .i64 (2 * d)] 31)).cell? ⟨(on ux).heap.size + 1, 0, none⟩ = some (.int .i64 (-2)) := by simp [go_sem]
  have q1 : (((on ux).alloc (.cells #[.int .i64 (0), .int .i64 (2 * d)] 31)).alloc (.cells #[.int .i64 (-2), .int .i64 (2 * d)] 31)).cell? ⟨(on ux).heap.size + 1, 1, none⟩ = some (.int .i64 (2 * d)) := by simp [go_sem]
  clear L0_ L1_ O0_ O1_ a0 a1 hB1a
  generalize (((on ux).alloc (.cells #[.int .i64 (0), .int .i64 (2 * d)] 31)).alloc (.cells #[.int .i64 (-2), .int .i64 (2 * d)] 31)) = Wb at *
  generalize (on ux).heap.size = Bb at *
  clear ux
  refine region_free2 8 6 9 31 7 10 31 _ _ (by kernel_rfl) (by kernel_rfl) (by decide) (by kernel_rfl) alloc26 (by kernel_rfl) alloc26 ?_
  simp only [List.take_succ_cons, List.take_zero, List.drop_succ_cons, List.drop_zero]
  repeat (first
    | (refine wpLex_plain (by rfl) (by rfl) (by rfl) (fun K hK => ?_); go_big_quiet_op; refine hK _ ?_; clear hK K)
    | (refine wpLex_call (by rfl) (by rfl) (fun K hK => ?_); go_simp; apply Exists.intro; refine ⟨fun _ => ?_, hK _ ?_⟩; ((first | (go_at_call 16; with_reducible exact Calls.laterL (rreflect_1 c _ _ _ (by omega) (by omega) (by omega) (by omega) h3 h4)))); clear hK K)
    | (refine wpLex_new (by rfl) ?_; simp only [Act.put, List.setIfInBounds_toArray, List.set_cons_zero, List.set_cons_succ]))
  refine wpLex_nil ?_
  intro q q2 u hb hk hb2 hk2 hne
  simp only [Act.put, List.setIfInBounds_toArray, List.set_cons_zero, List.set_cons_succ]
  have hne2 : q2 ≠ q := Ne.symm hne
  have e0 : (on u).cell? ⟨q, 0, none⟩ = some (.int .i64 0) := held_cell hk 0
  have e1 : (on u).cell? ⟨q, 1, none⟩ = some (.int .i64 0) := held_cell hk 1
  have f0 : (on u).frozen? ⟨q, 0, none⟩ = false := held_free hk 0
  have f1 : (on u).frozen? ⟨q, 1, none⟩ = false := held_free hk 1
  have e2 : ∀ v v', (((on u).setCell ⟨q, 0, none⟩ v).setCell ⟨q, 1, none⟩ v').cell? ⟨q2, 0, none⟩ = some (.int .i64 0) := fun v v' => held_cell (held_set_other (held_set_other hk2 hne2 _ _) hne2 _ _) 0
  have e3 : ∀ v v', (((on u).setCell ⟨q, 0, none⟩ v).setCell ⟨q, 1, none⟩ v').cell? ⟨q2, 1, none⟩ = some (.int .i64 0) := fun v v' => held_cell (held_set_other (held_set_other hk2 hne2 _ _) hne2 _ _) 1
  have f2 : (on u).frozen? ⟨q2, 0, none⟩ = false := held_free hk2 0
  have f3 : (on u).frozen? ⟨q2, 1, none⟩ = false := held_free hk2 1
  obtain ⟨v, hv, hl1, hl2'⟩ := stored22 hb hk hb2 hk2 hne (.int .i64 (2 * (2 * c) - (0))) (.int .i64 ((2 * d))) (.int .i64 (2 * (2 * c) - (-2))) (.int .i64 ((2 * d)))
  try simp only [Int.sub_zero, Int.zero_sub, Int.zero_add, Int.sub_neg] at hv hl1 hl2'
  have x0 : (on v).cell? ⟨q, 0, none⟩ = _ := held_cell hl1 0
  have x1 : (on v).cell? ⟨q, 1, none⟩ = _ := held_cell hl1 1
  have y0 : (on v).cell? ⟨q2, 0, none⟩ = _ := held_cell hl2' 0
  have y1 : (on v).cell? ⟨q2, 1, none⟩ = _ := held_cell hl2' 1
  simp only [List.getElem?_toArray, List.getElem?_cons_zero, List.getElem?_cons_succ] at x0 x1 y0 y1
  have L0___ : (on v).cell? ⟨w.heap.size, 0, none⟩ = some (.int .u8 1) := by simp [go_sem, L0__]
  have L1___ : (on v).cell? ⟨w.heap.size, 1, none⟩ = some (.int .i64 c) := by simp [go_sem, L1__]
  have O0___ : (on v).cell? ⟨w.heap.size + 1, 0, none⟩ = some (.int .u8 2) := by simp [go_sem, O0__]
  have O1___ : (on v).cell? ⟨w.heap.size + 1, 1, none⟩ = some (.int .i64 d) := by simp [go_sem, O1__]
  have a0__ : (on v).cell? ⟨Ba, 0, none⟩ = some (.int .u8 0) := by simp [go_sem, a0_]
  have a1__ : (on v).cell? ⟨Ba, 1, none⟩ = some (.int .i64 0) := by simp [go_sem, a1_]
  have p0_ : (on v).cell? ⟨Bb, 0, none⟩ = some (.int .i64 (0)) := by simp [go_sem, p0]
  have p1_ : (on v).cell? ⟨Bb, 1, none⟩ = some (.int .i64 (2 * d)) := by simp [go_sem, p1]
  have q0_ : (on v).cell? ⟨Bb + 1, 0, none⟩ = some (.int .i64 (-2)) := by simp [go_sem, q0]
  have q1_ : (on v).cell? ⟨Bb + 1, 1, none⟩ = some (.int .i64 (2 * d)) := by simp [go_sem, q1]
  have hB3 : Below w.heap.size w (on v) := below_on hB2 v
  go_wp2_with fail
  clear hb hb2 hk hk2 hne hne2 e0 e1 e2 e3 f0 f1 f2 f3 hl1 hl2' L0__ L1__ O0__ O1__ a0_ a1_ p0 p1 q0 q1 hB2 hv
  generalize on v = Wc at *
  clear v
  have zz0 : (2 * (2 * c) == 2 * (2 * c) + 2) = false := eqf (by omega)
  have zz1 : (2 * (2 * c) + 2 * d == 2 * (2 * c) + 2 + 2 * d) = false := eqf (by omega)
  have zz2 : (-(2 * (2 * c)) + 2 * d == -(2 * (2 * c) + 2) + 2 * d) = false := eqf (by omega)
  go_loopw [12] (fun iv wr => ∃ i s0 s1 : Int, iv = .int .u8 i ∧ ((i = 1 ∧ s0 = 0 ∧ 0 = s1) ∨ (i = 2 ∧ s0 = 0 ∧ 0 = s1) ∨ (i = 3 ∧ s0 = 2 ∧ m = s1) ∨ (i = 4 ∧ s0 = 2 ∧ m = s1) ∨ (i = 5 ∧ s0 = 2 ∧ m = s1)) ∧ ∃ u : Later Wc, wr = on u ∧ (on u).heap[Wc.heap.size]? = some (.cells #[.int .u8 s0, .int .i64 s1] 24)) (fun iv _ => (5 - intOf iv).toNat)
  case atStart => exact ⟨1, 0, 0, rfl, by omega, ⟨_, below_alloc (Below.refl _ _) _⟩, rfl, (MapKept.heap_alloc _ _).1⟩
  case round =>
    obtain ⟨i, s0, s1, rfl, hp, u0, rfl, hh⟩ := hrel
    have n0 : (on u0).cell? ⟨Wc.heap.size, 0, none⟩ = some (.int .u8 s0) := held_cell hh 0
    have n1 : (on u0).cell? ⟨Wc.heap.size, 1, none⟩ = some (.int .i64 s1) := held_cell hh 1
    have nf0 : (on u0).frozen? ⟨Wc.heap.size, 0, none⟩ = false := held_free hh 0
    have nf1 : (on u0).frozen? ⟨Wc.heap.size, 1, none⟩ = false := held_free hh 1
    obtain ⟨rfl, rfl, rfl⟩ | ⟨rfl, rfl, rfl⟩ | ⟨rfl, rfl, rfl⟩ | ⟨rfl, rfl, rfl⟩ | ⟨rfl, rfl, rfl⟩ := hp
    · go_wp2_with (first | (go_at_call 17; with_reducible refine (across_1 _).mono ?_; rintro e wx ⟨rfl, rfl⟩) | fail)
      refine ⟨?_, by simp [intOf]⟩
      repeat apply Exists.intro
      refine And.intro ?_ rfl
      exact ⟨1 + 1, 0, 0, rfl, by omega, u0, rfl, hh⟩
    · go_wp2_with (first | (go_at_call 17; with_reducible refine (across_2 _).mono ?_; rintro e wx ⟨rfl, rfl⟩) | fail)
      obtain ⟨u1, hu, hh1⟩ := stored2 (Nat.le_refl _) hh (.int .u8 2) (.int .i64 m)
      refine ⟨?_, by simp [intOf]⟩
      repeat apply Exists.intro
      refine And.intro ?_ rfl
      refine ⟨2 + 1, 2, m, rfl, by omega, u1, ?_, hh1⟩
      rw [← hu]
      congr 2
      have := HM.out
      first | omega | exact td2 (by omega)
    · go_wp2_with (first | (go_at_call 17; with_reducible refine (across_3 _).mono ?_; rintro e wx ⟨rfl, rfl⟩) | fail)
      refine ⟨?_, by simp [intOf]⟩
      repeat apply Exists.intro
      refine And.intro ?_ rfl
      exact ⟨3 + 1, 2, m, rfl, by omega, u0, rfl, hh⟩
    · go_wp2_with (first | (go_at_call 17; with_reducible refine (across_4 _).mono ?_; rintro e wx ⟨rfl, rfl⟩) | fail)
      refine ⟨?_, by simp [intOf]⟩
      repeat apply Exists.intro
      refine And.intro ?_ rfl
      exact ⟨4 + 1, 2, m, rfl, by omega, u0, rfl, hh⟩
    · have hB4 : Below w.heap.size w (on u0) := below_on hB3 u0
      go_wp2_with (first | (go_at_call 13; with_reducible refine (valid_no 2 m _ (by have := HL.out; omega)).mono ?_; rintro e wx ⟨rfl, hx⟩; obtain ⟨ux, rfl⟩ := after hx; clear hx) | (go_at_call 14; with_reducible refine (lives_ok _ (hT' _ (by have bw := hB4; repeat first | exact bw | (with_reducible refine below_on ?_ _) | (with_reducible refine below_alloc ?_ _)))).mono ?_; rintro e wx ⟨rfl, hx⟩; obtain ⟨ux, rfl⟩ := after hx; clear hx) | fail)
      go_ret
      exact ⟨rfl, by
        have bw := hB4
        repeat first | exact bw | (with_reducible refine below_on ?_ _) | (with_reducible refine below_alloc ?_ _)⟩

set_option maxRecDepth 100000 in
set_option maxHeartbeats 8000000 in
theorem limg_ok13 (c d : Int) (w : World) (hT : Tab w) (h3 : -4096 ≤ c) (h4 : c ≤ 4096) (b3 : -4096 ≤ d) (b4 : d ≤ 4096) (m : Int) (hm : m = (-2) * c + (1) * d) (hl : -4096 ≤ m) (hl2 : m ≤ 4096) : Calls Tryd.prog 3 #[ln 1 c, ln 3 d] w fun e w' => e = .returned (.bool true) ∧ Below w.heap.size w w' := by
  have hT' : ∀ W, Below w.heap.size w W → Tab W := fun W hb => tab_below hT hb
  have HM : Hid (m = (-2) * c + (1) * d) := hm
  clear hm
  go_enter Tryd.func3, Tryd.ntmps3
  go_wp2_with (first | (go_at_call 12; with_reducible refine (image_ok13 c d _ h3 h4 b3 b4 m HM.out hl hl2).mono ?_; rintro e wx ⟨rfl, hx⟩; obtain ⟨ux, rfl⟩ := after hx; clear hx) | fail)
  have hB1a : Below w.heap.size w ((on ux).alloc (.cells #[.int .u8 4, .int .i64 m] 24)) := by
    have bw : Below w.heap.size w w := Below.refl _ _
    repeat first | (with_reducible exact bw) | (with_reducible refine below_on ?_ _) | (with_reducible refine below_alloc ?_ _)
  have L0_ : ((on ux).alloc (.cells #[.int .u8 4, .int .i64 m] 24)).cell? ⟨w.heap.size, 0, none⟩ = some (.int .u8 1) := by simp [go_sem]
  have L1_ : ((on ux).alloc (.cells #[.int .u8 4, .int .i64 m] 24)).cell? ⟨w.heap.size, 1, none⟩ = some (.int .i64 c) := by simp [go_sem]
  have O0_ : ((on ux).alloc (.cells #[.int .u8 4, .int .i64 m] 24)).cell? ⟨w.heap.size + 1, 0, none⟩ = some (.int .u8 3) := by simp [go_sem]
  have O1_ : ((on ux).alloc (.cells #[.int .u8 4, .int .i64 m] 24)).cell? ⟨w.heap.size + 1, 1, none⟩ = some (.int .i64 d) := by simp [go_sem]
  have a0 : ((on ux).alloc (.cells #[.int .u8 4, .int .i64 m] 24)).cell? ⟨(on ux).heap.size, 0, none⟩ = some (.int .u8 4) := by simp [go_sem]
  have a1 : ((on ux).alloc (.cells #[.int .u8 4, .int .i64 m] 24)).cell? ⟨(on ux).heap.size, 1, none⟩ = some (.int .i64 m) := by simp [go_sem]
  generalize (on ux).alloc (.cells #[.int .u8 4, .int .i64 m] 24) = Wa at *
  generalize (on ux).heap.size = Ba at *
  clear ux
  go_wp2_with (first | (go_at_call 13; with_reducible refine (valid_yes 1 c _ (by omega) (by omega) h3 h4).mono ?_; rintro e wx ⟨rfl, hx⟩; obtain ⟨ux, rfl⟩ := after hx; clear hx) | (go_at_call 13; with_reducible refine (valid_yes 3 d _ (by omega) (by omega) b3 b4).mono ?_; rintro e wx ⟨rfl, hx⟩; obtain ⟨ux, rfl⟩ := after hx; clear hx) | (go_at_call 15; with_reducible refine (on_3 d _ b3 b4).mono ?_; rintro e wx ⟨rfl, hx⟩; obtain ⟨ux, rfl⟩ := after hx; clear hx) | fail)
  have hB2 : Below w.heap.size w (((on ux).alloc (.cells #[.int .i64 (d), .int .i64 (d)] 31)).alloc (.cells #[.int .i64 (d - 2), .int .i64 (d + 2)] 31)) := by
    have bw : Below w.heap.size w Wa := hB1a
    repeat first | (with_reducible exact bw) | (with_reducible refine below_on ?_ _) | (with_reducible refine below_alloc ?_ _)
  have L0__ : (((on ux).alloc (.cells #[.int .i64 (d), .int .i64 (d)] 31)).alloc (.cells #[.int .i64 (d - 2), .int .i64 (d + 2)] 31)).cell? ⟨w.heap.size, 0, none⟩ = some (.int .u8 1) := by simp [go_sem, L0_]
  have L1__ : (((on ux).alloc (.cells #[.int .i64 (d), .int .i64 (d)] 31)).alloc (.cells #[.int .i64 (d - 2), .int .i64 (d + 2)] 31)).cell? ⟨w.heap.size, 1, none⟩ = some (.int .i64 c) := by simp [go_sem, L1_]
  have O0__ : (((on ux).alloc (.cells #[.int .i64 (d), .int .i64 (d)] 31)).alloc (.cells #[.int .i64 (d - 2), .int .i64 (d + 2)] 31)).cell? ⟨w.heap.size + 1, 0, none⟩ = some (.int .u8 3) := by simp [go_sem, O0_]
  have O1__ : (((on ux).alloc (.cells #[.int .i64 (d), .int .i64 (d)] 31)).alloc (.cells #[.int .i64 (d - 2), .int .i64 (d + 2)] 31)).cell? ⟨w.heap.size + 1, 1, none⟩ = some (.int .i64 d) := by simp [go_sem, O1_]
  have a0_ : (((on ux).alloc (.cells #[.int .i64 (d), .int .i64 (d)] 31)).alloc (.cells #[.int .i64 (d - 2), .int .i64 (d + 2)] 31)).cell? ⟨Ba, 0, none⟩ = some (.int .u8 4) := by simp [go_sem, a0]
  have a1_ : (((on ux).alloc (.cells #[.int .i64 (d), .int .i64 (d)] 31)).alloc (.cells #[.int .i64 (d - 2), .int .i64 (d + 2)] 31)).cell? ⟨Ba, 1, none⟩ = some (.int .i64 m) := by simp [go_sem, a1]
  have p0 : (((on ux).alloc (.cells #[.int .i64 (d), .int .i64 (d)] 31)).alloc (.cells #[.int .i64 (d - 2), .int .i64 (d + 2)] 31)).cell? ⟨(on ux).heap.size, 0, none⟩ = some (.int .i64 (d)) := by simp [go_sem]
  have p1 : (((on ux).alloc (.cells #[.int .i64 (d), .int .i64 (d)] 31)).alloc (.cells #[.int .i64 (d - 2), .int .i64 (d + 2)] 31)).cell? ⟨(on ux).heap.size, 1, none⟩ = some (.int .i64 (d)) := by simp [go_sem]
  have q0 : (((on ux).alloc (.cells #[.int .i64 (d), .int .i64 (d)] 31)).alloc (.cells #[.int .i64 (d - 2), .int .i64 (d + 2)] 31)).cell? ⟨(on ux).heap.size + 1, 0, none⟩ = some (.int .i64 (d - 2)) := by simp [go_sem]
  have q1 : (((on ux).alloc (.cells #[.int .i64 (d), .int .i64 (d)] 31)).alloc (.cells #[.int .i64 (d - 2), .int .i64 (d + 2)] 31)).cell? ⟨(on ux).heap.size + 1, 1, none⟩ = some (.int .i64 (d + 2)) := by simp [go_sem]
  clear L0_ L1_ O0_ O1_ a0 a1 hB1a
  generalize (((on ux).alloc (.cells #[.int .i64 (d), .int .i64 (d)] 31)).alloc (.cells #[.int .i64 (d - 2), .int .i64 (d + 2)] 31)) = Wb at *
  generalize (on ux).heap.size = Bb at *
  clear ux
  refine region_free2 8 6 9 31 7 10 31 _ _ (by kernel_rfl) (by kernel_rfl) (by decide) (by kernel_rfl) alloc26 (by kernel_rfl) alloc26 ?_
  simp only [List.take_succ_cons, List.take_zero, List.drop_succ_cons, List.drop_zero]
  repeat (first
    | (refine wpLex_plain (by rfl) (by rfl) (by rfl) (fun K hK => ?_); go_big_quiet_op; refine hK _ ?_; clear hK K)
    | (refine wpLex_call (by rfl) (by rfl) (fun K hK => ?_); go_simp; apply Exists.intro; refine ⟨fun _ => ?_, hK _ ?_⟩; ((first | (go_at_call 16; with_reducible exact Calls.laterL (rreflect_1 c _ _ _ (by omega) (by omega) (by omega) (by omega) h3 h4)))); clear hK K)
    | (refine wpLex_new (by rfl) ?_; simp only [Act.put, List.setIfInBounds_toArray, List.set_cons_zero, List.set_cons_succ]))
  refine wpLex_nil ?_
  intro q q2 u hb hk hb2 hk2 hne
  simp only [Act.put, List.setIfInBounds_toArray, List.set_cons_zero, List.set_cons_succ]
  have hne2 : q2 ≠ q := Ne.symm hne
  have e0 : (on u).cell? ⟨q, 0, none⟩ = some (.int .i64 0) := held_cell hk 0
  have e1 : (on u).cell? ⟨q, 1, none⟩ = some (.int .i64 0) := held_cell hk 1
  have f0 : (on u).frozen? ⟨q, 0, none⟩ = false := held_free hk 0
  have f1 : (on u).frozen? ⟨q, 1, none⟩ = false := held_free hk 1
  have e2 : ∀ v v', (((on u).setCell ⟨q, 0, none⟩ v).setCell ⟨q, 1, none⟩ v').cell? ⟨q2, 0, none⟩ = some (.int .i64 0) := fun v v' => held_cell (held_set_other (held_set_other hk2 hne2 _ _) hne2 _ _) 0
  have e3 : ∀ v v', (((on u).setCell ⟨q, 0, none⟩ v).setCell ⟨q, 1, none⟩ v').cell? ⟨q2, 1, none⟩ = some (.int .i64 0) := fun v v' => held_cell (held_set_other (held_set_other hk2 hne2 _ _) hne2 _ _) 1
  have f2 : (on u).frozen? ⟨q2, 0, none⟩ = false := held_free hk2 0
  have f3 : (on u).frozen? ⟨q2, 1, none⟩ = false := held_free hk2 1
  obtain ⟨v, hv, hl1, hl2'⟩ := stored22 hb hk hb2 hk2 hne (.int .i64 (2 * (2 * c) - (d))) (.int .i64 ((d))) (.int .i64 (2 * (2 * c) - (d - 2))) (.int .i64 ((d + 2)))
  try simp only [Int.sub_zero, Int.zero_sub, Int.zero_add, Int.sub_neg] at hv hl1 hl2'
  have x0 : (on v).cell? ⟨q, 0, none⟩ = _ := held_cell hl1 0
  have x1 : (on v).cell? ⟨q, 1, none⟩ = _ := held_cell hl1 1
  have y0 : (on v).cell? ⟨q2, 0, none⟩ = _ := held_cell hl2' 0
  have y1 : (on v).cell? ⟨q2, 1, none⟩ = _ := held_cell hl2' 1
  simp only [List.getElem?_toArray, List.getElem?_cons_zero, List.getElem?_cons_succ] at x0 x1 y0 y1
  have L0___ : (on v).cell? ⟨w.heap.size, 0, none⟩ = some (.int .u8 1) := by simp [go_sem, L0__]
  have L1___ : (on v).cell? ⟨w.heap.size, 1, none⟩ = some (.int .i64 c) := by simp [go_sem, L1__]
  have O0___ : (on v).cell? ⟨w.heap.size + 1, 0, none⟩ = some (.int .u8 3) := by simp [go_sem, O0__]
  have O1___ : (on v).cell? ⟨w.heap.size + 1, 1, none⟩ = some (.int .i64 d) := by simp [go_sem, O1__]
  have a0__ : (on v).cell? ⟨Ba, 0, none⟩ = some (.int .u8 4) := by simp [go_sem, a0_]
  have a1__ : (on v).cell? ⟨Ba, 1, none⟩ = some (.int .i64 m) := by simp [go_sem, a1_]
  have p0_ : (on v).cell? ⟨Bb, 0, none⟩ = some (.int .i64 (d)) := by simp [go_sem, p0]
  have p1_ : (on v).cell? ⟨Bb, 1, none⟩ = some (.int .i64 (d)) := by simp [go_sem, p1]
  have q0_ : (on v).cell? ⟨Bb + 1, 0, none⟩ = some (.int .i64 (d - 2)) := by simp [go_sem, q0]
  have q1_ : (on v).cell? ⟨Bb + 1, 1, none⟩ = some (.int .i64 (d + 2)) := by simp [go_sem, q1]
  have hB3 : Below w.heap.size w (on v) := below_on hB2 v
  go_wp2_with fail
  clear hb hb2 hk hk2 hne hne2 e0 e1 e2 e3 f0 f1 f2 f3 hl1 hl2' L0__ L1__ O0__ O1__ a0_ a1_ p0 p1 q0 q1 hB2 hv
  generalize on v = Wc at *
  clear v
  go_loopw [12] (fun iv wr => ∃ i s0 s1 : Int, iv = .int .u8 i ∧ ((i = 1 ∧ s0 = 0 ∧ 0 = s1) ∨ (i = 2 ∧ s0 = 0 ∧ 0 = s1) ∨ (i = 3 ∧ s0 = 0 ∧ 0 = s1) ∨ (i = 4 ∧ s0 = 0 ∧ 0 = s1) ∨ (i = 5 ∧ s0 = 4 ∧ m = s1)) ∧ ∃ u : Later Wc, wr = on u ∧ (on u).heap[Wc.heap.size]? = some (.cells #[.int .u8 s0, .int .i64 s1] 24)) (fun iv _ => (5 - intOf iv).toNat)
  case atStart => exact ⟨1, 0, 0, rfl, by omega, ⟨_, below_alloc (Below.refl _ _) _⟩, rfl, (MapKept.heap_alloc _ _).1⟩
  case round =>
    obtain ⟨i, s0, s1, rfl, hp, u0, rfl, hh⟩ := hrel
    have n0 : (on u0).cell? ⟨Wc.heap.size, 0, none⟩ = some (.int .u8 s0) := held_cell hh 0
    have n1 : (on u0).cell? ⟨Wc.heap.size, 1, none⟩ = some (.int .i64 s1) := held_cell hh 1
    have nf0 : (on u0).frozen? ⟨Wc.heap.size, 0, none⟩ = false := held_free hh 0
    have nf1 : (on u0).frozen? ⟨Wc.heap.size, 1, none⟩ = false := held_free hh 1
    obtain ⟨rfl, rfl, rfl⟩ | ⟨rfl, rfl, rfl⟩ | ⟨rfl, rfl, rfl⟩ | ⟨rfl, rfl, rfl⟩ | ⟨rfl, rfl, rfl⟩ := hp
    · go_wp2_with (first | (go_at_call 17; with_reducible refine (across_1 _).mono ?_; rintro e wx ⟨rfl, rfl⟩) | fail)
      all_goals first
        | exact ⟨⟨1 + 1, 0, 0, rfl, by omega, u0, rfl, hh⟩, by simp [intOf]⟩
        | (go_roundw
           case rel => exact ⟨1 + 1, 0, 0, rfl, by omega, u0, rfl, hh⟩
           case measure => simp [intOf])
        | (exfalso; rename_i hq; simp at hq; omega)
        | (exfalso; rename_i hq; simp at hq)
    · go_wp2_with (first | (go_at_call 17; with_reducible refine (across_2 _).mono ?_; rintro e wx ⟨rfl, rfl⟩) | fail)
      all_goals first
        | exact ⟨⟨2 + 1, 0, 0, rfl, by omega, u0, rfl, hh⟩, by simp [intOf]⟩
        | (go_roundw
           case rel => exact ⟨2 + 1, 0, 0, rfl, by omega, u0, rfl, hh⟩
           case measure => simp [intOf])
        | (exfalso; rename_i hq; simp at hq; omega)
        | (exfalso; rename_i hq; simp at hq)
    · go_wp2_with (first | (go_at_call 17; with_reducible refine (across_3 _).mono ?_; rintro e wx ⟨rfl, rfl⟩) | fail)
      all_goals first
        | exact ⟨⟨3 + 1, 0, 0, rfl, by omega, u0, rfl, hh⟩, by simp [intOf]⟩
        | (go_roundw
           case rel => exact ⟨3 + 1, 0, 0, rfl, by omega, u0, rfl, hh⟩
           case measure => simp [intOf])
        | (exfalso; rename_i hq; simp at hq; omega)
        | (exfalso; rename_i hq; simp at hq)
    · go_wp2_with (first | (go_at_call 17; with_reducible refine (across_4 _).mono ?_; rintro e wx ⟨rfl, rfl⟩) | fail)
      all_goals first
        | (obtain ⟨u1, hu, hh1⟩ := stored2 (Nat.le_refl _) hh (.int .u8 4) (.int .i64 m)
           refine ⟨⟨4 + 1, 4, m, rfl, by omega, u1, ?_, hh1⟩, by simp [intOf]⟩
           rw [← hu]
           congr 2
           have := HM.out
           first | omega | exact td2 (by omega))
        | (exfalso; rename_i hq; simp at hq; omega)
        | (exfalso; rename_i hq; simp at hq)
    · have hB4 : Below w.heap.size w (on u0) := below_on hB3 u0
      go_wp2_with (first | (go_at_call 13; with_reducible refine (valid_yes 4 m _ (by omega) (by omega) hl hl2).mono ?_; rintro e wx ⟨rfl, hx⟩; obtain ⟨ux, rfl⟩ := after hx; clear hx) | (go_at_call 12; with_reducible refine (image_ok14 c m _ h3 h4 hl hl2 d (by have := HM.out; omega) b3 b4).mono ?_; rintro e wx ⟨rfl, hx⟩; obtain ⟨ux, rfl⟩ := after hx; clear hx) | (go_at_call 14; with_reducible refine (lives_ok _ (hT' _ (by have bw := hB4; repeat first | exact bw | (with_reducible refine below_on ?_ _) | (with_reducible refine below_alloc ?_ _)))).mono ?_; rintro e wx ⟨rfl, hx⟩; obtain ⟨ux, rfl⟩ := after hx; clear hx) | fail)
      go_ret
      exact ⟨rfl, by
        have bw := hB4
        repeat first | exact bw | (with_reducible refine below_on ?_ _) | (with_reducible refine below_alloc ?_ _)⟩

set_option maxRecDepth 100000 in
set_option maxHeartbeats 8000000 in
theorem limg_far13 (c d : Int) (w : World) (hT : Tab w) (h3 : -4096 ≤ c) (h4 : c ≤ 4096) (b3 : -4096 ≤ d) (b4 : d ≤ 4096) (m : Int) (hm : m = (-2) * c + (1) * d) (hl : m < -4096 ∨ 4096 < m) : Calls Tryd.prog 3 #[ln 1 c, ln 3 d] w fun e w' => e = .returned (.bool true) ∧ Below w.heap.size w w' := by
  have hT' : ∀ W, Below w.heap.size w W → Tab W := fun W hb => tab_below hT hb
  have HL : Hid (m < -4096 ∨ 4096 < m) := hl
  clear hl
  have HM : Hid (m = (-2) * c + (1) * d) := hm
  clear hm
  go_enter Tryd.func3, Tryd.ntmps3
  go_wp2_with (first | (go_at_call 12; with_reducible refine (image_far13 c d _ h3 h4 b3 b4 m HM.out HL.out).mono ?_; rintro e wx ⟨rfl, hx⟩; obtain ⟨ux, rfl⟩ := after hx; clear hx) | fail)
  have hB1a : Below w.heap.size w ((on ux).alloc (.cells #[.int .u8 0, .int .i64 0] 24)) := by
    have bw : Below w.heap.size w w := Below.refl _ _
    repeat first | (with_reducible exact bw) | (with_reducible refine below_on ?_ _) | (with_reducible refine below_alloc ?_ _)
  have L0_ : ((on ux).alloc (.cells #[.int .u8 0, .int .i64 0] 24)).cell? ⟨w.heap.size, 0, none⟩ = some (.int .u8 1) := by simp [go_sem]
  have L1_ : ((on ux).alloc (.cells #[.int .u8 0, .int .i64 0] 24)).cell? ⟨w.heap.size, 1, none⟩ = some (.int .i64 c) := by simp [go_sem]
  have O0_ : ((on ux).alloc (.cells #[.int .u8 0, .int .i64 0] 24)).cell? ⟨w.heap.size + 1, 0, none⟩ = some (.int .u8 3) := by simp [go_sem]
  have O1_ : ((on ux).alloc (.cells #[.int .u8 0, .int .i64 0] 24)).cell? ⟨w.heap.size + 1, 1, none⟩ = some (.int .i64 d) := by simp [go_sem]
  have a0 : ((on ux).alloc (.cells #[.int .u8 0, .int .i64 0] 24)).cell? ⟨(on ux).heap.size, 0, none⟩ = some (.int .u8 0) := by simp [go_sem]
  have a1 : ((on ux).alloc (.cells #[.int .u8 0, .int .i64 0] 24)).cell? ⟨(on ux).heap.size, 1, none⟩ = some (.int .i64 0) := by simp [go_sem]
  generalize (on ux).alloc (.cells #[.int .u8 0, .int .i64 0] 24) = Wa at *
  generalize (on ux).heap.size = Ba at *
  clear ux
  go_wp2_with (first | (go_at_call 13; with_reducible refine (valid_yes 1 c _ (by omega) (by omega) h3 h4).mono ?_; rintro e wx ⟨rfl, hx⟩; obtain ⟨ux, rfl⟩ := after hx; clear hx) | (go_at_call 13; with_reducible refine (valid_yes 3 d _ (by omega) (by omega) b3 b4).mono ?_; rintro e wx ⟨rfl, hx⟩; obtain ⟨ux, rfl⟩ := after hx; clear hx) | (go_at_call 15; with_reducible refine (on_3 d _ b3 b4).mono ?_; rintro e wx ⟨rfl, hx⟩; obtain ⟨ux, rfl⟩ := after hx; clear hx) | fail)
  have hB2 : Below w.heap.size w (((on ux).alloc (.cells #[.int .i64 (d), .int .i64 (d)] 31)).alloc (.cells #[.int .i64 (d - 2), .int .i64 (d + 2)] 31)) := by
    have bw : Below w.heap.size w Wa := hB1a
    repeat first | (with_reducible exact bw) | (with_reducible refine below_on ?_ _) | (with_reducible refine below_alloc ?_ _)
  have L0__ : (((on ux).alloc (.cells #[.int .i64 (d), .int .i64 (d)] 31)).alloc (.cells #[.int .i64 (d - 2), .int .i64 (d + 2)] 31)).cell? ⟨w.heap.size, 0, none⟩ = some (.int .u8 1) := by simp [go_sem, L0_]
  have L1__ : (((on ux).alloc (.cells #[.int .i64 (d), .int .i64 (d)] 31)).alloc (.cells #[.int .i64 (d - 2), .int .i64 (d + 2)] 31)).cell? ⟨w.heap.size, 1, none⟩ = some (.int .i64 c) := by simp [go_sem, L1_]
  have O0__ : (((on ux).alloc (.cells #[.int .i64 (d), .int .i64 (d)] 31)).alloc (.cells #[.int .i64 (d - 2), .int .i64 (d + 2)] 31)).cell? ⟨w.heap.size + 1, 0, none⟩ = some (.int .u8 3) := by simp [go_sem, O0_]
  have O1__ : (((on ux).alloc (.cells #[.int .i64 (d), .int .i64 (d)] 31)).alloc (.cells #[.int .i64 (d - 2), .int .i64 (d + 2)] 31)).cell? ⟨w.heap.size + 1, 1, none⟩ = some (.int .i64 d) := by simp [go_sem, O1_]
  have a0_ : (((on ux).alloc (.cells #[.int .i64 (d), .int .i64 (d)] 31)).alloc (.cells #[.int .i64 (d - 2), .int .i64 (d + 2)] 31)).cell? ⟨Ba, 0, none⟩ = some (.int .u8 0) := by simp [go_sem, a0]
  have a1_ : (((on ux).alloc (.cells #[.int .i64 (d), .int .i64 (d)] 31)).alloc (.cells #[.int .i64 (d - 2), .int .i64 (d + 2)] 31)).cell? ⟨Ba, 1, none⟩ = some (.int .i64 0) := by simp [go_sem, a1]
  have p0 : (((on ux).alloc (.cells #[.int .i64 (d), .int .i64 (d)] 31)).alloc (.cells #[.int .i64 (d - 2), .int .i64 (d + 2)] 31)).cell? ⟨(on ux).heap.size, 0, none⟩ = some (.int .i64 (d)) := by simp [go_sem]
  have p1 : (((on ux).alloc (.cells #[.int .i64 (d), .int .i64 (d)] 31)).alloc (.cells #[.int .i64 (d - 2), .int .i64 (d + 2)] 31)).cell? ⟨(on ux).heap.size, 1, none⟩ = some (.int .i64 (d)) := by simp [go_sem]
  have q0 : (((on ux).alloc (.cells #[.int .i64 (d), .int .i64 (d)] 31)).alloc (.cells #[.int .i64 (d - 2), .int .i64 (d + 2)] 31)).cell? ⟨(on ux).heap.size + 1, 0, none⟩ = some (.int .i64 (d - 2)) := by simp [go_sem]
  have q1 : (((on ux).alloc (.cells #[.int .i64 (d), .int .i64 (d)] 31)).alloc (.cells #[.int .i64 (d - 2), .int .i64 (d + 2)] 31)).cell? ⟨(on ux).heap.size + 1, 1, none⟩ = some (.int .i64 (d + 2)) := by simp [go_sem]
  clear L0_ L1_ O0_ O1_ a0 a1 hB1a
  generalize (((on ux).alloc (.cells #[.int .i64 (d), .int .i64 (d)] 31)).alloc (.cells #[.int .i64 (d - 2), .int .i64 (d + 2)] 31)) = Wb at *
  generalize (on ux).heap.size = Bb at *
  clear ux
  refine region_free2 8 6 9 31 7 10 31 _ _ (by kernel_rfl) (by kernel_rfl) (by decide) (by kernel_rfl) alloc26 (by kernel_rfl) alloc26 ?_
  simp only [List.take_succ_cons, List.take_zero, List.drop_succ_cons, List.drop_zero]
  repeat (first
    | (refine wpLex_plain (by rfl) (by rfl) (by rfl) (fun K hK => ?_); go_big_quiet_op; refine hK _ ?_; clear hK K)
    | (refine wpLex_call (by rfl) (by rfl) (fun K hK => ?_); go_simp; apply Exists.intro; refine ⟨fun _ => ?_, hK _ ?_⟩; ((first | (go_at_call 16; with_reducible exact Calls.laterL (rreflect_1 c _ _ _ (by omega) (by omega) (by omega) (by omega) h3 h4)))); clear hK K)
    | (refine wpLex_new (by rfl) ?_; simp only [Act.put, List.setIfInBounds_toArray, List.set_cons_zero, List.set_cons_succ]))
  refine wpLex_nil ?_
  intro q q2 u hb hk hb2 hk2 hne
  simp only [Act.put, List.setIfInBounds_toArray, List.set_cons_zero, List.set_cons_succ]
  have hne2 : q2 ≠ q := Ne.symm hne
  have e0 : (on u).cell? ⟨q, 0, none⟩ = some (.int .i64 0) := held_cell hk 0
  have e1 : (on u).cell? ⟨q, 1, none⟩ = some (.int .i64 0) := held_cell hk 1
  have f0 : (on u).frozen? ⟨q, 0, none⟩ = false := held_free hk 0
  have f1 : (on u).frozen? ⟨q, 1, none⟩ = false := held_free hk 1
  have e2 : ∀ v v', (((on u).setCell ⟨q, 0, none⟩ v).setCell ⟨q, 1, none⟩ v').cell? ⟨q2, 0, none⟩ = some (.int .i64 0) := fun v v' => held_cell (held_set_other (held_set_other hk2 hne2 _ _) hne2 _ _) 0
  have e3 : ∀ v v', (((on u).setCell ⟨q, 0, none⟩ v).setCell ⟨q, 1, none⟩ v').cell? ⟨q2, 1, none⟩ = some (.int .i64 0) := fun v v' => held_cell (held_set_other (held_set_other hk2 hne2 _ _) hne2 _ _) 1
  have f2 : (on u).frozen? ⟨q2, 0, none⟩ = false := held_free hk2 0
  have f3 : (on u).frozen? ⟨q2, 1, none⟩ = false := held_free hk2 1
  obtain ⟨v, hv, hl1, hl2'⟩ := stored22 hb hk hb2 hk2 hne (.int .i64 (2 * (2 * c) - (d))) (.int .i64 ((d))) (.int .i64 (2 * (2 * c) - (d - 2))) (.int .i64 ((d + 2)))
  try simp only [Int.sub_zero, Int.zero_sub, Int.zero_add, Int.sub_neg] at hv hl1 hl2'
  have x0 : (on v).cell? ⟨q, 0, none⟩ = _ := held_cell hl1 0
  have x1 : (on v).cell? ⟨q, 1, none⟩ = _ := held_cell hl1 1
  have y0 : (on v).cell? ⟨q2, 0, none⟩ = _ := held_cell hl2' 0
  have y1 : (on v).cell? ⟨q2, 1, none⟩ = _ := held_cell hl2' 1
  simp only [List.getElem?_toArray, List.getElem?_cons_zero, List.getElem?_cons_succ] at x0 x1 y0 y1
  have L0___ : (on v).cell? ⟨w.heap.size, 0, none⟩ = some (.int .u8 1) := by simp [go_sem, L0__]
  have L1___ : (on v).cell? ⟨w.heap.size, 1, none⟩ = some (.int .i64 c) := by simp [go_sem, L1__]
  have O0___ : (on v).cell? ⟨w.heap.size + 1, 0, none⟩ = some (.int .u8 3) := by simp [go_sem, O0__]
  have O1___ : (on v).cell? ⟨w.heap.size + 1, 1, none⟩ = some (.int .i64 d) := by simp [go_sem, O1__]
  have a0__ : (on v).cell? ⟨Ba, 0, none⟩ = some (.int .u8 0) := by simp [go_sem, a0_]
  have a1__ : (on v).cell? ⟨Ba, 1, none⟩ = some (.int .i64 0) := by simp [go_sem, a1_]
  have p0_ : (on v).cell? ⟨Bb, 0, none⟩ = some (.int .i64 (d)) := by simp [go_sem, p0]
  have p1_ : (on v).cell? ⟨Bb, 1, none⟩ = some (.int .i64 (d)) := by simp [go_sem, p1]
  have q0_ : (on v).cell? ⟨Bb + 1, 0, none⟩ = some (.int .i64 (d - 2)) := by simp [go_sem, q0]
  have q1_ : (on v).cell? ⟨Bb + 1, 1, none⟩ = some (.int .i64 (d + 2)) := by simp [go_sem, q1]
  have hB3 : Below w.heap.size w (on v) := below_on hB2 v
  go_wp2_with fail
  clear hb hb2 hk hk2 hne hne2 e0 e1 e2 e3 f0 f1 f2 f3 hl1 hl2' L0__ L1__ O0__ O1__ a0_ a1_ p0 p1 q0 q1 hB2 hv
  generalize on v = Wc at *
  clear v
  go_loopw [12] (fun iv wr => ∃ i s0 s1 : Int, iv = .int .u8 i ∧ ((i = 1 ∧ s0 = 0 ∧ 0 = s1) ∨ (i = 2 ∧ s0 = 0 ∧ 0 = s1) ∨ (i = 3 ∧ s0 = 0 ∧ 0 = s1) ∨ (i = 4 ∧ s0 = 0 ∧ 0 = s1) ∨ (i = 5 ∧ s0 = 4 ∧ m = s1)) ∧ ∃ u : Later Wc, wr = on u ∧ (on u).heap[Wc.heap.size]? = some (.cells #[.int .u8 s0, .int .i64 s1] 24)) (fun iv _ => (5 - intOf iv).toNat)
  case atStart => exact ⟨1, 0, 0, rfl, by omega, ⟨_, below_alloc (Below.refl _ _) _⟩, rfl, (MapKept.heap_alloc _ _).1⟩
  case round =>
    obtain ⟨i, s0, s1, rfl, hp, u0, rfl, hh⟩ := hrel
    have n0 : (on u0).cell? ⟨Wc.heap.size, 0, none⟩ = some (.int .u8 s0) := held_cell hh 0
    have n1 : (on u0).cell? ⟨Wc.heap.size, 1, none⟩ = some (.int .i64 s1) := held_cell hh 1
    have nf0 : (on u0).frozen? ⟨Wc.heap.size, 0, none⟩ = false := held_free hh 0
    have nf1 : (on u0).frozen? ⟨Wc.heap.size, 1, none⟩ = false := held_free hh 1
    obtain ⟨rfl, rfl, rfl⟩ | ⟨rfl, rfl, rfl⟩ | ⟨rfl, rfl, rfl⟩ | ⟨rfl, rfl, rfl⟩ | ⟨rfl, rfl, rfl⟩ := hp
    · go_wp2_with (first | (go_at_call 17; with_reducible refine (across_1 _).mono ?_; rintro e wx ⟨rfl, rfl⟩) | fail)
      all_goals first
        | exact ⟨⟨1 + 1, 0, 0, rfl, by omega, u0, rfl, hh⟩, by simp [intOf]⟩
        | (go_roundw
           case rel => exact ⟨1 + 1, 0, 0, rfl, by omega, u0, rfl, hh⟩
           case measure => simp [intOf])
        | (exfalso; rename_i hq; simp at hq; omega)
        | (exfalso; rename_i hq; simp at hq)
    · go_wp2_with (first | (go_at_call 17; with_reducible refine (across_2 _).mono ?_; rintro e wx ⟨rfl, rfl⟩) | fail)
      all_goals first
        | exact ⟨⟨2 + 1, 0, 0, rfl, by omega, u0, rfl, hh⟩, by simp [intOf]⟩
        | (go_roundw
           case rel => exact ⟨2 + 1, 0, 0, rfl, by omega, u0, rfl, hh⟩
           case measure => simp [intOf])
        | (exfalso; rename_i hq; simp at hq; omega)
        | (exfalso; rename_i hq; simp at hq)
    · go_wp2_with (first | (go_at_call 17; with_reducible refine (across_3 _).mono ?_; rintro e wx ⟨rfl, rfl⟩) | fail)
      all_goals first
        | exact ⟨⟨3 + 1, 0, 0, rfl, by omega, u0, rfl, hh⟩, by simp [intOf]⟩
        | (go_roundw
           case rel => exact ⟨3 + 1, 0, 0, rfl, by omega, u0, rfl, hh⟩
           case measure => simp [intOf])
        | (exfalso; rename_i hq; simp at hq; omega)
        | (exfalso; rename_i hq; simp at hq)
    · go_wp2_with (first | (go_at_call 17; with_reducible refine (across_4 _).mono ?_; rintro e wx ⟨rfl, rfl⟩) | fail)
      all_goals first
        | (obtain ⟨u1, hu, hh1⟩ := stored2 (Nat.le_refl _) hh (.int .u8 4) (.int .i64 m)
           refine ⟨⟨4 + 1, 4, m, rfl, by omega, u1, ?_, hh1⟩, by simp [intOf]⟩
           rw [← hu]
           congr 2
           have := HM.out
           first | omega | exact td2 (by omega))
        | (exfalso; rename_i hq; simp at hq; omega)
        | (exfalso; rename_i hq; simp at hq)
    · have hB4 : Below w.heap.size w (on u0) := below_on hB3 u0
      go_wp2_with (first | (go_at_call 13; with_reducible refine (valid_no 4 m _ (by have := HL.out; omega)).mono ?_; rintro e wx ⟨rfl, hx⟩; obtain ⟨ux, rfl⟩ := after hx; clear hx) | (go_at_call 14; with_reducible refine (lives_ok _ (hT' _ (by have bw := hB4; repeat first | exact bw | (with_reducible refine below_on ?_ _) | (with_reducible refine below_alloc ?_ _)))).mono ?_; rintro e wx ⟨rfl, hx⟩; obtain ⟨ux, rfl⟩ := after hx; clear hx) | fail)
      go_ret
      exact ⟨rfl, by
        have bw := hB4
        repeat first | exact bw | (with_reducible refine below_on ?_ _) | (with_reducible refine below_alloc ?_ _)⟩

set_option maxRecDepth 100000 in
set_option maxHeartbeats 8000000 in
theorem limg_ok14 (c d : Int) (w : World) (hT : Tab w) (h3 : -4096 ≤ c) (h4 : c ≤ 4096) (b3 : -4096 ≤ d) (b4 : d ≤ 4096) (m : Int) (hm : m = (2) * c + (1) * d) (hl : -4096 ≤ m) (hl2 : m ≤ 4096) : Calls Tryd.prog 3 #[ln 1 c, ln 4 d] w fun e w' => e = .returned (.bool true) ∧ Below w.heap.size w w' := by
  have hT' : ∀ W, Below w.heap.size w W → Tab W := fun W hb => tab_below hT hb
  have HM : Hid (m = (2) * c + (1) * d) := hm
  clear hm
  go_enter Tryd.func3, Tryd.ntmps3
  go_wp2_with (first | (go_at_call 12; with_reducible refine (image_ok14 c d _ h3 h4 b3 b4 m HM.out hl hl2).mono ?_; rintro e wx ⟨rfl, hx⟩; obtain ⟨ux, rfl⟩ := after hx; clear hx) | fail)
  have hB1a : Below w.heap.size w ((on ux).alloc (.cells #[.int .u8 3, .int .i64 m] 24)) := by
    have bw : Below w.heap.size w w := Below.refl _ _
    repeat first | (with_reducible exact bw) | (with_reducible refine below_on ?_ _) | (with_reducible refine below_alloc ?_ _)
  have L0_ : ((on ux).alloc (.cells #[.int .u8 3, .int .i64 m] 24)).cell? ⟨w.heap.size, 0, none⟩ = some (.int .u8 1) := by simp [go_sem]
  have L1_ : ((on ux).alloc (.cells #[.int .u8 3, .int .i64 m] 24)).cell? ⟨w.heap.size, 1, none⟩ = some (.int .i64 c) := by simp [go_sem]
  have O0_ : ((on ux).alloc (.cells #[.int .u8 3, .int .i64 m] 24)).cell? ⟨w.heap.size + 1, 0, none⟩ = some (.int .u8 4) := by simp [go_sem]
  have O1_ : ((on ux).alloc (.cells #[.int .u8 3, .int .i64 m] 24)).cell? ⟨w.heap.size + 1, 1, none⟩ = some (.int .i64 d) := by simp [go_sem]
  have a0 : ((on ux).alloc (.cells #[.int .u8 3, .int .i64 m] 24)).cell? ⟨(on ux).heap.size, 0, none⟩ = some (.int .u8 3) := by simp [go_sem]
  have a1 : ((on ux).alloc (.cells #[.int .u8 3, .int .i64 m] 24)).cell? ⟨(on ux).heap.size, 1, none⟩ = some (.int .i64 m) := by simp [go_sem]
  generalize (on ux).alloc (.cells #[.int .u8 3, .int .i64 m] 24) = Wa at *
  generalize (on ux).heap.size = Ba at *
  clear ux
  go_wp2_with (first | (go_at_call 13; with_reducible refine (valid_yes 1 c _ (by omega) (by omega) h3 h4).mono ?_; rintro e wx ⟨rfl, hx⟩; obtain ⟨ux, rfl⟩ := after hx; clear hx) | (go_at_call 13; with_reducible refine (valid_yes 4 d _ (by omega) (by omega) b3 b4).mono ?_; rintro e wx ⟨rfl, hx⟩; obtain ⟨ux, rfl⟩ := after hx; clear hx) | (go_at_call 15; with_reducible refine (on_4 d _ b3 b4).mono ?_; rintro e wx ⟨rfl, hx⟩; obtain ⟨ux, rfl⟩ := after hx; clear hx) | fail)
  have hB2 : Below w.heap.size w (((on ux).alloc (.cells #[.int .i64 (-d), .int .i64 (d)] 31)).alloc (.cells #[.int .i64 (-d - 2), .int .i64 (d - 2)] 31)) := by
    have bw : Below w.heap.size w Wa := hB1a
    repeat first | (with_reducible exact bw) | (with_reducible refine below_on ?_ _) | (with_reducible refine below_alloc ?_ _)
  have L0__ : (((on ux).alloc (.cells #[.int .i64 (-d), .int .i64 (d)] 31)).alloc (.cells #[.int .i64 (-d - 2), .int .i64 (d - 2)] 31)).cell? ⟨w.heap.size, 0, none⟩ = some (.int .u8 1) := by simp [go_sem, L0_]
  have L1__ : (((on ux).alloc (.cells #[.int .i64 (-d), .int .i64 (d)] 31)).alloc (.cells #[.int .i64 (-d - 2), .int .i64 (d - 2)] 31)).cell? ⟨w.heap.size, 1, none⟩ = some (.int .i64 c) := by simp [go_sem, L1_]
  have O0__ : (((on ux).alloc (.cells #[.int .i64 (-d), .int .i64 (d)] 31)).alloc (.cells #[.int .i64 (-d - 2), .int .i64 (d - 2)] 31)).cell? ⟨w.heap.size + 1, 0, none⟩ = some (.int .u8 4) := by simp [go_sem, O0_]
  have O1__ : (((on ux).alloc (.cells #[.int .i64 (-d), .int .i64 (d)] 31)).alloc (.cells #[.int .i64 (-d - 2), .int .i64 (d - 2)] 31)).cell? ⟨w.heap.size + 1, 1, none⟩ = some (.int .i64 d) := by simp [go_sem, O1_]
  have a0_ : (((on ux).alloc (.cells #[.int .i64 (-d), .int .i64 (d)] 31)).alloc (.cells #[.int .i64 (-d - 2), .int .i64 (d - 2)] 31)).cell? ⟨Ba, 0, none⟩ = some (.int .u8 3) := by simp [go_sem, a0]
  have a1_ : (((on ux).alloc (.cells #[.int .i64 (-d), .int .i64 (d)] 31)).alloc (.cells #[.int .i64 (-d - 2), .int .i64 (d - 2)] 31)).cell? ⟨Ba, 1, none⟩ = some (.int .i64 m) := by simp [go_sem, a1]
  have p0 : (((on ux).alloc (.cells #[.int .i64 (-d), .int .i64 (d)] 31)).alloc (.cells #[.int .i64 (-d - 2), .int .i64 (d - 2)] 31)).cell? ⟨(on ux).heap.size, 0, none⟩ = some (.int .i64 (-d)) := by simp [go_sem]
  have p1 : (((on ux).alloc (.cells #[.int .i64 (-d), .int .i64 (d)] 31)).alloc (.cells #[.int .i64 (-d - 2), .int .i64 (d - 2)] 31)).cell? ⟨(on ux).heap.size, 1, none⟩ = some (.int .i64 (d)) := by simp [go_sem]
  have q0 : (((on ux).alloc (.cells #[.int .i64 (-d), .int .i64 (d)] 31)).alloc (.cells #[.int .i64 (-d - 2), .int .i64 (d - 2)] 31)).cell? ⟨(on ux).heap.size + 1, 0, none⟩ = some (.int .i64 (-d - 2)) := by simp [go_sem]
  have q1 : (((on ux).alloc (.cells #[.int .i64 (-d), .int .i64 (d)] 31)).alloc (.cells #[.int .i64 (-d - 2), .int .i64 (d - 2)] 31)).cell? ⟨(on ux).heap.size + 1, 1, none⟩ = some (.int .i64 (d - 2)) := by simp [go_sem]
  clear L0_ L1_ O0_ O1_ a0 a1 hB1a
  generalize (((on ux).alloc (.cells #[.int .i64 (-d), .int .i64 (d)] 31)).alloc (.cells #[.int .i64 (-d - 2), .int .i64 (d - 2)] 31)) = Wb at *
  generalize (on ux).heap.size = Bb at *
  clear ux
  refine region_free2 8 6 9 31 7 10 31 _ _ (by kernel_rfl) (by kernel_rfl) (by decide) (by kernel_rfl) alloc26 (by kernel_rfl) alloc26 ?_
  simp only [List.take_succ_cons, List.take_zero, List.drop_succ_cons, List.drop_zero]
  repeat (first
    | (refine wpLex_plain (by rfl) (by rfl) (by rfl) (fun K hK => ?_); go_big_quiet_op; refine hK _ ?_; clear hK K)
    | (refine wpLex_call (by rfl) (by rfl) (fun K hK => ?_); go_simp; apply Exists.intro; refine ⟨fun _ => ?_, hK _ ?_⟩; ((first | (go_at_call 16; with_reducible exact Calls.laterL (rreflect_1 c _ _ _ (by omega) (by omega) (by omega) (by omega) h3 h4)))); clear hK K)
    | (refine wpLex_new (by rfl) ?_; simp only [Act.put, List.setIfInBounds_toArray, List.set_cons_zero, List.set_cons_succ]))
  refine wpLex_nil ?_
  intro q q2 u hb hk hb2 hk2 hne
  simp only [Act.put, List.setIfInBounds_toArray, List.set_cons_zero, List.set_cons_succ]
  have hne2 : q2 ≠ q := Ne.symm hne
  have e0 : (on u).cell? ⟨q, 0, none⟩ = some (.int .i64 0) := held_cell hk 0
  have e1 : (on u).cell? ⟨q, 1, none⟩ = some (.int .i64 0) := held_cell hk 1
  have f0 : (on u).frozen? ⟨q, 0, none⟩ = false := held_free hk 0
  have f1 : (on u).frozen? ⟨q, 1, none⟩ = false := held_free hk 1
  have e2 : ∀ v v', (((on u).setCell ⟨q, 0, none⟩ v).setCell ⟨q, 1, none⟩ v').cell? ⟨q2, 0, none⟩ = some (.int .i64 0) := fun v v' => held_cell (held_set_other (held_set_other hk2 hne2 _ _) hne2 _ _) 0
  have e3 : ∀ v v', (((on u).setCell ⟨q, 0, none⟩ v).setCell ⟨q, 1, none⟩ v').cell? ⟨q2, 1, none⟩ = some (.int .i64 0) := fun v v' => held_cell (held_set_other (held_set_other hk2 hne2 _ _) hne2 _ _) 1
  have f2 : (on u).frozen? ⟨q2, 0, none⟩ = false := held_free hk2 0
  have f3 : (on u).frozen? ⟨q2, 1, none⟩ = false := held_free hk2 1
  obtain ⟨v, hv, hl1, hl2'⟩ := stored22 hb hk hb2 hk2 hne (.int .i64 (2 * (2 * c) - (-d))) (.int .i64 ((d))) (.int .i64 (2 * (2 * c) - (-d - 2))) (.int .i64 ((d - 2)))
  try simp only [Int.sub_zero, Int.zero_sub, Int.zero_add, Int.sub_neg] at hv hl1 hl2'
  have x0 : (on v).cell? ⟨q, 0, none⟩ = _ := held_cell hl1 0
  have x1 : (on v).cell? ⟨q, 1, none⟩ = _ := held_cell hl1 1
  have y0 : (on v).cell? ⟨q2, 0, none⟩ = _ := held_cell hl2' 0
  have y1 : (on v).cell? ⟨q2, 1, none⟩ = _ := held_cell hl2' 1
  simp only [List.getElem?_toArray, List.getElem?_cons_zero, List.getElem?_cons_succ] at x0 x1 y0 y1
  have L0___ : (on v).cell? ⟨w.heap.size, 0, none⟩ = some (.int .u8 1) := by simp [go_sem, L0__]
  have L1___ : (on v).cell? ⟨w.heap.size, 1, none⟩ = some (.int .i64 c) := by simp [go_sem, L1__]
  have O0___ : (on v).cell? ⟨w.heap.size + 1, 0, none⟩ = some (.int .u8 4) := by simp [go_sem, O0__]
  have O1___ : (on v).cell? ⟨w.heap.size + 1, 1, none⟩ = some (.int .i64 d) := by simp [go_sem, O1__]
  have a0__ : (on v).cell? ⟨Ba, 0, none⟩ = some (.int .u8 3) := by simp [go_sem, a0_]
  have a1__ : (on v).cell? ⟨Ba, 1, none⟩ = some (.int .i64 m) := by simp [go_sem, a1_]
  have p0_ : (on v).cell? ⟨Bb, 0, none⟩ = some (.int .i64 (-d)) := by simp [go_sem, p0]
  have p1_ : (on v).cell? ⟨Bb, 1, none⟩ = some (.int .i64 (d)) := by simp [go_sem, p1]
  have q0_ : (on v).cell? ⟨Bb + 1, 0, none⟩ = some (.int .i64 (-d - 2)) := by simp [go_sem, q0]
  have q1_ : (on v).cell? ⟨Bb + 1, 1, none⟩ = some (.int .i64 (d - 2)) := by simp [go_sem, q1]
  have hB3 : Below w.heap.size w (on v) := below_on hB2 v
  go_wp2_with fail
  clear hb hb2 hk hk2 hne hne2 e0 e1 e2 e3 f0 f1 f2 f3 hl1 hl2' L0__ L1__ O0__ O1__ a0_ a1_ p0 p1 q0 q1 hB2 hv
  generalize on v = Wc at *
  clear v
  go_loopw [12] (fun iv wr => ∃ i s0 s1 : Int, iv = .int .u8 i ∧ ((i = 1 ∧ s0 = 0 ∧ 0 = s1) ∨ (i = 2 ∧ s0 = 0 ∧ 0 = s1) ∨ (i = 3 ∧ s0 = 0 ∧ 0 = s1) ∨ (i = 4 ∧ s0 = 3 ∧ m = s1) ∨ (i = 5 ∧ s0 = 3 ∧ m = s1)) ∧ ∃ u : Later Wc, wr = on u ∧ (on u).heap[Wc.heap.size]? = some (.cells #[.int .u8 s0, .int .i64 s1] 24)) (fun iv _ => (5 - intOf iv).toNat)
  case atStart => exact ⟨1, 0, 0, rfl, by omega, ⟨_, below_alloc (Below.refl _ _) _⟩, rfl, (MapKept.heap_alloc _ _).1⟩
  case round =>
    obtain ⟨i, s0, s1, rfl, hp, u0, rfl, hh⟩ := hrel
    have n0 : (on u0).cell? ⟨Wc.heap.size, 0, none⟩ = some (.int .u8 s0) := held_cell hh 0
    have n1 : (on u0).cell? ⟨Wc.heap.size, 1, none⟩ = some (.int .i64 s1) := held_cell hh 1
    have nf0 : (on u0).frozen? ⟨Wc.heap.size, 0, none⟩ = false := held_free hh 0
    have nf1 : (on u0).frozen? ⟨Wc.heap.size, 1, none⟩ = false := held_free hh 1
    obtain ⟨rfl, rfl, rfl⟩ | ⟨rfl, rfl, rfl⟩ | ⟨rfl, rfl, rfl⟩ | ⟨rfl, rfl, rfl⟩ | ⟨rfl, rfl, rfl⟩ := hp
    · go_wp2_with (first | (go_at_call 17; with_reducible refine (across_1 _).mono ?_; rintro e wx ⟨rfl, rfl⟩) | fail)
      all_goals first
        | exact ⟨⟨1 + 1, 0, 0, rfl, by omega, u0, rfl, hh⟩, by simp [intOf]⟩
        | (go_roundw
           case rel => exact ⟨1 + 1, 0, 0, rfl, by omega, u0, rfl, hh⟩
           case measure => simp [intOf])
        | (exfalso; rename_i hq; simp at hq; omega)
        | (exfalso; rename_i hq; simp at hq)
    · go_wp2_with (first | (go_at_call 17; with_reducible refine (across_2 _).mono ?_; rintro e wx ⟨rfl, rfl⟩) | fail)
      all_goals first
        | exact ⟨⟨2 + 1, 0, 0, rfl, by omega, u0, rfl, hh⟩, by simp [intOf]⟩
        | (go_roundw
           case rel => exact ⟨2 + 1, 0, 0, rfl, by omega, u0, rfl, hh⟩
           case measure => simp [intOf])
        | (exfalso; rename_i hq; simp at hq; omega)
        | (exfalso; rename_i hq; simp at hq)
    · go_wp2_with (first | (go_at_call 17; with_reducible refine (across_3 _).mono ?_; rintro e wx ⟨rfl, rfl⟩) | fail)
      all_goals first
        | (obtain ⟨u1, hu, hh1⟩ := stored2 (Nat.le_refl _) hh (.int .u8 3) (.int .i64 m)
           refine ⟨⟨3 + 1, 3, m, rfl, by omega, u1, ?_, hh1⟩, by simp [intOf]⟩
           rw [← hu]
           congr 2
           have := HM.out
           first | omega | exact td2 (by omega))
        | (exfalso; rename_i hq; simp at hq; omega)
        | (exfalso; rename_i hq; simp at hq)
    · go_wp2_with (first | (go_at_call 17; with_reducible refine (across_4 _).mono ?_; rintro e wx ⟨rfl, rfl⟩) | fail)
      all_goals first
        | exact ⟨⟨4 + 1, 3, m, rfl, by omega, u0, rfl, hh⟩, by simp [intOf]⟩
        | (go_roundw
           case rel => exact ⟨4 + 1, 3, m, rfl, by omega, u0, rfl, hh⟩
           case measure => simp [intOf])
        | (exfalso; rename_i hq; simp at hq; omega)
        | (exfalso; rename_i hq; simp at hq)
    · have hB4 : Below w.heap.size w (on u0) := below_on hB3 u0
      go_wp2_with (first | (go_at_call 13; with_reducible refine (valid_yes 3 m _ (by omega) (by omega) hl hl2).mono ?_; rintro e wx ⟨rfl, hx⟩; obtain ⟨ux, rfl⟩ := after hx; clear hx) | (go_at_call 12; with_reducible refine (image_ok13 c m _ h3 h4 hl hl2 d (by have := HM.out; omega) b3 b4).mono ?_; rintro e wx ⟨rfl, hx⟩; obtain ⟨ux, rfl⟩ := after hx; clear hx) | (go_at_call 14; with_reducible refine (lives_ok _ (hT' _ (by have bw := hB4; repeat first | exact bw | (with_reducible refine below_on ?_ _) | (with_reducible refine below_alloc ?_ _)))).mono ?_; rintro e wx ⟨rfl, hx⟩; obtain ⟨ux, rfl⟩ := after hx; clear hx) | fail)
      go_ret
      exact ⟨rfl, by
        have bw := hB4
        repeat first | exact bw | (with_reducible refine below_on ?_ _) | (with_reducible refine below_alloc ?_ _)⟩

set_option maxRecDepth 100000 in
set_option maxHeartbeats 8000000 in
theorem limg_far14 (c d : Int) (w : World) (hT : Tab w) (h3 : -4096 ≤ c) (h4 : c ≤ 4096) (b3 : -4096 ≤ d) (b4 : d ≤ 4096) (m : Int) (hm : m = (2) * c + (1) * d) (hl : m < -4096 ∨ 4096 < m) : Calls Tryd.prog 3 #[ln 1 c, ln 4 d] w fun e w' => e = .returned (.bool true) ∧ Below w.heap.size w w' := by
  have hT' : ∀ W, Below w.heap.size w W → Tab W := fun W hb => tab_below hT hb
  have HL : Hid (m < -4096 ∨ 4096 < m) := hl
  clear hl
  have HM : Hid (m = (2) * c + (1) * d) := hm
  clear hm
  go_enter Tryd.func3, Tryd.ntmps3
  go_wp2_with (first | (go_at_call 12; with_reducible refine (image_far14 c d _ h3 h4 b3 b4 m HM.out HL.out).mono ?_; rintro e wx ⟨rfl, hx⟩; obtain ⟨ux, rfl⟩ := after hx; clear hx) | fail)
  have hB1a : Below w.heap.size w ((on ux).alloc (.cells #[.int .u8 0, .int .i64 0] 24)) := by
    have bw : Below w.heap.size w w := Below.refl _ _
    repeat first | (with_reducible exact bw) | (with_reducible refine below_on ?_ _) | (with_reducible refine below_alloc ?_ _)
  have L0_ : ((on ux).alloc (.cells #[.int .u8 0, .int .i64 0] 24)).cell? ⟨w.heap.size, 0, none⟩ = some (.int .u8 1) := by simp [go_sem]
  have L1_ : ((on ux).alloc (.cells #[.int .u8 0, .int .i64 0] 24)).cell? ⟨w.heap.size, 1, none⟩ = some (.int .i64 c) := by simp [go_sem]
  have O0_ : ((on ux).alloc (.cells #[.int .u8 0, .int .i64 0] 24)).cell? ⟨w.heap.size + 1, 0, none⟩ = some (.int .u8 4) := by simp [go_sem]
  have O1_ : ((on ux).alloc (.cells #[.int .u8 0, .int .i64 0] 24)).cell? ⟨w.heap.size + 1, 1, none⟩ = some (.int .i64 d) := by simp [go_sem]
  have a0 : ((on ux).alloc (.cells #[.int .u8 0, .int .i64 0] 24)).cell? ⟨(on ux).heap.size, 0, none⟩ = some (.int .u8 0) := by simp [go_sem]
  have a1 : ((on ux).alloc (.cells #[.int .u8 0, .int .i64 0] 24)).cell? ⟨(on ux).heap.size, 1, none⟩ = some (.int .i64 0) := by simp [go_sem]
  generalize (on ux).alloc (.cells #[.int .u8 0, .int .i64 0] 24) = Wa at *
  generalize (on ux).heap.size = Ba at *
  clear ux
  go_wp2_with (first | (go_at_call 13; with_reducible refine (valid_yes 1 c _ (by omega) (by omega) h3 h4).mono ?_; rintro e wx ⟨rfl, hx⟩; obtain ⟨ux, rfl⟩ := after hx; clear hx) | (go_at_call 13; with_reducible refine (valid_yes 4 d _ (by omega) (by omega) b3 b4).mono ?_; rintro e wx ⟨rfl, hx⟩; obtain ⟨ux, rfl⟩ := after hx; clear hx) | (go_at_call 15; with_reducible refine (on_4 d _ b3 b4).mono ?_; rintro e wx ⟨rfl, hx⟩; obtain ⟨ux, rfl⟩ := after hx; clear hx) | fail)
  have hB2 : Below w.heap.size w (((on ux).alloc (.cells #[.int .i64 (-d), .int .i64 (d)] 31)).alloc (.cells #[.int .i64 (-d - 2), .int .i64 (d - 2)] 31)) := by
    have bw : Below w.heap.size w Wa := hB1a
    repeat first | (with_reducible exact bw) | (with_reducible refine below_on ?_ _) | (with_reducible refine below_alloc ?_ _)
  have L0__ : (((on ux).alloc (.cells #[.int .i64 (-d), .int .i64 (d)] 31)).alloc (.cells #[.int .i64 (-d - 2), .int .i64 (d - 2)] 31)).cell? ⟨w.heap.size, 0, none⟩ = some (.int .u8 1) := by simp [go_sem, L0_]
  have L1__ : (((on ux).alloc (.cells #[.int .i64 (-d), .int .i64 (d)] 31)).alloc (.cells #[.int .i64 (-d - 2), .int .i64 (d - 2)] 31)).cell? ⟨w.heap.size, 1, none⟩ = some (.int .i64 c) := by simp [go_sem, L1_]
  have O0__ : (((on ux).alloc (.cells #[.int .i64 (-d), .int .i64 (d)] 31)).alloc (.cells #[.int .i64 (-d - 2), .int .i64 (d - 2)] 31)).cell? ⟨w.heap.size + 1, 0, none⟩ = some (.int .u8 4) := by simp [go_sem, O0_]
  have O1__ : (((on ux).alloc (.cells #[.int .i64 (-d), .int .i64 (d)] 31)).alloc (.cells #[.int .i64 (-d - 2), .int .i64 (d - 2)] 31)).cell? ⟨w.heap.size + 1, 1, none⟩ = some (.int .i64 d) := by simp [go_sem, O1_]
  have a0_ : (((on ux).alloc (.cells #[.int .i64 (-d), .int .i64 (d)] 31)).alloc (.cells #[.int .i64 (-d - 2), .int .i64 (d - 2)] 31)).cell? ⟨Ba, 0, none⟩ = some (.int .u8 0) := by simp [go_sem, a0]
  have a1_ : (((on ux).alloc (.cells #[.int .i64 (-d), .int .i64 (d)] 31)).alloc (.cells #[.int .i64 (-d - 2), .int .i64 (d - 2)] 31)).cell? ⟨Ba, 1, none⟩ = some (.int .i64 0) := by simp [go_sem, a1]
  have p0 : (((on ux).alloc (.cells #[.int .i64 (-d), .int .i64 (d)] 31)).alloc (.cells #[.int .i64 (-d - 2), .int .i64 (d - 2)] 31)).cell? ⟨(on ux).heap.size, 0, none⟩ = some (.int .i64 (-d)) := by simp [go_sem]
  have p1 : (((on ux).alloc (.cells #[.int .i64 (-d), .int .i64 (d)] 31)).alloc (.cells #[.int .i64 (-d - 2), .int .i64 (d - 2)] 31)).cell? ⟨(on ux).heap.size, 1, none⟩ = some (.int .i64 (d)) := by simp [go_sem]
  have q0 : (((on ux).alloc (.cells #[.int .i64 (-d), .int .i64 (d)] 31)).alloc (.cells #[.int .i64 (-d - 2), .int .i64 (d - 2)] 31)).cell? ⟨(on ux).heap.size + 1, 0, none⟩ = some (.int .i64 (-d - 2)) := by simp [go_sem]
  have q1 : (((on ux).alloc (.cells #[.int .i64 (-d), .int .i64 (d)] 31)).alloc (.cells #[.int .i64 (-d - 2), .int .i64 (d - 2)] 31)).cell? ⟨(on ux).heap.size + 1, 1, none⟩ = some (.int .i64 (d - 2)) := by simp [go_sem]
  clear L0_ L1_ O0_ O1_ a0 a1 hB1a
  generalize (((on ux).alloc (.cells #[.int .i64 (-d), .int .i64 (d)] 31)).alloc (.cells #[.int .i64 (-d - 2), .int .i64 (d - 2)] 31)) = Wb at *
  generalize (on ux).heap.size = Bb at *
  clear ux
  refine region_free2 8 6 9 31 7 10 31 _ _ (by kernel_rfl) (by kernel_rfl) (by decide) (by kernel_rfl) alloc26 (by kernel_rfl) alloc26 ?_
  simp only [List.take_succ_cons, List.take_zero, List.drop_succ_cons, List.drop_zero]
  repeat (first
    | (refine wpLex_plain (by rfl) (by rfl) (by rfl) (fun K hK => ?_); go_big_quiet_op; refine hK _ ?_; clear hK K)
    | (refine wpLex_call (by rfl) (by rfl) (fun K hK => ?_); go_simp; apply Exists.intro; refine ⟨fun _ => ?_, hK _ ?_⟩; ((first | (go_at_call 16; with_reducible exact Calls.laterL (rreflect_1 c _ _ _ (by omega) (by omega) (by omega) (by omega) h3 h4)))); clear hK K)
    | (refine wpLex_new (by rfl) ?_; simp only [Act.put, List.setIfInBounds_toArray, List.set_cons_zero, List.set_cons_succ]))
  refine wpLex_nil ?_
  intro q q2 u hb hk hb2 hk2 hne
  simp only [Act.put, List.setIfInBounds_toArray, List.set_cons_zero, List.set_cons_succ]
  have hne2 : q2 ≠ q := Ne.symm hne
  have e0 : (on u).cell? ⟨q, 0, none⟩ = some (.int .i64 0) := held_cell hk 0
  have e1 : (on u).cell? ⟨q, 1, none⟩ = some (.int .i64 0) := held_cell hk 1
  have f0 : (on u).frozen? ⟨q, 0, none⟩ = false := held_free hk 0
  have f1 : (on u).frozen? ⟨q, 1, none⟩ = false := held_free hk 1
  have e2 : ∀ v v', (((on u).setCell ⟨q, 0, none⟩ v).setCell ⟨q, 1, none⟩ v').cell? ⟨q2, 0, none⟩ = some (.int .i64 0) := fun v v' => held_cell (held_set_other (held_set_other hk2 hne2 _ _) hne2 _ _) 0
  have e3 : ∀ v v', (((on u).setCell ⟨q, 0, none⟩ v).setCell ⟨q, 1, none⟩ v').cell? ⟨q2, 1, none⟩ = some (.int .i64 0) := fun v v' => held_cell (held_set_other (held_set_other hk2 hne2 _ _) hne2 _ _) 1
  have f2 : (on u).frozen? ⟨q2, 0, none⟩ = false := held_free hk2 0
  have f3 : (on u).frozen? ⟨q2, 1, none⟩ = false := held_free hk2 1
  obtain ⟨v, hv, hl1, hl2'⟩ := stored22 hb hk hb2 hk2 hne (.int .i64 (2 * (2 * c) - (-d))) (.int .i64 ((d))) (.int .i64 (2 * (2 * c) - (-d - 2))) (.int .i64 ((d - 2)))
  try simp only [Int.sub_zero, Int.zero_sub, Int.zero_add, Int.sub_neg] at hv hl1 hl2'
  have x0 : (on v).cell? ⟨q, 0, none⟩ = _ := held_cell hl1 0
  have x1 : (on v).cell? ⟨q, 1, none⟩ = _ := held_cell hl1 1
  have y0 : (on v).cell? ⟨q2, 0, none⟩ = _ := held_cell hl2' 0
  have y1 : (on v).cell? ⟨q2, 1, none⟩ = _ := held_cell hl2' 1
  simp only [List.getElem?_toArray, List.getElem?_cons_zero, List.getElem?_cons_succ] at x0 x1 y0 y1
  have L0___ : (on v).cell? ⟨w.heap.size, 0, none⟩ = some (.int .u8 1) := by simp [go_sem, L0__]
  have L1___ : (on v).cell? ⟨w.heap.size, 1, none⟩ = some (.int .i64 c) := by simp [go_sem, L1__]
  have O0___ : (on v).cell? ⟨w.heap.size + 1, 0, none⟩ = some (.int .u8 4) := by simp [go_sem, O0__]
  have O1___ : (on v).cell? ⟨w.heap.size + 1, 1, none⟩ = some (.int .i64 d) := by simp [go_sem, O1__]
  have a0__ : (on v).cell? ⟨Ba, 0, none⟩ = some (.int .u8 0) := by simp [go_sem, a0_]
  have a1__ : (on v).cell? ⟨Ba, 1, none⟩ = some (.int .i64 0) := by simp [go_sem, a1_]
  have p0_ : (on v).cell? ⟨Bb, 0, none⟩ = some (.int .i64 (-d)) := by simp [go_sem, p0]
  have p1_ : (on v).cell? ⟨Bb, 1, none⟩ = some (.int .i64 (d)) := by simp [go_sem, p1]
  have q0_ : (on v).cell? ⟨Bb + 1, 0, none⟩ = some (.int .i64 (-d - 2)) := by simp [go_sem, q0]
  have q1_ : (on v).cell? ⟨Bb + 1, 1, none⟩ = some (.int .i64 (d - 2)) := by simp [go_sem, q1]
  have hB3 : Below w.heap.size w (on v) := below_on hB2 v
  go_wp2_with fail
  clear hb hb2 hk hk2 hne hne2 e0 e1 e2 e3 f0 f1 f2 f3 hl1 hl2' L0__ L1__ O0__ O1__ a0_ a1_ p0 p1 q0 q1 hB2 hv
  generalize on v = Wc at *
  clear v
  go_loopw [12] (fun iv wr => ∃ i s0 s1 : Int, iv = .int .u8 i ∧ ((i = 1 ∧ s0 = 0 ∧ 0 = s1) ∨ (i = 2 ∧ s0 = 0 ∧ 0 = s1) ∨ (i = 3 ∧ s0 = 0 ∧ 0 = s1) ∨ (i = 4 ∧ s0 = 3 ∧ m = s1) ∨ (i = 5 ∧ s0 = 3 ∧ m = s1)) ∧ ∃ u : Later Wc, wr = on u ∧ (on u).heap[Wc.heap.size]? = some (.cells #[.int .u8 s0, .int .i64 s1] 24)) (fun iv _ => (5 - intOf iv).toNat)
  case atStart => exact ⟨1, 0, 0, rfl, by omega, ⟨_, below_alloc (Below.refl _ _) _⟩, rfl, (MapKept.heap_alloc _ _).1⟩
  case round =>
    obtain ⟨i, s0, s1, rfl, hp, u0, rfl, hh⟩ := hrel
    have n0 : (on u0).cell? ⟨Wc.heap.size, 0, none⟩ = some (.int .u8 s0) := held_cell hh 0
    have n1 : (on u0).cell? ⟨Wc.heap.size, 1, none⟩ = some (.int .i64 s1) := held_cell hh 1
    have nf0 : (on u0).frozen? ⟨Wc.heap.size, 0, none⟩ = false := held_free hh 0
    have nf1 : (on u0).frozen? ⟨Wc.heap.size, 1, none⟩ = false := held_free hh 1
    obtain ⟨rfl, rfl, rfl⟩ | ⟨rfl, rfl, rfl⟩ | ⟨rfl, rfl, rfl⟩ | ⟨rfl, rfl, rfl⟩ | ⟨rfl, rfl, rfl⟩ := hp
    · go_wp2_with (first | (go_at_call 17; with_reducible refine (across_1 _).mono ?_; rintro e wx ⟨rfl, rfl⟩) | fail)
      all_goals first
        | exact ⟨⟨1 + 1, 0, 0, rfl, by omega, u0, rfl, hh⟩, by simp [intOf]⟩
        | (go_roundw
           case rel => exact ⟨1 + 1, 0, 0, rfl, by omega, u0, rfl, hh⟩
           case measure => simp [intOf])
        | (exfalso; rename_i hq; simp at hq; omega)
        | (exfalso; rename_i hq; simp at hq)
    · go_wp2_with (first | (go_at_call 17; with_reducible refine (across_2 _).mono ?_; rintro e wx ⟨rfl, rfl⟩) | fail)
      all_goals first
        | exact ⟨⟨2 + 1, 0, 0, rfl, by omega, u0, rfl, hh⟩, by simp [intOf]⟩
        | (go_roundw
           case rel => exact ⟨2 + 1, 0, 0, rfl, by omega, u0, rfl, hh⟩
           case measure => simp [intOf])
        | (exfalso; rename_i hq; simp at hq; omega)
        | (exfalso; rename_i hq; simp at hq)
    · go_wp2_with (first | (go_at_call 17; with_reducible refine (across_3 _).mono ?_; rintro e wx ⟨rfl, rfl⟩) | fail)
      all_goals first
        | (obtain ⟨u1, hu, hh1⟩ := stored2 (Nat.le_refl _) hh (.int .u8 3) (.int .i64 m)
           refine ⟨⟨3 + 1, 3, m, rfl, by omega, u1, ?_, hh1⟩, by simp [intOf]⟩
           rw [← hu]
           congr 2
           have := HM.out
           first | omega | exact td2 (by omega))
        | (exfalso; rename_i hq; simp at hq; omega)
        | (exfalso; rename_i hq; simp at hq)
    · go_wp2_with (first | (go_at_call 17; with_reducible refine (across_4 _).mono ?_; rintro e wx ⟨rfl, rfl⟩) | fail)
      all_goals first
        | exact ⟨⟨4 + 1, 3, m, rfl, by omega, u0, rfl, hh⟩, by simp [intOf]⟩
        | (go_roundw
           case rel => exact ⟨4 + 1, 3, m, rfl, by omega, u0, rfl, hh⟩
           case measure => simp [intOf])
        | (exfalso; rename_i hq; simp at hq; omega)
        | (exfalso; rename_i hq; simp at hq)
    · have hB4 : Below w.heap.size w (on u0) := below_on hB3 u0
      go_wp2_with (first | (go_at_call 13; with_reducible refine (valid_no 3 m _ (by have := HL.out; omega)).mono ?_; rintro e wx ⟨rfl, hx⟩; obtain ⟨ux, rfl⟩ := after hx; clear hx) | (go_at_call 14; with_reducible refine (lives_ok _ (hT' _ (by have bw := hB4; repeat first | exact bw | (with_reducible refine below_on ?_ _) | (with_reducible refine below_alloc ?_ _)))).mono ?_; rintro e wx ⟨rfl, hx⟩; obtain ⟨ux, rfl⟩ := after hx; clear hx) | fail)
      go_ret
      exact ⟨rfl, by
        have bw := hB4
        repeat first | exact bw | (with_reducible refine below_on ?_ _) | (with_reducible refine below_alloc ?_ _)⟩

end Go.Proofs.YtbcmfenekpllhaaDoor
