/-
  Says: LinesTwice answers true at every input, where the librarys table stands as it was laid.
-/
import Derived.Test.YtbcmfenekpllhaaDoorLaw0
import Derived.Deep.RegionHeld3
set_option linter.unusedVariables false
set_option linter.unusedSimpArgs false
namespace Go.Proofs.YtbcmfenekpllhaaDoor
open Go Go.RowKit

attribute [local go_sem] World.cell?_alloc_some

set_option maxHeartbeats 400000 in
theorem of_any (a c j : Int) (w : World) (h0 : 0 ≤ a) (h1 : a ≤ 255) (h2 : -128 ≤ c) (h3 : c ≤ 127) (hj : a % 4 = j) : Calls Tryd.prog 20 #[.agg #[.int .u8 a, .int .i8 c]] w fun e w' => e = .returned (ln (1 + j) c) ∧ Below w.heap.size w w' := by
  have HJ : Hid (a % 4 = j) := hj
  clear hj
  go_enter Tryd.func20, Tryd.ntmps20
  go_wp2
  have hj := HJ.out
  exact bodyPost_ret (v := ln (1 + j) c) (by simp [results, Tryd.results20, go_sem] <;> omega) rfl ⟨rfl, by repeat first | (with_reducible exact Below.refl _ _) | (with_reducible refine below_on ?_ _) | (with_reducible refine below_alloc ?_ _) | (with_reducible refine below_set ?_ (by simp; try omega) _) | (with_reducible refine below_drew ?_)⟩

set_option maxRecDepth 100000 in
set_option maxHeartbeats 8000000 in
theorem twice_1 (a c b d x y : Int) (w : World) (hT : Tab w) (a1 : 0 ≤ a) (a2 : a ≤ 255) (hk : a % 4 = 0) (c1 : -128 ≤ c) (c2 : c ≤ 127) (b1 : 0 ≤ b) (b2 : b ≤ 255) (d1 : -128 ≤ d) (d2 : d ≤ 127) (p1 : -128 ≤ x) (p2 : x ≤ 127) (p3 : -128 ≤ y) (p4 : y ≤ 127) :
    Calls Tryd.prog 24 #[.agg #[.int .u8 a, .int .i8 c], .agg #[.int .u8 b, .int .i8 d], .agg #[.int .i8 x, .int .i8 y]] w fun e w' => e = .returned (.bool true) ∧ Below w.heap.size w w' := by
  have hT' : ∀ W, Below w.heap.size w W → Tab W := fun W hb => tab_below hT hb
  have HK : Hid (a % 4 = 0) := hk
  clear hk
  have htd : (4 * (d - c)).tdiv 2 = 2 * (d - c) := by rw [show 4 * (d - c) = 2 * (2 * (d - c)) by omega]; exact Int.mul_tdiv_cancel_left _ (by decide)
  go_enter Tryd.func24, Tryd.ntmps24
  go_wp2_with fail
  refine region_free2 6 4 7 24 5 8 24 _ _ (by kernel_rfl) (by kernel_rfl) (by decide) (by kernel_rfl) alloc24 (by kernel_rfl) alloc24 ?_
  simp only [List.take_succ_cons, List.take_zero, List.drop_succ_cons, List.drop_zero]
  repeat (first
    | (refine wpLex_plain (by rfl) (by rfl) (by rfl) (fun K hK => ?_); go_big_quiet_op; refine hK _ ?_; clear hK K)
    | (refine wpLex_call (by rfl) (by rfl) (fun K hK => ?_); go_simp; apply Exists.intro; refine ⟨fun _ => ?_, hK _ ?_⟩; ((first | (go_at_call 20; with_reducible exact Calls.laterL (of_any a c 0 _ a1 a2 c1 c2 HK.out)) | (go_at_call 20; with_reducible exact Calls.laterL (of_any b d _ _ b1 b2 d1 d2 rfl)))); clear hK K)
    | (refine wpLex_new (by rfl) ?_; simp only [Act.put, List.setIfInBounds_toArray, List.set_cons_zero, List.set_cons_succ]))
  refine wpLex_nil ?_
  intro q q2 u hb hk hb2 hk2 hne
  simp only [Act.put, List.setIfInBounds_toArray, List.set_cons_zero, List.set_cons_succ]
  have hne2 : q2 ≠ q := Ne.symm hne
  have e0 : (on u).cell? ⟨q, 0, none⟩ = some (.int .u8 0) := held_cell hk 0
  have e1 : (on u).cell? ⟨q, 1, none⟩ = some (.int .i64 0) := held_cell hk 1
  have f0 : (on u).frozen? ⟨q, 0, none⟩ = false := held_free hk 0
  have f1 : (on u).frozen? ⟨q, 1, none⟩ = false := held_free hk 1
  have e2 : ∀ v v', (((on u).setCell ⟨q, 0, none⟩ v).setCell ⟨q, 1, none⟩ v').cell? ⟨q2, 0, none⟩ = some (.int .u8 0) := fun v v' => held_cell (held_set_other (held_set_other hk2 hne2 _ _) hne2 _ _) 0
  have e3 : ∀ v v', (((on u).setCell ⟨q, 0, none⟩ v).setCell ⟨q, 1, none⟩ v').cell? ⟨q2, 1, none⟩ = some (.int .i64 0) := fun v v' => held_cell (held_set_other (held_set_other hk2 hne2 _ _) hne2 _ _) 1
  have f2 : (on u).frozen? ⟨q2, 0, none⟩ = false := held_free hk2 0
  have f3 : (on u).frozen? ⟨q2, 1, none⟩ = false := held_free hk2 1
  obtain ⟨v, hv, hl, hl2⟩ := stored22 hb hk hb2 hk2 hne (.int .u8 (1 + 0)) (.int .i64 c) (.int .u8 (1 + b % 4)) (.int .i64 d)
  have hv' := hv
  simp only [Int.reduceAdd] at hv
  have E0 : (on v).cell? ⟨q, 0, none⟩ = some (.int .u8 1) := held_cell hl 0
  have E1 : (on v).cell? ⟨q, 1, none⟩ = some (.int .i64 c) := held_cell hl 1
  have E2 : (on v).cell? ⟨q2, 0, none⟩ = some (.int .u8 (1 + b % 4)) := held_cell hl2 0
  have E3 : (on v).cell? ⟨q2, 1, none⟩ = some (.int .i64 d) := held_cell hl2 1
  have F2 : (on v).frozen? ⟨q2, 0, none⟩ = false := held_free hl2 0
  have L2 : ((on v).setCell ⟨q2, 0, none⟩ (.int .u8 1)).heap[q2]? = some (.cells #[.int .u8 1, .int .i64 d] 24) := held_set hl2 0 _
  have L1 : ((on v).setCell ⟨q2, 0, none⟩ (.int .u8 1)).heap[q]? = some (.cells #[.int .u8 1, .int .i64 c] 24) := held_set_other hl hne _ _
  have hw5 : Below w.heap.size w ((on v).setCell ⟨q2, 0, none⟩ (.int .u8 1)) := by
    have hq : w.heap.size ≤ q2 := by have := on_size v; simp at hb2; omega
    refine below_set ?_ hq _
    repeat first | (with_reducible exact Below.refl _ _) | (with_reducible refine below_on ?_ _) | (with_reducible refine below_alloc ?_ _)
  have K0 : ((on v).setCell ⟨q2, 0, none⟩ (.int .u8 1)).cell? ⟨w.heap.size + 1 + 1, 0, none⟩ = some (.int .i8 x) := by
    rw [World.cell?_setCell_far _ _ _ _ (by show q2 ≠ w.heap.size + 1 + 1; simp at hb2; omega)]; simp [go_sem]
  have K1 : ((on v).setCell ⟨q2, 0, none⟩ (.int .u8 1)).cell? ⟨w.heap.size + 1 + 1, 1, none⟩ = some (.int .i8 y) := by
    rw [World.cell?_setCell_far _ _ _ _ (by show q2 ≠ w.heap.size + 1 + 1; simp at hb2; omega)]; simp [go_sem]
  obtain ⟨W5, hW5⟩ : ∃ W5, (on v).setCell ⟨q2, 0, none⟩ (.int .u8 1) = W5 := ⟨_, rfl⟩
  rw [hW5] at L1 L2 hw5 K0 K1
  have E5 : W5.cell? ⟨q, 0, none⟩ = some (.int .u8 1) := held_cell L1 0
  have E6 : W5.cell? ⟨q, 1, none⟩ = some (.int .i64 c) := held_cell L1 1
  have E7 : W5.cell? ⟨q2, 0, none⟩ = some (.int .u8 1) := held_cell L2 0
  have E8 : W5.cell? ⟨q2, 1, none⟩ = some (.int .i64 d) := held_cell L2 1
  clear hl hl2 hne hne2 hb hb2 hk hk2 L1 L2 hv'
  go_wp2_with fail
  clear e0 e1 e2 e3 f0 f1 f2 f3 hv E0 E1 E2 E3 F2 hW5
  go_wp2_with (first | (go_at_call 18; with_reducible refine (point_any _ _ _).mono ?_; rintro e wx ⟨rfl, hx⟩; obtain ⟨ux, rfl⟩ := after hx; clear hx) | fail)
  have hB1m : Below w.heap.size w ((on ux).alloc (.cells #[.int .i64 x, .int .i64 y] 31)) := by
    have bw : Below w.heap.size w W5 := hw5
    repeat first | (with_reducible exact bw) | (with_reducible refine below_on ?_ _) | (with_reducible refine below_alloc ?_ _)
  have E5_ : ((on ux).alloc (.cells #[.int .i64 x, .int .i64 y] 31)).cell? ⟨q, 0, none⟩ = some (.int .u8 1) := by simp [go_sem, E5]
  have E6_ : ((on ux).alloc (.cells #[.int .i64 x, .int .i64 y] 31)).cell? ⟨q, 1, none⟩ = some (.int .i64 c) := by simp [go_sem, E6]
  have E7_ : ((on ux).alloc (.cells #[.int .i64 x, .int .i64 y] 31)).cell? ⟨q2, 0, none⟩ = some (.int .u8 1) := by simp [go_sem, E7]
  have E8_ : ((on ux).alloc (.cells #[.int .i64 x, .int .i64 y] 31)).cell? ⟨q2, 1, none⟩ = some (.int .i64 d) := by simp [go_sem, E8]
  have K0_ : ((on ux).alloc (.cells #[.int .i64 x, .int .i64 y] 31)).cell? ⟨w.heap.size + 1 + 1, 0, none⟩ = some (.int .i8 x) := by simp [go_sem, K0]
  have K1_ : ((on ux).alloc (.cells #[.int .i64 x, .int .i64 y] 31)).cell? ⟨w.heap.size + 1 + 1, 1, none⟩ = some (.int .i8 y) := by simp [go_sem, K1]
  have m0 : ((on ux).alloc (.cells #[.int .i64 x, .int .i64 y] 31)).cell? ⟨(on ux).heap.size, 0, none⟩ = some (.int .i64 x) := by simp [go_sem]
  have m1 : ((on ux).alloc (.cells #[.int .i64 x, .int .i64 y] 31)).cell? ⟨(on ux).heap.size, 1, none⟩ = some (.int .i64 y) := by simp [go_sem]
  clear E5 E6 E7 E8 K0 K1 hw5
  generalize (on ux).alloc (.cells #[.int .i64 x, .int .i64 y] 31) = Wm at *
  generalize (on ux).heap.size = Bm at *
  clear ux
  go_wp2_with (first | (go_at_call 49; with_reducible refine (reflect_ok1 c x y _ (by omega) (by omega) (by omega) (by omega) (by omega) (by omega) (by omega) (by omega) (by omega) (by omega)).mono ?_; rintro e wx ⟨rfl, hx⟩; obtain ⟨ux, rfl⟩ := after hx; clear hx) | fail)
  have hB2n : Below w.heap.size w ((on ux).alloc (.cells #[.int .i64 (2 * (2 * c) - x), .int .i64 (y)] 31)) := by
    have bw : Below w.heap.size w Wm := hB1m
    repeat first | (with_reducible exact bw) | (with_reducible refine below_on ?_ _) | (with_reducible refine below_alloc ?_ _)
  have E5__ : ((on ux).alloc (.cells #[.int .i64 (2 * (2 * c) - x), .int .i64 (y)] 31)).cell? ⟨q, 0, none⟩ = some (.int .u8 1) := by simp [go_sem, E5_]
  have E6__ : ((on ux).alloc (.cells #[.int .i64 (2 * (2 * c) - x), .int .i64 (y)] 31)).cell? ⟨q, 1, none⟩ = some (.int .i64 c) := by simp [go_sem, E6_]
  have E7__ : ((on ux).alloc (.cells #[.int .i64 (2 * (2 * c) - x), .int .i64 (y)] 31)).cell? ⟨q2, 0, none⟩ = some (.int .u8 1) := by simp [go_sem, E7_]
  have E8__ : ((on ux).alloc (.cells #[.int .i64 (2 * (2 * c) - x), .int .i64 (y)] 31)).cell? ⟨q2, 1, none⟩ = some (.int .i64 d) := by simp [go_sem, E8_]
  have K0__ : ((on ux).alloc (.cells #[.int .i64 (2 * (2 * c) - x), .int .i64 (y)] 31)).cell? ⟨w.heap.size + 1 + 1, 0, none⟩ = some (.int .i8 x) := by simp [go_sem, K0_]
  have K1__ : ((on ux).alloc (.cells #[.int .i64 (2 * (2 * c) - x), .int .i64 (y)] 31)).cell? ⟨w.heap.size + 1 + 1, 1, none⟩ = some (.int .i8 y) := by simp [go_sem, K1_]
  have m0_ : ((on ux).alloc (.cells #[.int .i64 (2 * (2 * c) - x), .int .i64 (y)] 31)).cell? ⟨Bm, 0, none⟩ = some (.int .i64 x) := by simp [go_sem, m0]
  have m1_ : ((on ux).alloc (.cells #[.int .i64 (2 * (2 * c) - x), .int .i64 (y)] 31)).cell? ⟨Bm, 1, none⟩ = some (.int .i64 y) := by simp [go_sem, m1]
  have n0 : ((on ux).alloc (.cells #[.int .i64 (2 * (2 * c) - x), .int .i64 (y)] 31)).cell? ⟨(on ux).heap.size, 0, none⟩ = some (.int .i64 (2 * (2 * c) - x)) := by simp [go_sem]
  have n1 : ((on ux).alloc (.cells #[.int .i64 (2 * (2 * c) - x), .int .i64 (y)] 31)).cell? ⟨(on ux).heap.size, 1, none⟩ = some (.int .i64 (y)) := by simp [go_sem]
  clear E5_ E6_ E7_ E8_ K0_ K1_ m0 m1 hB1m
  generalize (on ux).alloc (.cells #[.int .i64 (2 * (2 * c) - x), .int .i64 (y)] 31) = Wn at *
  generalize (on ux).heap.size = Bn at *
  clear ux
  go_wp2_with (first | (go_at_call 49; with_reducible refine (reflect_ok1 d (2 * (2 * c) - x) (y) _ (by omega) (by omega) (by omega) (by omega) (by omega) (by omega) (by omega) (by omega) (by omega) (by omega)).mono ?_; rintro e wx ⟨rfl, hx⟩; obtain ⟨ux, rfl⟩ := after hx; clear hx) | fail)
  have hB3o : Below w.heap.size w ((on ux).alloc (.cells #[.int .i64 (2 * (2 * d) - (2 * (2 * c) - x)), .int .i64 ((y))] 31)) := by
    have bw : Below w.heap.size w Wn := hB2n
    repeat first | (with_reducible exact bw) | (with_reducible refine below_on ?_ _) | (with_reducible refine below_alloc ?_ _)
  have E5___ : ((on ux).alloc (.cells #[.int .i64 (2 * (2 * d) - (2 * (2 * c) - x)), .int .i64 ((y))] 31)).cell? ⟨q, 0, none⟩ = some (.int .u8 1) := by simp [go_sem, E5__]
  have E6___ : ((on ux).alloc (.cells #[.int .i64 (2 * (2 * d) - (2 * (2 * c) - x)), .int .i64 ((y))] 31)).cell? ⟨q, 1, none⟩ = some (.int .i64 c) := by simp [go_sem, E6__]
  have E7___ : ((on ux).alloc (.cells #[.int .i64 (2 * (2 * d) - (2 * (2 * c) - x)), .int .i64 ((y))] 31)).cell? ⟨q2, 0, none⟩ = some (.int .u8 1) := by simp [go_sem, E7__]
  have E8___ : ((on ux).alloc (.cells #[.int .i64 (2 * (2 * d) - (2 * (2 * c) - x)), .int .i64 ((y))] 31)).cell? ⟨q2, 1, none⟩ = some (.int .i64 d) := by simp [go_sem, E8__]
  have K0___ : ((on ux).alloc (.cells #[.int .i64 (2 * (2 * d) - (2 * (2 * c) - x)), .int .i64 ((y))] 31)).cell? ⟨w.heap.size + 1 + 1, 0, none⟩ = some (.int .i8 x) := by simp [go_sem, K0__]
  have K1___ : ((on ux).alloc (.cells #[.int .i64 (2 * (2 * d) - (2 * (2 * c) - x)), .int .i64 ((y))] 31)).cell? ⟨w.heap.size + 1 + 1, 1, none⟩ = some (.int .i8 y) := by simp [go_sem, K1__]
  have m0__ : ((on ux).alloc (.cells #[.int .i64 (2 * (2 * d) - (2 * (2 * c) - x)), .int .i64 ((y))] 31)).cell? ⟨Bm, 0, none⟩ = some (.int .i64 x) := by simp [go_sem, m0_]
  have m1__ : ((on ux).alloc (.cells #[.int .i64 (2 * (2 * d) - (2 * (2 * c) - x)), .int .i64 ((y))] 31)).cell? ⟨Bm, 1, none⟩ = some (.int .i64 y) := by simp [go_sem, m1_]
  have n0_ : ((on ux).alloc (.cells #[.int .i64 (2 * (2 * d) - (2 * (2 * c) - x)), .int .i64 ((y))] 31)).cell? ⟨Bn, 0, none⟩ = some (.int .i64 (2 * (2 * c) - x)) := by simp [go_sem, n0]
  have n1_ : ((on ux).alloc (.cells #[.int .i64 (2 * (2 * d) - (2 * (2 * c) - x)), .int .i64 ((y))] 31)).cell? ⟨Bn, 1, none⟩ = some (.int .i64 (y)) := by simp [go_sem, n1]
  have o0 : ((on ux).alloc (.cells #[.int .i64 (2 * (2 * d) - (2 * (2 * c) - x)), .int .i64 ((y))] 31)).cell? ⟨(on ux).heap.size, 0, none⟩ = some (.int .i64 (2 * (2 * d) - (2 * (2 * c) - x))) := by simp [go_sem]
  have o1 : ((on ux).alloc (.cells #[.int .i64 (2 * (2 * d) - (2 * (2 * c) - x)), .int .i64 ((y))] 31)).cell? ⟨(on ux).heap.size, 1, none⟩ = some (.int .i64 ((y))) := by simp [go_sem]
  clear E5__ E6__ E7__ E8__ K0__ K1__ m0_ m1_ n0 n1 hB2n
  generalize (on ux).alloc (.cells #[.int .i64 (2 * (2 * d) - (2 * (2 * c) - x)), .int .i64 ((y))] 31) = Wo at *
  generalize (on ux).heap.size = Bo at *
  clear ux
  go_wp2_with (first | (go_at_call 17; with_reducible refine (across_1 _).mono ?_; rintro e wx ⟨rfl, rfl⟩) | fail)
  refine region_later (by kernel_rfl) (by kernel_rfl) ?_
  repeat (go_big_quiet_step ((first | (go_at_call 18; with_reducible exact Calls.later (point_any _ _ _)) | (go_at_call 14; with_reducible exact Calls.later (lives_ok _ (hT' _ (by have bw := hB3o; repeat first | (with_reducible exact bw) | (with_reducible refine below_on ?_ _) | (with_reducible refine below_alloc ?_ _))))))))
  try (rw [eqt2]; rotate_left; (first | omega | (simp only [htd]; omega)); rotate_left; (first | omega | (simp only [htd]; omega)))
  repeat (go_big_quiet_step ((first | (go_at_call 18; with_reducible exact Calls.later (point_any _ _ _)) | (go_at_call 14; with_reducible exact Calls.later (lives_ok _ (hT' _ (by have bw := hB3o; repeat first | (with_reducible exact bw) | (with_reducible refine below_on ?_ _) | (with_reducible refine below_alloc ?_ _))))))))
  refine wpQuiet_nil ?_
  rintro _ ⟨u9, rfl⟩
  go_wp2
  go_ret
  exact ⟨rfl, (by
      have bw : Below w.heap.size w Wo := hB3o
      repeat first | (with_reducible exact bw) | (with_reducible refine below_on ?_ _) | (with_reducible refine below_alloc ?_ _))⟩

set_option maxRecDepth 100000 in
set_option maxHeartbeats 8000000 in
theorem twice_2 (a c b d x y : Int) (w : World) (hT : Tab w) (a1 : 0 ≤ a) (a2 : a ≤ 255) (hk : a % 4 = 1) (c1 : -128 ≤ c) (c2 : c ≤ 127) (b1 : 0 ≤ b) (b2 : b ≤ 255) (d1 : -128 ≤ d) (d2 : d ≤ 127) (p1 : -128 ≤ x) (p2 : x ≤ 127) (p3 : -128 ≤ y) (p4 : y ≤ 127) :
    Calls Tryd.prog 24 #[.agg #[.int .u8 a, .int .i8 c], .agg #[.int .u8 b, .int .i8 d], .agg #[.int .i8 x, .int .i8 y]] w fun e w' => e = .returned (.bool true) ∧ Below w.heap.size w w' := by
  have hT' : ∀ W, Below w.heap.size w W → Tab W := fun W hb => tab_below hT hb
  have HK : Hid (a % 4 = 1) := hk
  clear hk
  have htd : (4 * (d - c)).tdiv 2 = 2 * (d - c) := by rw [show 4 * (d - c) = 2 * (2 * (d - c)) by omega]; exact Int.mul_tdiv_cancel_left _ (by decide)
  go_enter Tryd.func24, Tryd.ntmps24
  go_wp2_with fail
  refine region_free2 6 4 7 24 5 8 24 _ _ (by kernel_rfl) (by kernel_rfl) (by decide) (by kernel_rfl) alloc24 (by kernel_rfl) alloc24 ?_
  simp only [List.take_succ_cons, List.take_zero, List.drop_succ_cons, List.drop_zero]
  repeat (first
    | (refine wpLex_plain (by rfl) (by rfl) (by rfl) (fun K hK => ?_); go_big_quiet_op; refine hK _ ?_; clear hK K)
    | (refine wpLex_call (by rfl) (by rfl) (fun K hK => ?_); go_simp; apply Exists.intro; refine ⟨fun _ => ?_, hK _ ?_⟩; ((first | (go_at_call 20; with_reducible exact Calls.laterL (of_any a c 1 _ a1 a2 c1 c2 HK.out)) | (go_at_call 20; with_reducible exact Calls.laterL (of_any b d _ _ b1 b2 d1 d2 rfl)))); clear hK K)
    | (refine wpLex_new (by rfl) ?_; simp only [Act.put, List.setIfInBounds_toArray, List.set_cons_zero, List.set_cons_succ]))
  refine wpLex_nil ?_
  intro q q2 u hb hk hb2 hk2 hne
  simp only [Act.put, List.setIfInBounds_toArray, List.set_cons_zero, List.set_cons_succ]
  have hne2 : q2 ≠ q := Ne.symm hne
  have e0 : (on u).cell? ⟨q, 0, none⟩ = some (.int .u8 0) := held_cell hk 0
  have e1 : (on u).cell? ⟨q, 1, none⟩ = some (.int .i64 0) := held_cell hk 1
  have f0 : (on u).frozen? ⟨q, 0, none⟩ = false := held_free hk 0
  have f1 : (on u).frozen? ⟨q, 1, none⟩ = false := held_free hk 1
  have e2 : ∀ v v', (((on u).setCell ⟨q, 0, none⟩ v).setCell ⟨q, 1, none⟩ v').cell? ⟨q2, 0, none⟩ = some (.int .u8 0) := fun v v' => held_cell (held_set_other (held_set_other hk2 hne2 _ _) hne2 _ _) 0
  have e3 : ∀ v v', (((on u).setCell ⟨q, 0, none⟩ v).setCell ⟨q, 1, none⟩ v').cell? ⟨q2, 1, none⟩ = some (.int .i64 0) := fun v v' => held_cell (held_set_other (held_set_other hk2 hne2 _ _) hne2 _ _) 1
  have f2 : (on u).frozen? ⟨q2, 0, none⟩ = false := held_free hk2 0
  have f3 : (on u).frozen? ⟨q2, 1, none⟩ = false := held_free hk2 1
  obtain ⟨v, hv, hl, hl2⟩ := stored22 hb hk hb2 hk2 hne (.int .u8 (1 + 1)) (.int .i64 c) (.int .u8 (1 + b % 4)) (.int .i64 d)
  have hv' := hv
  simp only [Int.reduceAdd] at hv
  have E0 : (on v).cell? ⟨q, 0, none⟩ = some (.int .u8 2) := held_cell hl 0
  have E1 : (on v).cell? ⟨q, 1, none⟩ = some (.int .i64 c) := held_cell hl 1
  have E2 : (on v).cell? ⟨q2, 0, none⟩ = some (.int .u8 (1 + b % 4)) := held_cell hl2 0
  have E3 : (on v).cell? ⟨q2, 1, none⟩ = some (.int .i64 d) := held_cell hl2 1
  have F2 : (on v).frozen? ⟨q2, 0, none⟩ = false := held_free hl2 0
  have L2 : ((on v).setCell ⟨q2, 0, none⟩ (.int .u8 2)).heap[q2]? = some (.cells #[.int .u8 2, .int .i64 d] 24) := held_set hl2 0 _
  have L1 : ((on v).setCell ⟨q2, 0, none⟩ (.int .u8 2)).heap[q]? = some (.cells #[.int .u8 2, .int .i64 c] 24) := held_set_other hl hne _ _
  have hw5 : Below w.heap.size w ((on v).setCell ⟨q2, 0, none⟩ (.int .u8 2)) := by
    have hq : w.heap.size ≤ q2 := by have := on_size v; simp at hb2; omega
    refine below_set ?_ hq _
    repeat first | (with_reducible exact Below.refl _ _) | (with_reducible refine below_on ?_ _) | (with_reducible refine below_alloc ?_ _)
  have K0 : ((on v).setCell ⟨q2, 0, none⟩ (.int .u8 2)).cell? ⟨w.heap.size + 1 + 1, 0, none⟩ = some (.int .i8 x) := by
    rw [World.cell?_setCell_far _ _ _ _ (by show q2 ≠ w.heap.size + 1 + 1; simp at hb2; omega)]; simp [go_sem]
  have K1 : ((on v).setCell ⟨q2, 0, none⟩ (.int .u8 2)).cell? ⟨w.heap.size + 1 + 1, 1, none⟩ = some (.int .i8 y) := by
    rw [World.cell?_setCell_far _ _ _ _ (by show q2 ≠ w.heap.size + 1 + 1; simp at hb2; omega)]; simp [go_sem]
  obtain ⟨W5, hW5⟩ : ∃ W5, (on v).setCell ⟨q2, 0, none⟩ (.int .u8 2) = W5 := ⟨_, rfl⟩
  rw [hW5] at L1 L2 hw5 K0 K1
  have E5 : W5.cell? ⟨q, 0, none⟩ = some (.int .u8 2) := held_cell L1 0
  have E6 : W5.cell? ⟨q, 1, none⟩ = some (.int .i64 c) := held_cell L1 1
  have E7 : W5.cell? ⟨q2, 0, none⟩ = some (.int .u8 2) := held_cell L2 0
  have E8 : W5.cell? ⟨q2, 1, none⟩ = some (.int .i64 d) := held_cell L2 1
  clear hl hl2 hne hne2 hb hb2 hk hk2 L1 L2 hv'
  go_wp2_with fail
  clear e0 e1 e2 e3 f0 f1 f2 f3 hv E0 E1 E2 E3 F2 hW5
  go_wp2_with (first | (go_at_call 18; with_reducible refine (point_any _ _ _).mono ?_; rintro e wx ⟨rfl, hx⟩; obtain ⟨ux, rfl⟩ := after hx; clear hx) | fail)
  have hB1m : Below w.heap.size w ((on ux).alloc (.cells #[.int .i64 x, .int .i64 y] 31)) := by
    have bw : Below w.heap.size w W5 := hw5
    repeat first | (with_reducible exact bw) | (with_reducible refine below_on ?_ _) | (with_reducible refine below_alloc ?_ _)
  have E5_ : ((on ux).alloc (.cells #[.int .i64 x, .int .i64 y] 31)).cell? ⟨q, 0, none⟩ = some (.int .u8 2) := by simp [go_sem, E5]
  have E6_ : ((on ux).alloc (.cells #[.int .i64 x, .int .i64 y] 31)).cell? ⟨q, 1, none⟩ = some (.int .i64 c) := by simp [go_sem, E6]
  have E7_ : ((on ux).alloc (.cells #[.int .i64 x, .int .i64 y] 31)).cell? ⟨q2, 0, none⟩ = some (.int .u8 2) := by simp [go_sem, E7]
  have E8_ : ((on ux).alloc (.cells #[.int .i64 x, .int .i64 y] 31)).cell? ⟨q2, 1, none⟩ = some (.int .i64 d) := by simp [go_sem, E8]
  have K0_ : ((on ux).alloc (.cells #[.int .i64 x, .int .i64 y] 31)).cell? ⟨w.heap.size + 1 + 1, 0, none⟩ = some (.int .i8 x) := by simp [go_sem, K0]
  have K1_ : ((on ux).alloc (.cells #[.int .i64 x, .int .i64 y] 31)).cell? ⟨w.heap.size + 1 + 1, 1, none⟩ = some (.int .i8 y) := by simp [go_sem, K1]
  have m0 : ((on ux).alloc (.cells #[.int .i64 x, .int .i64 y] 31)).cell? ⟨(on ux).heap.size, 0, none⟩ = some (.int .i64 x) := by simp [go_sem]
  have m1 : ((on ux).alloc (.cells #[.int .i64 x, .int .i64 y] 31)).cell? ⟨(on ux).heap.size, 1, none⟩ = some (.int .i64 y) := by simp [go_sem]
  clear E5 E6 E7 E8 K0 K1 hw5
  generalize (on ux).alloc (.cells #[.int .i64 x, .int .i64 y] 31) = Wm at *
  generalize (on ux).heap.size = Bm at *
  clear ux
  go_wp2_with (first | (go_at_call 49; with_reducible refine (reflect_ok2 c x y _ (by omega) (by omega) (by omega) (by omega) (by omega) (by omega) (by omega) (by omega) (by omega) (by omega)).mono ?_; rintro e wx ⟨rfl, hx⟩; obtain ⟨ux, rfl⟩ := after hx; clear hx) | fail)
  have hB2n : Below w.heap.size w ((on ux).alloc (.cells #[.int .i64 (x), .int .i64 (2 * (2 * c) - y)] 31)) := by
    have bw : Below w.heap.size w Wm := hB1m
    repeat first | (with_reducible exact bw) | (with_reducible refine below_on ?_ _) | (with_reducible refine below_alloc ?_ _)
  have E5__ : ((on ux).alloc (.cells #[.int .i64 (x), .int .i64 (2 * (2 * c) - y)] 31)).cell? ⟨q, 0, none⟩ = some (.int .u8 2) := by simp [go_sem, E5_]
  have E6__ : ((on ux).alloc (.cells #[.int .i64 (x), .int .i64 (2 * (2 * c) - y)] 31)).cell? ⟨q, 1, none⟩ = some (.int .i64 c) := by simp [go_sem, E6_]
  have E7__ : ((on ux).alloc (.cells #[.int .i64 (x), .int .i64 (2 * (2 * c) - y)] 31)).cell? ⟨q2, 0, none⟩ = some (.int .u8 2) := by simp [go_sem, E7_]
  have E8__ : ((on ux).alloc (.cells #[.int .i64 (x), .int .i64 (2 * (2 * c) - y)] 31)).cell? ⟨q2, 1, none⟩ = some (.int .i64 d) := by simp [go_sem, E8_]
  have K0__ : ((on ux).alloc (.cells #[.int .i64 (x), .int .i64 (2 * (2 * c) - y)] 31)).cell? ⟨w.heap.size + 1 + 1, 0, none⟩ = some (.int .i8 x) := by simp [go_sem, K0_]
  have K1__ : ((on ux).alloc (.cells #[.int .i64 (x), .int .i64 (2 * (2 * c) - y)] 31)).cell? ⟨w.heap.size + 1 + 1, 1, none⟩ = some (.int .i8 y) := by simp [go_sem, K1_]
  have m0_ : ((on ux).alloc (.cells #[.int .i64 (x), .int .i64 (2 * (2 * c) - y)] 31)).cell? ⟨Bm, 0, none⟩ = some (.int .i64 x) := by simp [go_sem, m0]
  have m1_ : ((on ux).alloc (.cells #[.int .i64 (x), .int .i64 (2 * (2 * c) - y)] 31)).cell? ⟨Bm, 1, none⟩ = some (.int .i64 y) := by simp [go_sem, m1]
  have n0 : ((on ux).alloc (.cells #[.int .i64 (x), .int .i64 (2 * (2 * c) - y)] 31)).cell? ⟨(on ux).heap.size, 0, none⟩ = some (.int .i64 (x)) := by simp [go_sem]
  have n1 : ((on ux).alloc (.cells #[.int .i64 (x), .int .i64 (2 * (2 * c) - y)] 31)).cell? ⟨(on ux).heap.size, 1, none⟩ = some (.int .i64 (2 * (2 * c) - y)) := by simp [go_sem]
  clear E5_ E6_ E7_ E8_ K0_ K1_ m0 m1 hB1m
  generalize (on ux).alloc (.cells #[.int .i64 (x), .int .i64 (2 * (2 * c) - y)] 31) = Wn at *
  generalize (on ux).heap.size = Bn at *
  clear ux
  go_wp2_with (first | (go_at_call 49; with_reducible refine (reflect_ok2 d (x) (2 * (2 * c) - y) _ (by omega) (by omega) (by omega) (by omega) (by omega) (by omega) (by omega) (by omega) (by omega) (by omega)).mono ?_; rintro e wx ⟨rfl, hx⟩; obtain ⟨ux, rfl⟩ := after hx; clear hx) | fail)
  have hB3o : Below w.heap.size w ((on ux).alloc (.cells #[.int .i64 ((x)), .int .i64 (2 * (2 * d) - (2 * (2 * c) - y))] 31)) := by
    have bw : Below w.heap.size w Wn := hB2n
    repeat first | (with_reducible exact bw) | (with_reducible refine below_on ?_ _) | (with_reducible refine below_alloc ?_ _)
  have E5___ : ((on ux).alloc (.cells #[.int .i64 ((x)), .int .i64 (2 * (2 * d) - (2 * (2 * c) - y))] 31)).cell? ⟨q, 0, none⟩ = some (.int .u8 2) := by simp [go_sem, E5__]
  have E6___ : ((on ux).alloc (.cells #[.int .i64 ((x)), .int .i64 (2 * (2 * d) - (2 * (2 * c) - y))] 31)).cell? ⟨q, 1, none⟩ = some (.int .i64 c) := by simp [go_sem, E6__]
  have E7___ : ((on ux).alloc (.cells #[.int .i64 ((x)), .int .i64 (2 * (2 * d) - (2 * (2 * c) - y))] 31)).cell? ⟨q2, 0, none⟩ = some (.int .u8 2) := by simp [go_sem, E7__]
  have E8___ : ((on ux).alloc (.cells #[.int .i64 ((x)), .int .i64 (2 * (2 * d) - (2 * (2 * c) - y))] 31)).cell? ⟨q2, 1, none⟩ = some (.int .i64 d) := by simp [go_sem, E8__]
  have K0___ : ((on ux).alloc (.cells #[.int .i64 ((x)), .int .i64 (2 * (2 * d) - (2 * (2 * c) - y))] 31)).cell? ⟨w.heap.size + 1 + 1, 0, none⟩ = some (.int .i8 x) := by simp [go_sem, K0__]
  have K1___ : ((on ux).alloc (.cells #[.int .i64 ((x)), .int .i64 (2 * (2 * d) - (2 * (2 * c) - y))] 31)).cell? ⟨w.heap.size + 1 + 1, 1, none⟩ = some (.int .i8 y) := by simp [go_sem, K1__]
  have m0__ : ((on ux).alloc (.cells #[.int .i64 ((x)), .int .i64 (2 * (2 * d) - (2 * (2 * c) - y))] 31)).cell? ⟨Bm, 0, none⟩ = some (.int .i64 x) := by simp [go_sem, m0_]
  have m1__ : ((on ux).alloc (.cells #[.int .i64 ((x)), .int .i64 (2 * (2 * d) - (2 * (2 * c) - y))] 31)).cell? ⟨Bm, 1, none⟩ = some (.int .i64 y) := by simp [go_sem, m1_]
  have n0_ : ((on ux).alloc (.cells #[.int .i64 ((x)), .int .i64 (2 * (2 * d) - (2 * (2 * c) - y))] 31)).cell? ⟨Bn, 0, none⟩ = some (.int .i64 (x)) := by simp [go_sem, n0]
  have n1_ : ((on ux).alloc (.cells #[.int .i64 ((x)), .int .i64 (2 * (2 * d) - (2 * (2 * c) - y))] 31)).cell? ⟨Bn, 1, none⟩ = some (.int .i64 (2 * (2 * c) - y)) := by simp [go_sem, n1]
  have o0 : ((on ux).alloc (.cells #[.int .i64 ((x)), .int .i64 (2 * (2 * d) - (2 * (2 * c) - y))] 31)).cell? ⟨(on ux).heap.size, 0, none⟩ = some (.int .i64 ((x))) := by simp [go_sem]
  have o1 : ((on ux).alloc (.cells #[.int .i64 ((x)), .int .i64 (2 * (2 * d) - (2 * (2 * c) - y))] 31)).cell? ⟨(on ux).heap.size, 1, none⟩ = some (.int .i64 (2 * (2 * d) - (2 * (2 * c) - y))) := by simp [go_sem]
  clear E5__ E6__ E7__ E8__ K0__ K1__ m0_ m1_ n0 n1 hB2n
  generalize (on ux).alloc (.cells #[.int .i64 ((x)), .int .i64 (2 * (2 * d) - (2 * (2 * c) - y))] 31) = Wo at *
  generalize (on ux).heap.size = Bo at *
  clear ux
  go_wp2_with (first | (go_at_call 17; with_reducible refine (across_2 _).mono ?_; rintro e wx ⟨rfl, rfl⟩) | fail)
  refine region_later (by kernel_rfl) (by kernel_rfl) ?_
  repeat (go_big_quiet_step ((first | (go_at_call 18; with_reducible exact Calls.later (point_any _ _ _)) | (go_at_call 14; with_reducible exact Calls.later (lives_ok _ (hT' _ (by have bw := hB3o; repeat first | (with_reducible exact bw) | (with_reducible refine below_on ?_ _) | (with_reducible refine below_alloc ?_ _))))))))
  try (rw [eqt2]; rotate_left; (first | omega | (simp only [htd]; omega)); rotate_left; (first | omega | (simp only [htd]; omega)))
  repeat (go_big_quiet_step ((first | (go_at_call 18; with_reducible exact Calls.later (point_any _ _ _)) | (go_at_call 14; with_reducible exact Calls.later (lives_ok _ (hT' _ (by have bw := hB3o; repeat first | (with_reducible exact bw) | (with_reducible refine below_on ?_ _) | (with_reducible refine below_alloc ?_ _))))))))
  refine wpQuiet_nil ?_
  rintro _ ⟨u9, rfl⟩
  go_wp2
  go_ret
  exact ⟨rfl, (by
      have bw : Below w.heap.size w Wo := hB3o
      repeat first | (with_reducible exact bw) | (with_reducible refine below_on ?_ _) | (with_reducible refine below_alloc ?_ _))⟩

set_option maxRecDepth 100000 in
set_option maxHeartbeats 8000000 in
theorem twice_3 (a c b d x y : Int) (w : World) (hT : Tab w) (a1 : 0 ≤ a) (a2 : a ≤ 255) (hk : a % 4 = 2) (c1 : -128 ≤ c) (c2 : c ≤ 127) (b1 : 0 ≤ b) (b2 : b ≤ 255) (d1 : -128 ≤ d) (d2 : d ≤ 127) (p1 : -128 ≤ x) (p2 : x ≤ 127) (p3 : -128 ≤ y) (p4 : y ≤ 127) :
    Calls Tryd.prog 24 #[.agg #[.int .u8 a, .int .i8 c], .agg #[.int .u8 b, .int .i8 d], .agg #[.int .i8 x, .int .i8 y]] w fun e w' => e = .returned (.bool true) ∧ Below w.heap.size w w' := by
  have hT' : ∀ W, Below w.heap.size w W → Tab W := fun W hb => tab_below hT hb
  have HK : Hid (a % 4 = 2) := hk
  clear hk
  have htd : (4 * (d - c)).tdiv 2 = 2 * (d - c) := by rw [show 4 * (d - c) = 2 * (2 * (d - c)) by omega]; exact Int.mul_tdiv_cancel_left _ (by decide)
  go_enter Tryd.func24, Tryd.ntmps24
  go_wp2_with fail
  refine region_free2 6 4 7 24 5 8 24 _ _ (by kernel_rfl) (by kernel_rfl) (by decide) (by kernel_rfl) alloc24 (by kernel_rfl) alloc24 ?_
  simp only [List.take_succ_cons, List.take_zero, List.drop_succ_cons, List.drop_zero]
  repeat (first
    | (refine wpLex_plain (by rfl) (by rfl) (by rfl) (fun K hK => ?_); go_big_quiet_op; refine hK _ ?_; clear hK K)
    | (refine wpLex_call (by rfl) (by rfl) (fun K hK => ?_); go_simp; apply Exists.intro; refine ⟨fun _ => ?_, hK _ ?_⟩; ((first | (go_at_call 20; with_reducible exact Calls.laterL (of_any a c 2 _ a1 a2 c1 c2 HK.out)) | (go_at_call 20; with_reducible exact Calls.laterL (of_any b d _ _ b1 b2 d1 d2 rfl)))); clear hK K)
    | (refine wpLex_new (by rfl) ?_; simp only [Act.put, List.setIfInBounds_toArray, List.set_cons_zero, List.set_cons_succ]))
  refine wpLex_nil ?_
  intro q q2 u hb hk hb2 hk2 hne
  simp only [Act.put, List.setIfInBounds_toArray, List.set_cons_zero, List.set_cons_succ]
  have hne2 : q2 ≠ q := Ne.symm hne
  have e0 : (on u).cell? ⟨q, 0, none⟩ = some (.int .u8 0) := held_cell hk 0
  have e1 : (on u).cell? ⟨q, 1, none⟩ = some (.int .i64 0) := held_cell hk 1
  have f0 : (on u).frozen? ⟨q, 0, none⟩ = false := held_free hk 0
  have f1 : (on u).frozen? ⟨q, 1, none⟩ = false := held_free hk 1
  have e2 : ∀ v v', (((on u).setCell ⟨q, 0, none⟩ v).setCell ⟨q, 1, none⟩ v').cell? ⟨q2, 0, none⟩ = some (.int .u8 0) := fun v v' => held_cell (held_set_other (held_set_other hk2 hne2 _ _) hne2 _ _) 0
  have e3 : ∀ v v', (((on u).setCell ⟨q, 0, none⟩ v).setCell ⟨q, 1, none⟩ v').cell? ⟨q2, 1, none⟩ = some (.int .i64 0) := fun v v' => held_cell (held_set_other (held_set_other hk2 hne2 _ _) hne2 _ _) 1
  have f2 : (on u).frozen? ⟨q2, 0, none⟩ = false := held_free hk2 0
  have f3 : (on u).frozen? ⟨q2, 1, none⟩ = false := held_free hk2 1
  obtain ⟨v, hv, hl, hl2⟩ := stored22 hb hk hb2 hk2 hne (.int .u8 (1 + 2)) (.int .i64 c) (.int .u8 (1 + b % 4)) (.int .i64 d)
  have hv' := hv
  simp only [Int.reduceAdd] at hv
  have E0 : (on v).cell? ⟨q, 0, none⟩ = some (.int .u8 3) := held_cell hl 0
  have E1 : (on v).cell? ⟨q, 1, none⟩ = some (.int .i64 c) := held_cell hl 1
  have E2 : (on v).cell? ⟨q2, 0, none⟩ = some (.int .u8 (1 + b % 4)) := held_cell hl2 0
  have E3 : (on v).cell? ⟨q2, 1, none⟩ = some (.int .i64 d) := held_cell hl2 1
  have F2 : (on v).frozen? ⟨q2, 0, none⟩ = false := held_free hl2 0
  have L2 : ((on v).setCell ⟨q2, 0, none⟩ (.int .u8 3)).heap[q2]? = some (.cells #[.int .u8 3, .int .i64 d] 24) := held_set hl2 0 _
  have L1 : ((on v).setCell ⟨q2, 0, none⟩ (.int .u8 3)).heap[q]? = some (.cells #[.int .u8 3, .int .i64 c] 24) := held_set_other hl hne _ _
  have hw5 : Below w.heap.size w ((on v).setCell ⟨q2, 0, none⟩ (.int .u8 3)) := by
    have hq : w.heap.size ≤ q2 := by have := on_size v; simp at hb2; omega
    refine below_set ?_ hq _
    repeat first | (with_reducible exact Below.refl _ _) | (with_reducible refine below_on ?_ _) | (with_reducible refine below_alloc ?_ _)
  have K0 : ((on v).setCell ⟨q2, 0, none⟩ (.int .u8 3)).cell? ⟨w.heap.size + 1 + 1, 0, none⟩ = some (.int .i8 x) := by
    rw [World.cell?_setCell_far _ _ _ _ (by show q2 ≠ w.heap.size + 1 + 1; simp at hb2; omega)]; simp [go_sem]
  have K1 : ((on v).setCell ⟨q2, 0, none⟩ (.int .u8 3)).cell? ⟨w.heap.size + 1 + 1, 1, none⟩ = some (.int .i8 y) := by
    rw [World.cell?_setCell_far _ _ _ _ (by show q2 ≠ w.heap.size + 1 + 1; simp at hb2; omega)]; simp [go_sem]
  obtain ⟨W5, hW5⟩ : ∃ W5, (on v).setCell ⟨q2, 0, none⟩ (.int .u8 3) = W5 := ⟨_, rfl⟩
  rw [hW5] at L1 L2 hw5 K0 K1
  have E5 : W5.cell? ⟨q, 0, none⟩ = some (.int .u8 3) := held_cell L1 0
  have E6 : W5.cell? ⟨q, 1, none⟩ = some (.int .i64 c) := held_cell L1 1
  have E7 : W5.cell? ⟨q2, 0, none⟩ = some (.int .u8 3) := held_cell L2 0
  have E8 : W5.cell? ⟨q2, 1, none⟩ = some (.int .i64 d) := held_cell L2 1
  clear hl hl2 hne hne2 hb hb2 hk hk2 L1 L2 hv'
  go_wp2_with fail
  clear e0 e1 e2 e3 f0 f1 f2 f3 hv E0 E1 E2 E3 F2 hW5
  go_wp2_with (first | (go_at_call 18; with_reducible refine (point_any _ _ _).mono ?_; rintro e wx ⟨rfl, hx⟩; obtain ⟨ux, rfl⟩ := after hx; clear hx) | fail)
  have hB1m : Below w.heap.size w ((on ux).alloc (.cells #[.int .i64 x, .int .i64 y] 31)) := by
    have bw : Below w.heap.size w W5 := hw5
    repeat first | (with_reducible exact bw) | (with_reducible refine below_on ?_ _) | (with_reducible refine below_alloc ?_ _)
  have E5_ : ((on ux).alloc (.cells #[.int .i64 x, .int .i64 y] 31)).cell? ⟨q, 0, none⟩ = some (.int .u8 3) := by simp [go_sem, E5]
  have E6_ : ((on ux).alloc (.cells #[.int .i64 x, .int .i64 y] 31)).cell? ⟨q, 1, none⟩ = some (.int .i64 c) := by simp [go_sem, E6]
  have E7_ : ((on ux).alloc (.cells #[.int .i64 x, .int .i64 y] 31)).cell? ⟨q2, 0, none⟩ = some (.int .u8 3) := by simp [go_sem, E7]
  have E8_ : ((on ux).alloc (.cells #[.int .i64 x, .int .i64 y] 31)).cell? ⟨q2, 1, none⟩ = some (.int .i64 d) := by simp [go_sem, E8]
  have K0_ : ((on ux).alloc (.cells #[.int .i64 x, .int .i64 y] 31)).cell? ⟨w.heap.size + 1 + 1, 0, none⟩ = some (.int .i8 x) := by simp [go_sem, K0]
  have K1_ : ((on ux).alloc (.cells #[.int .i64 x, .int .i64 y] 31)).cell? ⟨w.heap.size + 1 + 1, 1, none⟩ = some (.int .i8 y) := by simp [go_sem, K1]
  have m0 : ((on ux).alloc (.cells #[.int .i64 x, .int .i64 y] 31)).cell? ⟨(on ux).heap.size, 0, none⟩ = some (.int .i64 x) := by simp [go_sem]
  have m1 : ((on ux).alloc (.cells #[.int .i64 x, .int .i64 y] 31)).cell? ⟨(on ux).heap.size, 1, none⟩ = some (.int .i64 y) := by simp [go_sem]
  clear E5 E6 E7 E8 K0 K1 hw5
  generalize (on ux).alloc (.cells #[.int .i64 x, .int .i64 y] 31) = Wm at *
  generalize (on ux).heap.size = Bm at *
  clear ux
  go_wp2_with (first | (go_at_call 49; with_reducible refine (reflect_ok3 c x y _ (by omega) (by omega) (by omega) (by omega) (by omega) (by omega) (by omega) (by omega) (by omega) (by omega)).mono ?_; rintro e wx ⟨rfl, hx⟩; obtain ⟨ux, rfl⟩ := after hx; clear hx) | fail)
  have hB2n : Below w.heap.size w ((on ux).alloc (.cells #[.int .i64 ((2 * c) - y), .int .i64 ((2 * c) - x)] 31)) := by
    have bw : Below w.heap.size w Wm := hB1m
    repeat first | (with_reducible exact bw) | (with_reducible refine below_on ?_ _) | (with_reducible refine below_alloc ?_ _)
  have E5__ : ((on ux).alloc (.cells #[.int .i64 ((2 * c) - y), .int .i64 ((2 * c) - x)] 31)).cell? ⟨q, 0, none⟩ = some (.int .u8 3) := by simp [go_sem, E5_]
  have E6__ : ((on ux).alloc (.cells #[.int .i64 ((2 * c) - y), .int .i64 ((2 * c) - x)] 31)).cell? ⟨q, 1, none⟩ = some (.int .i64 c) := by simp [go_sem, E6_]
  have E7__ : ((on ux).alloc (.cells #[.int .i64 ((2 * c) - y), .int .i64 ((2 * c) - x)] 31)).cell? ⟨q2, 0, none⟩ = some (.int .u8 3) := by simp [go_sem, E7_]
  have E8__ : ((on ux).alloc (.cells #[.int .i64 ((2 * c) - y), .int .i64 ((2 * c) - x)] 31)).cell? ⟨q2, 1, none⟩ = some (.int .i64 d) := by simp [go_sem, E8_]
  have K0__ : ((on ux).alloc (.cells #[.int .i64 ((2 * c) - y), .int .i64 ((2 * c) - x)] 31)).cell? ⟨w.heap.size + 1 + 1, 0, none⟩ = some (.int .i8 x) := by simp [go_sem, K0_]
  have K1__ : ((on ux).alloc (.cells #[.int .i64 ((2 * c) - y), .int .i64 ((2 * c) - x)] 31)).cell? ⟨w.heap.size + 1 + 1, 1, none⟩ = some (.int .i8 y) := by simp [go_sem, K1_]
  have m0_ : ((on ux).alloc (.cells #[.int .i64 ((2 * c) - y), .int .i64 ((2 * c) - x)] 31)).cell? ⟨Bm, 0, none⟩ = some (.int .i64 x) := by simp [go_sem, m0]
  have m1_ : ((on ux).alloc (.cells #[.int .i64 ((2 * c) - y), .int .i64 ((2 * c) - x)] 31)).cell? ⟨Bm, 1, none⟩ = some (.int .i64 y) := by simp [go_sem, m1]
  have n0 : ((on ux).alloc (.cells #[.int .i64 ((2 * c) - y), .int .i64 ((2 * c) - x)] 31)).cell? ⟨(on ux).heap.size, 0, none⟩ = some (.int .i64 ((2 * c) - y)) := by simp [go_sem]
  have n1 : ((on ux).alloc (.cells #[.int .i64 ((2 * c) - y), .int .i64 ((2 * c) - x)] 31)).cell? ⟨(on ux).heap.size, 1, none⟩ = some (.int .i64 ((2 * c) - x)) := by simp [go_sem]
  clear E5_ E6_ E7_ E8_ K0_ K1_ m0 m1 hB1m
  generalize (on ux).alloc (.cells #[.int .i64 ((2 * c) - y), .int .i64 ((2 * c) - x)] 31) = Wn at *
  generalize (on ux).heap.size = Bn at *
  clear ux
  go_wp2_with (first | (go_at_call 49; with_reducible refine (reflect_ok3 d ((2 * c) - y) ((2 * c) - x) _ (by omega) (by omega) (by omega) (by omega) (by omega) (by omega) (by omega) (by omega) (by omega) (by omega)).mono ?_; rintro e wx ⟨rfl, hx⟩; obtain ⟨ux, rfl⟩ := after hx; clear hx) | fail)
  have hB3o : Below w.heap.size w ((on ux).alloc (.cells #[.int .i64 ((2 * d) - ((2 * c) - x)), .int .i64 ((2 * d) - ((2 * c) - y))] 31)) := by
    have bw : Below w.heap.size w Wn := hB2n
    repeat first | (with_reducible exact bw) | (with_reducible refine below_on ?_ _) | (with_reducible refine below_alloc ?_ _)
  have E5___ : ((on ux).alloc (.cells #[.int .i64 ((2 * d) - ((2 * c) - x)), .int .i64 ((2 * d) - ((2 * c) - y))] 31)).cell? ⟨q, 0, none⟩ = some (.int .u8 3) := by simp [go_sem, E5__]
  have E6___ : ((on ux).alloc (.cells #[.int .i64 ((2 * d) - ((2 * c) - x)), .int .i64 ((2 * d) - ((2 * c) - y))] 31)).cell? ⟨q, 1, none⟩ = some (.int .i64 c) := by simp [go_sem, E6__]
  have E7___ : ((on ux).alloc (.cells #[.int .i64 ((2 * d) - ((2 * c) - x)), .int .i64 ((2 * d) - ((2 * c) - y))] 31)).cell? ⟨q2, 0, none⟩ = some (.int .u8 3) := by simp [go_sem, E7__]
  have E8___ : ((on ux).alloc (.cells #[.int .i64 ((2 * d) - ((2 * c) - x)), .int .i64 ((2 * d) - ((2 * c) - y))] 31)).cell? ⟨q2, 1, none⟩ = some (.int .i64 d) := by simp [go_sem, E8__]
  have K0___ : ((on ux).alloc (.cells #[.int .i64 ((2 * d) - ((2 * c) - x)), .int .i64 ((2 * d) - ((2 * c) - y))] 31)).cell? ⟨w.heap.size + 1 + 1, 0, none⟩ = some (.int .i8 x) := by simp [go_sem, K0__]
  have K1___ : ((on ux).alloc (.cells #[.int .i64 ((2 * d) - ((2 * c) - x)), .int .i64 ((2 * d) - ((2 * c) - y))] 31)).cell? ⟨w.heap.size + 1 + 1, 1, none⟩ = some (.int .i8 y) := by simp [go_sem, K1__]
  have m0__ : ((on ux).alloc (.cells #[.int .i64 ((2 * d) - ((2 * c) - x)), .int .i64 ((2 * d) - ((2 * c) - y))] 31)).cell? ⟨Bm, 0, none⟩ = some (.int .i64 x) := by simp [go_sem, m0_]
  have m1__ : ((on ux).alloc (.cells #[.int .i64 ((2 * d) - ((2 * c) - x)), .int .i64 ((2 * d) - ((2 * c) - y))] 31)).cell? ⟨Bm, 1, none⟩ = some (.int .i64 y) := by simp [go_sem, m1_]
  have n0_ : ((on ux).alloc (.cells #[.int .i64 ((2 * d) - ((2 * c) - x)), .int .i64 ((2 * d) - ((2 * c) - y))] 31)).cell? ⟨Bn, 0, none⟩ = some (.int .i64 ((2 * c) - y)) := by simp [go_sem, n0]
  have n1_ : ((on ux).alloc (.cells #[.int .i64 ((2 * d) - ((2 * c) - x)), .int .i64 ((2 * d) - ((2 * c) - y))] 31)).cell? ⟨Bn, 1, none⟩ = some (.int .i64 ((2 * c) - x)) := by simp [go_sem, n1]
  have o0 : ((on ux).alloc (.cells #[.int .i64 ((2 * d) - ((2 * c) - x)), .int .i64 ((2 * d) - ((2 * c) - y))] 31)).cell? ⟨(on ux).heap.size, 0, none⟩ = some (.int .i64 ((2 * d) - ((2 * c) - x))) := by simp [go_sem]
  have o1 : ((on ux).alloc (.cells #[.int .i64 ((2 * d) - ((2 * c) - x)), .int .i64 ((2 * d) - ((2 * c) - y))] 31)).cell? ⟨(on ux).heap.size, 1, none⟩ = some (.int .i64 ((2 * d) - ((2 * c) - y))) := by simp [go_sem]
  clear E5__ E6__ E7__ E8__ K0__ K1__ m0_ m1_ n0 n1 hB2n
  generalize (on ux).alloc (.cells #[.int .i64 ((2 * d) - ((2 * c) - x)), .int .i64 ((2 * d) - ((2 * c) - y))] 31) = Wo at *
  generalize (on ux).heap.size = Bo at *
  clear ux
  go_wp2_with (first | (go_at_call 17; with_reducible refine (across_3 _).mono ?_; rintro e wx ⟨rfl, rfl⟩) | fail)
  refine region_later (by kernel_rfl) (by kernel_rfl) ?_
  repeat (go_big_quiet_step ((first | (go_at_call 18; with_reducible exact Calls.later (point_any _ _ _)) | (go_at_call 14; with_reducible exact Calls.later (lives_ok _ (hT' _ (by have bw := hB3o; repeat first | (with_reducible exact bw) | (with_reducible refine below_on ?_ _) | (with_reducible refine below_alloc ?_ _))))))))
  try (rw [eqt2]; rotate_left; (first | omega | (simp only [htd]; omega)); rotate_left; (first | omega | (simp only [htd]; omega)))
  repeat (go_big_quiet_step ((first | (go_at_call 18; with_reducible exact Calls.later (point_any _ _ _)) | (go_at_call 14; with_reducible exact Calls.later (lives_ok _ (hT' _ (by have bw := hB3o; repeat first | (with_reducible exact bw) | (with_reducible refine below_on ?_ _) | (with_reducible refine below_alloc ?_ _))))))))
  refine wpQuiet_nil ?_
  rintro _ ⟨u9, rfl⟩
  go_wp2
  go_ret
  exact ⟨rfl, (by
      have bw : Below w.heap.size w Wo := hB3o
      repeat first | (with_reducible exact bw) | (with_reducible refine below_on ?_ _) | (with_reducible refine below_alloc ?_ _))⟩

set_option maxRecDepth 100000 in
set_option maxHeartbeats 8000000 in
theorem twice_4 (a c b d x y : Int) (w : World) (hT : Tab w) (a1 : 0 ≤ a) (a2 : a ≤ 255) (hk : a % 4 = 3) (c1 : -128 ≤ c) (c2 : c ≤ 127) (b1 : 0 ≤ b) (b2 : b ≤ 255) (d1 : -128 ≤ d) (d2 : d ≤ 127) (p1 : -128 ≤ x) (p2 : x ≤ 127) (p3 : -128 ≤ y) (p4 : y ≤ 127) :
    Calls Tryd.prog 24 #[.agg #[.int .u8 a, .int .i8 c], .agg #[.int .u8 b, .int .i8 d], .agg #[.int .i8 x, .int .i8 y]] w fun e w' => e = .returned (.bool true) ∧ Below w.heap.size w w' := by
  have hT' : ∀ W, Below w.heap.size w W → Tab W := fun W hb => tab_below hT hb
  have HK : Hid (a % 4 = 3) := hk
  clear hk
  have htd : (4 * (d - c)).tdiv 2 = 2 * (d - c) := by rw [show 4 * (d - c) = 2 * (2 * (d - c)) by omega]; exact Int.mul_tdiv_cancel_left _ (by decide)
  go_enter Tryd.func24, Tryd.ntmps24
  go_wp2_with fail
  refine region_free2 6 4 7 24 5 8 24 _ _ (by kernel_rfl) (by kernel_rfl) (by decide) (by kernel_rfl) alloc24 (by kernel_rfl) alloc24 ?_
  simp only [List.take_succ_cons, List.take_zero, List.drop_succ_cons, List.drop_zero]
  repeat (first
    | (refine wpLex_plain (by rfl) (by rfl) (by rfl) (fun K hK => ?_); go_big_quiet_op; refine hK _ ?_; clear hK K)
    | (refine wpLex_call (by rfl) (by rfl) (fun K hK => ?_); go_simp; apply Exists.intro; refine ⟨fun _ => ?_, hK _ ?_⟩; ((first | (go_at_call 20; with_reducible exact Calls.laterL (of_any a c 3 _ a1 a2 c1 c2 HK.out)) | (go_at_call 20; with_reducible exact Calls.laterL (of_any b d _ _ b1 b2 d1 d2 rfl)))); clear hK K)
    | (refine wpLex_new (by rfl) ?_; simp only [Act.put, List.setIfInBounds_toArray, List.set_cons_zero, List.set_cons_succ]))
  refine wpLex_nil ?_
  intro q q2 u hb hk hb2 hk2 hne
  simp only [Act.put, List.setIfInBounds_toArray, List.set_cons_zero, List.set_cons_succ]
  have hne2 : q2 ≠ q := Ne.symm hne
  have e0 : (on u).cell? ⟨q, 0, none⟩ = some (.int .u8 0) := held_cell hk 0
  have e1 : (on u).cell? ⟨q, 1, none⟩ = some (.int .i64 0) := held_cell hk 1
  have f0 : (on u).frozen? ⟨q, 0, none⟩ = false := held_free hk 0
  have f1 : (on u).frozen? ⟨q, 1, none⟩ = false := held_free hk 1
  have e2 : ∀ v v', (((on u).setCell ⟨q, 0, none⟩ v).setCell ⟨q, 1, none⟩ v').cell? ⟨q2, 0, none⟩ = some (.int .u8 0) := fun v v' => held_cell (held_set_other (held_set_other hk2 hne2 _ _) hne2 _ _) 0
  have e3 : ∀ v v', (((on u).setCell ⟨q, 0, none⟩ v).setCell ⟨q, 1, none⟩ v').cell? ⟨q2, 1, none⟩ = some (.int .i64 0) := fun v v' => held_cell (held_set_other (held_set_other hk2 hne2 _ _) hne2 _ _) 1
  have f2 : (on u).frozen? ⟨q2, 0, none⟩ = false := held_free hk2 0
  have f3 : (on u).frozen? ⟨q2, 1, none⟩ = false := held_free hk2 1
  obtain ⟨v, hv, hl, hl2⟩ := stored22 hb hk hb2 hk2 hne (.int .u8 (1 + 3)) (.int .i64 c) (.int .u8 (1 + b % 4)) (.int .i64 d)
  have hv' := hv
  simp only [Int.reduceAdd] at hv
  have E0 : (on v).cell? ⟨q, 0, none⟩ = some (.int .u8 4) := held_cell hl 0
  have E1 : (on v).cell? ⟨q, 1, none⟩ = some (.int .i64 c) := held_cell hl 1
  have E2 : (on v).cell? ⟨q2, 0, none⟩ = some (.int .u8 (1 + b % 4)) := held_cell hl2 0
  have E3 : (on v).cell? ⟨q2, 1, none⟩ = some (.int .i64 d) := held_cell hl2 1
  have F2 : (on v).frozen? ⟨q2, 0, none⟩ = false := held_free hl2 0
  have L2 : ((on v).setCell ⟨q2, 0, none⟩ (.int .u8 4)).heap[q2]? = some (.cells #[.int .u8 4, .int .i64 d] 24) := held_set hl2 0 _
  have L1 : ((on v).setCell ⟨q2, 0, none⟩ (.int .u8 4)).heap[q]? = some (.cells #[.int .u8 4, .int .i64 c] 24) := held_set_other hl hne _ _
  have hw5 : Below w.heap.size w ((on v).setCell ⟨q2, 0, none⟩ (.int .u8 4)) := by
    have hq : w.heap.size ≤ q2 := by have := on_size v; simp at hb2; omega
    refine below_set ?_ hq _
    repeat first | (with_reducible exact Below.refl _ _) | (with_reducible refine below_on ?_ _) | (with_reducible refine below_alloc ?_ _)
  have K0 : ((on v).setCell ⟨q2, 0, none⟩ (.int .u8 4)).cell? ⟨w.heap.size + 1 + 1, 0, none⟩ = some (.int .i8 x) := by
    rw [World.cell?_setCell_far _ _ _ _ (by show q2 ≠ w.heap.size + 1 + 1; simp at hb2; omega)]; simp [go_sem]
  have K1 : ((on v).setCell ⟨q2, 0, none⟩ (.int .u8 4)).cell? ⟨w.heap.size + 1 + 1, 1, none⟩ = some (.int .i8 y) := by
    rw [World.cell?_setCell_far _ _ _ _ (by show q2 ≠ w.heap.size + 1 + 1; simp at hb2; omega)]; simp [go_sem]
  obtain ⟨W5, hW5⟩ : ∃ W5, (on v).setCell ⟨q2, 0, none⟩ (.int .u8 4) = W5 := ⟨_, rfl⟩
  rw [hW5] at L1 L2 hw5 K0 K1
  have E5 : W5.cell? ⟨q, 0, none⟩ = some (.int .u8 4) := held_cell L1 0
  have E6 : W5.cell? ⟨q, 1, none⟩ = some (.int .i64 c) := held_cell L1 1
  have E7 : W5.cell? ⟨q2, 0, none⟩ = some (.int .u8 4) := held_cell L2 0
  have E8 : W5.cell? ⟨q2, 1, none⟩ = some (.int .i64 d) := held_cell L2 1
  clear hl hl2 hne hne2 hb hb2 hk hk2 L1 L2 hv'
  go_wp2_with fail
  clear e0 e1 e2 e3 f0 f1 f2 f3 hv E0 E1 E2 E3 F2 hW5
  go_wp2_with (first | (go_at_call 18; with_reducible refine (point_any _ _ _).mono ?_; rintro e wx ⟨rfl, hx⟩; obtain ⟨ux, rfl⟩ := after hx; clear hx) | fail)
  have hB1m : Below w.heap.size w ((on ux).alloc (.cells #[.int .i64 x, .int .i64 y] 31)) := by
    have bw : Below w.heap.size w W5 := hw5
    repeat first | (with_reducible exact bw) | (with_reducible refine below_on ?_ _) | (with_reducible refine below_alloc ?_ _)
  have E5_ : ((on ux).alloc (.cells #[.int .i64 x, .int .i64 y] 31)).cell? ⟨q, 0, none⟩ = some (.int .u8 4) := by simp [go_sem, E5]
  have E6_ : ((on ux).alloc (.cells #[.int .i64 x, .int .i64 y] 31)).cell? ⟨q, 1, none⟩ = some (.int .i64 c) := by simp [go_sem, E6]
  have E7_ : ((on ux).alloc (.cells #[.int .i64 x, .int .i64 y] 31)).cell? ⟨q2, 0, none⟩ = some (.int .u8 4) := by simp [go_sem, E7]
  have E8_ : ((on ux).alloc (.cells #[.int .i64 x, .int .i64 y] 31)).cell? ⟨q2, 1, none⟩ = some (.int .i64 d) := by simp [go_sem, E8]
  have K0_ : ((on ux).alloc (.cells #[.int .i64 x, .int .i64 y] 31)).cell? ⟨w.heap.size + 1 + 1, 0, none⟩ = some (.int .i8 x) := by simp [go_sem, K0]
  have K1_ : ((on ux).alloc (.cells #[.int .i64 x, .int .i64 y] 31)).cell? ⟨w.heap.size + 1 + 1, 1, none⟩ = some (.int .i8 y) := by simp [go_sem, K1]
  have m0 : ((on ux).alloc (.cells #[.int .i64 x, .int .i64 y] 31)).cell? ⟨(on ux).heap.size, 0, none⟩ = some (.int .i64 x) := by simp [go_sem]
  have m1 : ((on ux).alloc (.cells #[.int .i64 x, .int .i64 y] 31)).cell? ⟨(on ux).heap.size, 1, none⟩ = some (.int .i64 y) := by simp [go_sem]
  clear E5 E6 E7 E8 K0 K1 hw5
  generalize (on ux).alloc (.cells #[.int .i64 x, .int .i64 y] 31) = Wm at *
  generalize (on ux).heap.size = Bm at *
  clear ux
  go_wp2_with (first | (go_at_call 49; with_reducible refine (reflect_ok4 c x y _ (by omega) (by omega) (by omega) (by omega) (by omega) (by omega) (by omega) (by omega) (by omega) (by omega)).mono ?_; rintro e wx ⟨rfl, hx⟩; obtain ⟨ux, rfl⟩ := after hx; clear hx) | fail)
  have hB2n : Below w.heap.size w ((on ux).alloc (.cells #[.int .i64 (y - (2 * c)), .int .i64 (x + (2 * c))] 31)) := by
    have bw : Below w.heap.size w Wm := hB1m
    repeat first | (with_reducible exact bw) | (with_reducible refine below_on ?_ _) | (with_reducible refine below_alloc ?_ _)
  have E5__ : ((on ux).alloc (.cells #[.int .i64 (y - (2 * c)), .int .i64 (x + (2 * c))] 31)).cell? ⟨q, 0, none⟩ = some (.int .u8 4) := by simp [go_sem, E5_]
  have E6__ : ((on ux).alloc (.cells #[.int .i64 (y - (2 * c)), .int .i64 (x + (2 * c))] 31)).cell? ⟨q, 1, none⟩ = some (.int .i64 c) := by simp [go_sem, E6_]
  have E7__ : ((on ux).alloc (.cells #[.int .i64 (y - (2 * c)), .int .i64 (x + (2 * c))] 31)).cell? ⟨q2, 0, none⟩ = some (.int .u8 4) := by simp [go_sem, E7_]
  have E8__ : ((on ux).alloc (.cells #[.int .i64 (y - (2 * c)), .int .i64 (x + (2 * c))] 31)).cell? ⟨q2, 1, none⟩ = some (.int .i64 d) := by simp [go_sem, E8_]
  have K0__ : ((on ux).alloc (.cells #[.int .i64 (y - (2 * c)), .int .i64 (x + (2 * c))] 31)).cell? ⟨w.heap.size + 1 + 1, 0, none⟩ = some (.int .i8 x) := by simp [go_sem, K0_]
  have K1__ : ((on ux).alloc (.cells #[.int .i64 (y - (2 * c)), .int .i64 (x + (2 * c))] 31)).cell? ⟨w.heap.size + 1 + 1, 1, none⟩ = some (.int .i8 y) := by simp [go_sem, K1_]
  have m0_ : ((on ux).alloc (.cells #[.int .i64 (y - (2 * c)), .int .i64 (x + (2 * c))] 31)).cell? ⟨Bm, 0, none⟩ = some (.int .i64 x) := by simp [go_sem, m0]
  have m1_ : ((on ux).alloc (.cells #[.int .i64 (y - (2 * c)), .int .i64 (x + (2 * c))] 31)).cell? ⟨Bm, 1, none⟩ = some (.int .i64 y) := by simp [go_sem, m1]
  have n0 : ((on ux).alloc (.cells #[.int .i64 (y - (2 * c)), .int .i64 (x + (2 * c))] 31)).cell? ⟨(on ux).heap.size, 0, none⟩ = some (.int .i64 (y - (2 * c))) := by simp [go_sem]
  have n1 : ((on ux).alloc (.cells #[.int .i64 (y - (2 * c)), .int .i64 (x + (2 * c))] 31)).cell? ⟨(on ux).heap.size, 1, none⟩ = some (.int .i64 (x + (2 * c))) := by simp [go_sem]
  clear E5_ E6_ E7_ E8_ K0_ K1_ m0 m1 hB1m
  generalize (on ux).alloc (.cells #[.int .i64 (y - (2 * c)), .int .i64 (x + (2 * c))] 31) = Wn at *
  generalize (on ux).heap.size = Bn at *
  clear ux
  go_wp2_with (first | (go_at_call 49; with_reducible refine (reflect_ok4 d (y - (2 * c)) (x + (2 * c)) _ (by omega) (by omega) (by omega) (by omega) (by omega) (by omega) (by omega) (by omega) (by omega) (by omega)).mono ?_; rintro e wx ⟨rfl, hx⟩; obtain ⟨ux, rfl⟩ := after hx; clear hx) | fail)
  have hB3o : Below w.heap.size w ((on ux).alloc (.cells #[.int .i64 ((x + (2 * c)) - (2 * d)), .int .i64 ((y - (2 * c)) + (2 * d))] 31)) := by
    have bw : Below w.heap.size w Wn := hB2n
    repeat first | (with_reducible exact bw) | (with_reducible refine below_on ?_ _) | (with_reducible refine below_alloc ?_ _)
  have E5___ : ((on ux).alloc (.cells #[.int .i64 ((x + (2 * c)) - (2 * d)), .int .i64 ((y - (2 * c)) + (2 * d))] 31)).cell? ⟨q, 0, none⟩ = some (.int .u8 4) := by simp [go_sem, E5__]
  have E6___ : ((on ux).alloc (.cells #[.int .i64 ((x + (2 * c)) - (2 * d)), .int .i64 ((y - (2 * c)) + (2 * d))] 31)).cell? ⟨q, 1, none⟩ = some (.int .i64 c) := by simp [go_sem, E6__]
  have E7___ : ((on ux).alloc (.cells #[.int .i64 ((x + (2 * c)) - (2 * d)), .int .i64 ((y - (2 * c)) + (2 * d))] 31)).cell? ⟨q2, 0, none⟩ = some (.int .u8 4) := by simp [go_sem, E7__]
  have E8___ : ((on ux).alloc (.cells #[.int .i64 ((x + (2 * c)) - (2 * d)), .int .i64 ((y - (2 * c)) + (2 * d))] 31)).cell? ⟨q2, 1, none⟩ = some (.int .i64 d) := by simp [go_sem, E8__]
  have K0___ : ((on ux).alloc (.cells #[.int .i64 ((x + (2 * c)) - (2 * d)), .int .i64 ((y - (2 * c)) + (2 * d))] 31)).cell? ⟨w.heap.size + 1 + 1, 0, none⟩ = some (.int .i8 x) := by simp [go_sem, K0__]
  have K1___ : ((on ux).alloc (.cells #[.int .i64 ((x + (2 * c)) - (2 * d)), .int .i64 ((y - (2 * c)) + (2 * d))] 31)).cell? ⟨w.heap.size + 1 + 1, 1, none⟩ = some (.int .i8 y) := by simp [go_sem, K1__]
  have m0__ : ((on ux).alloc (.cells #[.int .i64 ((x + (2 * c)) - (2 * d)), .int .i64 ((y - (2 * c)) + (2 * d))] 31)).cell? ⟨Bm, 0, none⟩ = some (.int .i64 x) := by simp [go_sem, m0_]
  have m1__ : ((on ux).alloc (.cells #[.int .i64 ((x + (2 * c)) - (2 * d)), .int .i64 ((y - (2 * c)) + (2 * d))] 31)).cell? ⟨Bm, 1, none⟩ = some (.int .i64 y) := by simp [go_sem, m1_]
  have n0_ : ((on ux).alloc (.cells #[.int .i64 ((x + (2 * c)) - (2 * d)), .int .i64 ((y - (2 * c)) + (2 * d))] 31)).cell? ⟨Bn, 0, none⟩ = some (.int .i64 (y - (2 * c))) := by simp [go_sem, n0]
  have n1_ : ((on ux).alloc (.cells #[.int .i64 ((x + (2 * c)) - (2 * d)), .int .i64 ((y - (2 * c)) + (2 * d))] 31)).cell? ⟨Bn, 1, none⟩ = some (.int .i64 (x + (2 * c))) := by simp [go_sem, n1]
  have o0 : ((on ux).alloc (.cells #[.int .i64 ((x + (2 * c)) - (2 * d)), .int .i64 ((y - (2 * c)) + (2 * d))] 31)).cell? ⟨(on ux).heap.size, 0, none⟩ = some (.int .i64 ((x + (2 * c)) - (2 * d))) := by simp [go_sem]
  have o1 : ((on ux).alloc (.cells #[.int .i64 ((x + (2 * c)) - (2 * d)), .int .i64 ((y - (2 * c)) + (2 * d))] 31)).cell? ⟨(on ux).heap.size, 1, none⟩ = some (.int .i64 ((y - (2 * c)) + (2 * d))) := by simp [go_sem]
  clear E5__ E6__ E7__ E8__ K0__ K1__ m0_ m1_ n0 n1 hB2n
  generalize (on ux).alloc (.cells #[.int .i64 ((x + (2 * c)) - (2 * d)), .int .i64 ((y - (2 * c)) + (2 * d))] 31) = Wo at *
  generalize (on ux).heap.size = Bo at *
  clear ux
  go_wp2_with (first | (go_at_call 17; with_reducible refine (across_4 _).mono ?_; rintro e wx ⟨rfl, rfl⟩) | fail)
  refine region_later (by kernel_rfl) (by kernel_rfl) ?_
  repeat (go_big_quiet_step ((first | (go_at_call 18; with_reducible exact Calls.later (point_any _ _ _)) | (go_at_call 14; with_reducible exact Calls.later (lives_ok _ (hT' _ (by have bw := hB3o; repeat first | (with_reducible exact bw) | (with_reducible refine below_on ?_ _) | (with_reducible refine below_alloc ?_ _))))))))
  try (rw [eqt2]; rotate_left; (first | omega | (simp only [htd]; omega)); rotate_left; (first | omega | (simp only [htd]; omega)))
  repeat (go_big_quiet_step ((first | (go_at_call 18; with_reducible exact Calls.later (point_any _ _ _)) | (go_at_call 14; with_reducible exact Calls.later (lives_ok _ (hT' _ (by have bw := hB3o; repeat first | (with_reducible exact bw) | (with_reducible refine below_on ?_ _) | (with_reducible refine below_alloc ?_ _))))))))
  refine wpQuiet_nil ?_
  rintro _ ⟨u9, rfl⟩
  go_wp2
  go_ret
  exact ⟨rfl, (by
      have bw : Below w.heap.size w Wo := hB3o
      repeat first | (with_reducible exact bw) | (with_reducible refine below_on ?_ _) | (with_reducible refine below_alloc ?_ _))⟩

theorem twice_law (a c b d x y : Int) (w : World) (hT : Tab w) (a1 : 0 ≤ a) (a2 : a ≤ 255) (c1 : -128 ≤ c) (c2 : c ≤ 127) (b1 : 0 ≤ b) (b2 : b ≤ 255) (d1 : -128 ≤ d) (d2 : d ≤ 127) (p1 : -128 ≤ x) (p2 : x ≤ 127) (p3 : -128 ≤ y) (p4 : y ≤ 127) :
    Calls Tryd.prog 24 #[.agg #[.int .u8 a, .int .i8 c], .agg #[.int .u8 b, .int .i8 d], .agg #[.int .i8 x, .int .i8 y]] w fun e w' => e = .returned (.bool true) ∧ Below w.heap.size w w' := by
  obtain h | h | h | h : a % 4 = 0 ∨ a % 4 = 1 ∨ a % 4 = 2 ∨ a % 4 = 3 := by omega
  · exact twice_1 a c b d x y w hT a1 a2 h c1 c2 b1 b2 d1 d2 p1 p2 p3 p4
  · exact twice_2 a c b d x y w hT a1 a2 h c1 c2 b1 b2 d1 d2 p1 p2 p3 p4
  · exact twice_3 a c b d x y w hT a1 a2 h c1 c2 b1 b2 d1 d2 p1 p2 p3 p4
  · exact twice_4 a c b d x y w hT a1 a2 h c1 c2 b1 b2 d1 d2 p1 p2 p3 p4

end Go.Proofs.YtbcmfenekpllhaaDoor
