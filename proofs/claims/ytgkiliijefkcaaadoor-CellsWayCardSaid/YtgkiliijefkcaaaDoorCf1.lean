/-
  Says: the tables of package cells; which corners cornersOf gives.
-/
import Derived.Test.YtgkiliijefkcaaaDoorCm0
import Derived.Test.YtgkiliijefkcaaaDoorMv6
import Derived.Test.YtgkiliijefkcaaaDoorMv5
import Derived.Test.YtgkiliijefkcaaaDoorMvz
import Derived.Deep.RegionHeld3
import Derived.RowKit3
set_option linter.unusedVariables false
set_option linter.unusedSimpArgs false
namespace Go.Proofs.YtgkiliijefkcaaaDoor
open Go Go.RowKit

attribute [local go_sem] World.cell?_alloc_some frozen?_alloc_cells fz0 fz1 fz2 fz3 fz4 fz5

abbrev cl (x y q : Int) : Value := .agg #[.int .i64 x, .int .i64 y, .int .u8 q]
def cornersL : List Int := [1, 1, 0, 0, 2, 0, 1, 1, 2, 2, 2, 0, 1, 1, 2, 2, 0, 2, 1, 1, 0, 0, 0, 2]
def neiL : List Value := [.int .i64 0, .int .i64 (-1), .int .u8 2, .int .i64 0, .int .i64 0, .int .u8 1, .int .i64 0, .int .i64 0, .int .u8 3, .int .i64 1, .int .i64 0, .int .u8 3, .int .i64 0, .int .i64 0, .int .u8 0, .int .i64 0, .int .i64 0, .int .u8 2, .int .i64 0, .int .i64 1, .int .u8 0, .int .i64 0, .int .i64 0, .int .u8 3, .int .i64 0, .int .i64 0, .int .u8 1, .int .i64 (-1), .int .i64 0, .int .u8 1, .int .i64 0, .int .i64 0, .int .u8 2, .int .i64 0, .int .i64 0, .int .u8 0]
/-- The package's tables are as their initialisers laid them. -/
structure Lay (w : World) : Prop where
  turns : Turns w
  cor : ∀ i < 24, w.cell? ⟨0, i, none⟩ = some (.int .i64 (cornersL.getD i 0))
  nei : ∀ i < 36, w.cell? ⟨1, i, none⟩ = some (neiL.getD i undef)
theorem lay_below {w w' : World} (h : Lay w) (hb : Below w.heap.size w w') : Lay w' :=
  ⟨turns_below h.turns hb, fun i hi => (hb.cell (World.block_lt_of_cell? _ _ (h.cor i hi))).trans (h.cor i hi), fun i hi => (hb.cell (World.block_lt_of_cell? _ _ (h.nei i hi))).trans (h.nei i hi)⟩
theorem stored1 {W : World} {u : Later W} {b : Nat} {cs : Array Value} {t : TypeId} (hb : W.heap.size ≤ b) (h : (on u).heap[b]? = some (.cells cs t)) (j : Nat) (v : Value) :
    ∃ u' : Later W, (on u).setCell ⟨b, j, none⟩ v = on u' ∧ (on u').heap[b]? = some (.cells (cs.setIfInBounds j v) t) :=
  ⟨⟨_, u.b.setCell (p := ⟨b, j, none⟩) hb v⟩, rfl, held_set h j v⟩
/-- Two worlds, one later than the other one. -/
def thn {W : World} (u : Later W) (v : Later (on u)) : Later W := ⟨v.w, u.b.trans (v.b.mono u.b.size)⟩
theorem thn_on {W : World} (u : Later W) (v : Later (on u)) : on v = on (thn u v) := rfl
theorem al2 {w : World} {a : Addr} {v : Value} (h : w.cell? a = some v) : ∀ o1 o2, ((w.alloc o1).alloc o2).cell? a = some v := fun _ _ => al1 (al1 h _) _

set_option maxRecDepth 100000 in
set_option maxHeartbeats 2000000 in
theorem corner_0 (x y : Int) (w : World) (hL : Lay w) (x1 : -100000 ≤ x) (x2 : x ≤ 100000) (y1 : -100000 ≤ y) (y2 : y ≤ 100000) : Calls Tryd.prog 43 #[cl x y 0] w fun e w' => e = .returned (.agg #[.int .i64 (1 + 2 * x), .int .i64 (1 + 2 * y), .int .i64 (2 * x), .int .i64 (2 * y), .int .i64 (2 + 2 * x), .int .i64 (2 * y)]) ∧ Below w.heap.size w w' := by
  have g0 : ∀ o1 o2, ((w.alloc o1).alloc o2).cell? ⟨0, 0, none⟩ = some (.int .i64 1) := al2 (hL.cor 0 (by decide))
  have g1 : ∀ o1 o2, ((w.alloc o1).alloc o2).cell? ⟨0, 1, none⟩ = some (.int .i64 1) := al2 (hL.cor 1 (by decide))
  have g2 : ∀ o1 o2, ((w.alloc o1).alloc o2).cell? ⟨0, 2, none⟩ = some (.int .i64 0) := al2 (hL.cor 2 (by decide))
  have g3 : ∀ o1 o2, ((w.alloc o1).alloc o2).cell? ⟨0, 3, none⟩ = some (.int .i64 0) := al2 (hL.cor 3 (by decide))
  have g4 : ∀ o1 o2, ((w.alloc o1).alloc o2).cell? ⟨0, 4, none⟩ = some (.int .i64 2) := al2 (hL.cor 4 (by decide))
  have g5 : ∀ o1 o2, ((w.alloc o1).alloc o2).cell? ⟨0, 5, none⟩ = some (.int .i64 0) := al2 (hL.cor 5 (by decide))
  go_enter Tryd.func43, Tryd.ntmps43
  go_wp2_with fail
  clear g0 g1 g2 g3 g4 g5
  go_loopw [9] (fun iv wr => ∃ i : Int, iv = .int .i64 i ∧ ∃ u : Later ((w.alloc (.cells #[.int .i64 x, .int .i64 y, .int .u8 0] 23)).alloc (.cells #[.int .i64 0, .int .i64 0, .int .i64 0, .int .i64 0, .int .i64 0, .int .i64 0] 32)), wr = on u ∧ ((i = 0 ∧ (on u).heap[w.heap.size + 1 + 1]? = some (.cells #[.int .i64 1, .int .i64 1, .int .i64 0, .int .i64 0, .int .i64 2, .int .i64 0] 32)) ∨ (i = 1 ∧ (on u).heap[w.heap.size + 1 + 1]? = some (.cells #[.int .i64 (1 + 2 * x), .int .i64 (1 + 2 * y), .int .i64 0, .int .i64 0, .int .i64 2, .int .i64 0] 32)) ∨ (i = 2 ∧ (on u).heap[w.heap.size + 1 + 1]? = some (.cells #[.int .i64 (1 + 2 * x), .int .i64 (1 + 2 * y), .int .i64 (2 * x), .int .i64 (2 * y), .int .i64 2, .int .i64 0] 32)) ∨ (i = 3 ∧ (on u).heap[w.heap.size + 1 + 1]? = some (.cells #[.int .i64 (1 + 2 * x), .int .i64 (1 + 2 * y), .int .i64 (2 * x), .int .i64 (2 * y), .int .i64 (2 + 2 * x), .int .i64 (2 * y)] 32)))) (fun iv _ => (3 - intOf iv).toNat)
  case atStart => exact ⟨0, rfl, ⟨_, below_alloc (Below.refl _ _) _⟩, rfl, .inl ⟨rfl, by rw [show w.heap.size + 1 + 1 = ((w.alloc (.cells #[.int .i64 x, .int .i64 y, .int .u8 0] 23)).alloc (.cells #[.int .i64 0, .int .i64 0, .int .i64 0, .int .i64 0, .int .i64 0, .int .i64 0] 32)).heap.size by simp]; exact heap_alloc_new _ _⟩⟩
  case round =>
    obtain ⟨i, rfl, u0, rfl, hi⟩ := hrel
    have hB : ((w.alloc (.cells #[.int .i64 x, .int .i64 y, .int .u8 0] 23)).alloc (.cells #[.int .i64 0, .int .i64 0, .int .i64 0, .int .i64 0, .int .i64 0, .int .i64 0] 32)).heap.size ≤ w.heap.size + 1 + 1 := by simp
    have hq : Below w.heap.size w (on u0) := below_on (below_alloc (below_alloc (Below.refl _ _) _) _) u0
    obtain ⟨rfl, hh⟩ | ⟨rfl, hh⟩ | ⟨rfl, hh⟩ | ⟨rfl, hh⟩ := hi
    · have d0 : (on u0).cell? ⟨w.heap.size + 1 + 1, 0, none⟩ = some (.int .i64 (1)) := held_cell hh 0
      have d1 : (on u0).cell? ⟨w.heap.size + 1 + 1, 1, none⟩ = some (.int .i64 (1)) := held_cell hh 1
      go_wp2_with fail
      refine region_tail 10 (by kernel_rfl) (by kernel_rfl) ?_
      simp only [List.take_succ_cons, List.take_zero, List.drop_succ_cons, List.drop_zero]
      repeat (first
        | (refine wpLex_plain (by rfl) (by rfl) (by rfl) (fun K hK => ?_); go_big_quiet_op; refine hK _ ?_; clear hK K)
        | (refine wpLex_call (by rfl) (by rfl) (fun K hK => ?_); go_simp; apply Exists.intro; refine ⟨fun _ => ?_, hK _ ?_⟩; ((fail)); clear hK K)
        | (refine wpLex_new (by rfl) ?_; simp only [Act.put, List.setIfInBounds_toArray, List.set_cons_zero, List.set_cons_succ]))
      refine wpLex_nil ?_
      intro u9
      have m := held_on u9 hh
      have f0 : (on u9).frozen? ⟨w.heap.size + 1 + 1, 0, none⟩ = false := held_free m 0
      have e0 : (on u9).cell? ⟨w.heap.size + 1 + 1, 0, none⟩ = some (.int .i64 (1)) := held_cell m 0
      go_wp2_with fail
      obtain ⟨p, hp, hh2⟩ := stored1 (u := thn u0 u9) hB m 0 (.int .i64 (1 + 2 * x))
      rw [show on u9 = on (thn u0 u9) from rfl, hp]
      clear hp f0 e0 m d0 d1 hh hq
      have hq : Below w.heap.size w (on p) := below_on (below_alloc (below_alloc (Below.refl _ _) _) _) p
      have d0 : (on p).cell? ⟨w.heap.size + 1 + 1, 0, none⟩ = some (.int .i64 (1 + 2 * x)) := held_cell hh2 0
      have d1 : (on p).cell? ⟨w.heap.size + 1 + 1, 1, none⟩ = some (.int .i64 (1)) := held_cell hh2 1
      refine region_tail 10 (by kernel_rfl) (by kernel_rfl) ?_
      simp only [List.take_succ_cons, List.take_zero, List.drop_succ_cons, List.drop_zero]
      repeat (first
        | (refine wpLex_plain (by rfl) (by rfl) (by rfl) (fun K hK => ?_); go_big_quiet_op; refine hK _ ?_; clear hK K)
        | (refine wpLex_call (by rfl) (by rfl) (fun K hK => ?_); go_simp; apply Exists.intro; refine ⟨fun _ => ?_, hK _ ?_⟩; ((fail)); clear hK K)
        | (refine wpLex_new (by rfl) ?_; simp only [Act.put, List.setIfInBounds_toArray, List.set_cons_zero, List.set_cons_succ]))
      refine wpLex_nil ?_
      intro u9
      have m := held_on u9 hh2
      have f0 : (on u9).frozen? ⟨w.heap.size + 1 + 1, 1, none⟩ = false := held_free m 1
      have e0 : (on u9).cell? ⟨w.heap.size + 1 + 1, 1, none⟩ = some (.int .i64 (1)) := held_cell m 1
      go_wp2_with fail
      obtain ⟨p2, hp, hh3⟩ := stored1 (u := thn p u9) hB m 1 (.int .i64 (1 + 2 * y))
      rw [show on u9 = on (thn p u9) from rfl, hp]
      exact ⟨⟨0 + 1, rfl, p2, rfl, .inr (.inl ⟨rfl, hh3⟩)⟩, by simp [intOf]⟩
    · have d2 : (on u0).cell? ⟨w.heap.size + 1 + 1, 2, none⟩ = some (.int .i64 (0)) := held_cell hh 2
      have d3 : (on u0).cell? ⟨w.heap.size + 1 + 1, 3, none⟩ = some (.int .i64 (0)) := held_cell hh 3
      go_wp2_with fail
      refine region_tail 10 (by kernel_rfl) (by kernel_rfl) ?_
      simp only [List.take_succ_cons, List.take_zero, List.drop_succ_cons, List.drop_zero]
      repeat (first
        | (refine wpLex_plain (by rfl) (by rfl) (by rfl) (fun K hK => ?_); go_big_quiet_op; refine hK _ ?_; clear hK K)
        | (refine wpLex_call (by rfl) (by rfl) (fun K hK => ?_); go_simp; apply Exists.intro; refine ⟨fun _ => ?_, hK _ ?_⟩; ((fail)); clear hK K)
        | (refine wpLex_new (by rfl) ?_; simp only [Act.put, List.setIfInBounds_toArray, List.set_cons_zero, List.set_cons_succ]))
      refine wpLex_nil ?_
      intro u9
      have m := held_on u9 hh
      have f0 : (on u9).frozen? ⟨w.heap.size + 1 + 1, 2, none⟩ = false := held_free m 2
      have e0 : (on u9).cell? ⟨w.heap.size + 1 + 1, 2, none⟩ = some (.int .i64 (0)) := held_cell m 2
      go_wp2_with fail
      obtain ⟨p, hp, hh2⟩ := stored1 (u := thn u0 u9) hB m 2 (.int .i64 (2 * x))
      rw [show on u9 = on (thn u0 u9) from rfl, hp]
      clear hp f0 e0 m d2 d3 hh hq
      have hq : Below w.heap.size w (on p) := below_on (below_alloc (below_alloc (Below.refl _ _) _) _) p
      have d2 : (on p).cell? ⟨w.heap.size + 1 + 1, 2, none⟩ = some (.int .i64 (2 * x)) := held_cell hh2 2
      have d3 : (on p).cell? ⟨w.heap.size + 1 + 1, 3, none⟩ = some (.int .i64 (0)) := held_cell hh2 3
      refine region_tail 10 (by kernel_rfl) (by kernel_rfl) ?_
      simp only [List.take_succ_cons, List.take_zero, List.drop_succ_cons, List.drop_zero]
      repeat (first
        | (refine wpLex_plain (by rfl) (by rfl) (by rfl) (fun K hK => ?_); go_big_quiet_op; refine hK _ ?_; clear hK K)
        | (refine wpLex_call (by rfl) (by rfl) (fun K hK => ?_); go_simp; apply Exists.intro; refine ⟨fun _ => ?_, hK _ ?_⟩; ((fail)); clear hK K)
        | (refine wpLex_new (by rfl) ?_; simp only [Act.put, List.setIfInBounds_toArray, List.set_cons_zero, List.set_cons_succ]))
      refine wpLex_nil ?_
      intro u9
      have m := held_on u9 hh2
      have f0 : (on u9).frozen? ⟨w.heap.size + 1 + 1, 3, none⟩ = false := held_free m 3
      have e0 : (on u9).cell? ⟨w.heap.size + 1 + 1, 3, none⟩ = some (.int .i64 (0)) := held_cell m 3
      go_wp2_with fail
      obtain ⟨p2, hp, hh3⟩ := stored1 (u := thn p u9) hB m 3 (.int .i64 (2 * y))
      rw [show on u9 = on (thn p u9) from rfl, hp]
      exact ⟨⟨1 + 1, rfl, p2, rfl, .inr (.inr (.inl ⟨rfl, hh3⟩))⟩, by simp [intOf]⟩
    · have d4 : (on u0).cell? ⟨w.heap.size + 1 + 1, 4, none⟩ = some (.int .i64 (2)) := held_cell hh 4
      have d5 : (on u0).cell? ⟨w.heap.size + 1 + 1, 5, none⟩ = some (.int .i64 (0)) := held_cell hh 5
      go_wp2_with fail
      refine region_tail 10 (by kernel_rfl) (by kernel_rfl) ?_
      simp only [List.take_succ_cons, List.take_zero, List.drop_succ_cons, List.drop_zero]
      repeat (first
        | (refine wpLex_plain (by rfl) (by rfl) (by rfl) (fun K hK => ?_); go_big_quiet_op; refine hK _ ?_; clear hK K)
        | (refine wpLex_call (by rfl) (by rfl) (fun K hK => ?_); go_simp; apply Exists.intro; refine ⟨fun _ => ?_, hK _ ?_⟩; ((fail)); clear hK K)
        | (refine wpLex_new (by rfl) ?_; simp only [Act.put, List.setIfInBounds_toArray, List.set_cons_zero, List.set_cons_succ]))
      refine wpLex_nil ?_
      intro u9
      have m := held_on u9 hh
      have f0 : (on u9).frozen? ⟨w.heap.size + 1 + 1, 4, none⟩ = false := held_free m 4
      have e0 : (on u9).cell? ⟨w.heap.size + 1 + 1, 4, none⟩ = some (.int .i64 (2)) := held_cell m 4
      go_wp2_with fail
      obtain ⟨p, hp, hh2⟩ := stored1 (u := thn u0 u9) hB m 4 (.int .i64 (2 + 2 * x))
      rw [show on u9 = on (thn u0 u9) from rfl, hp]
      clear hp f0 e0 m d4 d5 hh hq
      have hq : Below w.heap.size w (on p) := below_on (below_alloc (below_alloc (Below.refl _ _) _) _) p
      have d4 : (on p).cell? ⟨w.heap.size + 1 + 1, 4, none⟩ = some (.int .i64 (2 + 2 * x)) := held_cell hh2 4
      have d5 : (on p).cell? ⟨w.heap.size + 1 + 1, 5, none⟩ = some (.int .i64 (0)) := held_cell hh2 5
      refine region_tail 10 (by kernel_rfl) (by kernel_rfl) ?_
      simp only [List.take_succ_cons, List.take_zero, List.drop_succ_cons, List.drop_zero]
      repeat (first
        | (refine wpLex_plain (by rfl) (by rfl) (by rfl) (fun K hK => ?_); go_big_quiet_op; refine hK _ ?_; clear hK K)
        | (refine wpLex_call (by rfl) (by rfl) (fun K hK => ?_); go_simp; apply Exists.intro; refine ⟨fun _ => ?_, hK _ ?_⟩; ((fail)); clear hK K)
        | (refine wpLex_new (by rfl) ?_; simp only [Act.put, List.setIfInBounds_toArray, List.set_cons_zero, List.set_cons_succ]))
      refine wpLex_nil ?_
      intro u9
      have m := held_on u9 hh2
      have f0 : (on u9).frozen? ⟨w.heap.size + 1 + 1, 5, none⟩ = false := held_free m 5
      have e0 : (on u9).cell? ⟨w.heap.size + 1 + 1, 5, none⟩ = some (.int .i64 (0)) := held_cell m 5
      go_wp2_with fail
      obtain ⟨p2, hp, hh3⟩ := stored1 (u := thn p u9) hB m 5 (.int .i64 (2 * y))
      rw [show on u9 = on (thn p u9) from rfl, hp]
      exact ⟨⟨2 + 1, rfl, p2, rfl, .inr (.inr (.inr (⟨rfl, hh3⟩)))⟩, by simp [intOf]⟩
    · have d0 : (on u0).cell? ⟨w.heap.size + 1 + 1, 0, none⟩ = some (.int .i64 (1 + 2 * x)) := held_cell hh 0
      have d1 : (on u0).cell? ⟨w.heap.size + 1 + 1, 1, none⟩ = some (.int .i64 (1 + 2 * y)) := held_cell hh 1
      have d2 : (on u0).cell? ⟨w.heap.size + 1 + 1, 2, none⟩ = some (.int .i64 (2 * x)) := held_cell hh 2
      have d3 : (on u0).cell? ⟨w.heap.size + 1 + 1, 3, none⟩ = some (.int .i64 (2 * y)) := held_cell hh 3
      have d4 : (on u0).cell? ⟨w.heap.size + 1 + 1, 4, none⟩ = some (.int .i64 (2 + 2 * x)) := held_cell hh 4
      have d5 : (on u0).cell? ⟨w.heap.size + 1 + 1, 5, none⟩ = some (.int .i64 (2 * y)) := held_cell hh 5
      go_wp2_with fail
      exact bodyPost_ret (v := .agg #[.int .i64 (1 + 2 * x), .int .i64 (1 + 2 * y), .int .i64 (2 * x), .int .i64 (2 * y), .int .i64 (2 + 2 * x), .int .i64 (2 * y)]) (by simp [results, Tryd.results43, go_sem, d0, d1, d2, d3, d4, d5]) rfl ⟨rfl, (by repeat first | (with_reducible exact hq) | (with_reducible refine below_on ?_ _) | (with_reducible refine below_alloc ?_ _) | (with_reducible refine below_set ?_ (by simp; try omega) _))⟩

set_option maxRecDepth 100000 in
set_option maxHeartbeats 2000000 in
theorem corner_1 (x y : Int) (w : World) (hL : Lay w) (x1 : -100000 ≤ x) (x2 : x ≤ 100000) (y1 : -100000 ≤ y) (y2 : y ≤ 100000) : Calls Tryd.prog 43 #[cl x y 1] w fun e w' => e = .returned (.agg #[.int .i64 (1 + 2 * x), .int .i64 (1 + 2 * y), .int .i64 (2 + 2 * x), .int .i64 (2 + 2 * y), .int .i64 (2 + 2 * x), .int .i64 (2 * y)]) ∧ Below w.heap.size w w' := by
  have g0 : ∀ o1 o2, ((w.alloc o1).alloc o2).cell? ⟨0, 6, none⟩ = some (.int .i64 1) := al2 (hL.cor 6 (by decide))
  have g1 : ∀ o1 o2, ((w.alloc o1).alloc o2).cell? ⟨0, 7, none⟩ = some (.int .i64 1) := al2 (hL.cor 7 (by decide))
  have g2 : ∀ o1 o2, ((w.alloc o1).alloc o2).cell? ⟨0, 8, none⟩ = some (.int .i64 2) := al2 (hL.cor 8 (by decide))
  have g3 : ∀ o1 o2, ((w.alloc o1).alloc o2).cell? ⟨0, 9, none⟩ = some (.int .i64 2) := al2 (hL.cor 9 (by decide))
  have g4 : ∀ o1 o2, ((w.alloc o1).alloc o2).cell? ⟨0, 10, none⟩ = some (.int .i64 2) := al2 (hL.cor 10 (by decide))
  have g5 : ∀ o1 o2, ((w.alloc o1).alloc o2).cell? ⟨0, 11, none⟩ = some (.int .i64 0) := al2 (hL.cor 11 (by decide))
  go_enter Tryd.func43, Tryd.ntmps43
  go_wp2_with fail
  clear g0 g1 g2 g3 g4 g5
  go_loopw [9] (fun iv wr => ∃ i : Int, iv = .int .i64 i ∧ ∃ u : Later ((w.alloc (.cells #[.int .i64 x, .int .i64 y, .int .u8 1] 23)).alloc (.cells #[.int .i64 0, .int .i64 0, .int .i64 0, .int .i64 0, .int .i64 0, .int .i64 0] 32)), wr = on u ∧ ((i = 0 ∧ (on u).heap[w.heap.size + 1 + 1]? = some (.cells #[.int .i64 1, .int .i64 1, .int .i64 2, .int .i64 2, .int .i64 2, .int .i64 0] 32)) ∨ (i = 1 ∧ (on u).heap[w.heap.size + 1 + 1]? = some (.cells #[.int .i64 (1 + 2 * x), .int .i64 (1 + 2 * y), .int .i64 2, .int .i64 2, .int .i64 2, .int .i64 0] 32)) ∨ (i = 2 ∧ (on u).heap[w.heap.size + 1 + 1]? = some (.cells #[.int .i64 (1 + 2 * x), .int .i64 (1 + 2 * y), .int .i64 (2 + 2 * x), .int .i64 (2 + 2 * y), .int .i64 2, .int .i64 0] 32)) ∨ (i = 3 ∧ (on u).heap[w.heap.size + 1 + 1]? = some (.cells #[.int .i64 (1 + 2 * x), .int .i64 (1 + 2 * y), .int .i64 (2 + 2 * x), .int .i64 (2 + 2 * y), .int .i64 (2 + 2 * x), .int .i64 (2 * y)] 32)))) (fun iv _ => (3 - intOf iv).toNat)
  case atStart => exact ⟨0, rfl, ⟨_, below_alloc (Below.refl _ _) _⟩, rfl, .inl ⟨rfl, by rw [show w.heap.size + 1 + 1 = ((w.alloc (.cells #[.int .i64 x, .int .i64 y, .int .u8 1] 23)).alloc (.cells #[.int .i64 0, .int .i64 0, .int .i64 0, .int .i64 0, .int .i64 0, .int .i64 0] 32)).heap.size by simp]; exact heap_alloc_new _ _⟩⟩
  case round =>
    obtain ⟨i, rfl, u0, rfl, hi⟩ := hrel
    have hB : ((w.alloc (.cells #[.int .i64 x, .int .i64 y, .int .u8 1] 23)).alloc (.cells #[.int .i64 0, .int .i64 0, .int .i64 0, .int .i64 0, .int .i64 0, .int .i64 0] 32)).heap.size ≤ w.heap.size + 1 + 1 := by simp
    have hq : Below w.heap.size w (on u0) := below_on (below_alloc (below_alloc (Below.refl _ _) _) _) u0
    obtain ⟨rfl, hh⟩ | ⟨rfl, hh⟩ | ⟨rfl, hh⟩ | ⟨rfl, hh⟩ := hi
    · have d0 : (on u0).cell? ⟨w.heap.size + 1 + 1, 0, none⟩ = some (.int .i64 (1)) := held_cell hh 0
      have d1 : (on u0).cell? ⟨w.heap.size + 1 + 1, 1, none⟩ = some (.int .i64 (1)) := held_cell hh 1
      go_wp2_with fail
      refine region_tail 10 (by kernel_rfl) (by kernel_rfl) ?_
      simp only [List.take_succ_cons, List.take_zero, List.drop_succ_cons, List.drop_zero]
      repeat (first
        | (refine wpLex_plain (by rfl) (by rfl) (by rfl) (fun K hK => ?_); go_big_quiet_op; refine hK _ ?_; clear hK K)
        | (refine wpLex_call (by rfl) (by rfl) (fun K hK => ?_); go_simp; apply Exists.intro; refine ⟨fun _ => ?_, hK _ ?_⟩; ((fail)); clear hK K)
        | (refine wpLex_new (by rfl) ?_; simp only [Act.put, List.setIfInBounds_toArray, List.set_cons_zero, List.set_cons_succ]))
      refine wpLex_nil ?_
      intro u9
      have m := held_on u9 hh
      have f0 : (on u9).frozen? ⟨w.heap.size + 1 + 1, 0, none⟩ = false := held_free m 0
      have e0 : (on u9).cell? ⟨w.heap.size + 1 + 1, 0, none⟩ = some (.int .i64 (1)) := held_cell m 0
      go_wp2_with fail
      obtain ⟨p, hp, hh2⟩ := stored1 (u := thn u0 u9) hB m 0 (.int .i64 (1 + 2 * x))
      rw [show on u9 = on (thn u0 u9) from rfl, hp]
      clear hp f0 e0 m d0 d1 hh hq
      have hq : Below w.heap.size w (on p) := below_on (below_alloc (below_alloc (Below.refl _ _) _) _) p
      have d0 : (on p).cell? ⟨w.heap.size + 1 + 1, 0, none⟩ = some (.int .i64 (1 + 2 * x)) := held_cell hh2 0
      have d1 : (on p).cell? ⟨w.heap.size + 1 + 1, 1, none⟩ = some (.int .i64 (1)) := held_cell hh2 1
      refine region_tail 10 (by kernel_rfl) (by kernel_rfl) ?_
      simp only [List.take_succ_cons, List.take_zero, List.drop_succ_cons, List.drop_zero]
      repeat (first
        | (refine wpLex_plain (by rfl) (by rfl) (by rfl) (fun K hK => ?_); go_big_quiet_op; refine hK _ ?_; clear hK K)
        | (refine wpLex_call (by rfl) (by rfl) (fun K hK => ?_); go_simp; apply Exists.intro; refine ⟨fun _ => ?_, hK _ ?_⟩; ((fail)); clear hK K)
        | (refine wpLex_new (by rfl) ?_; simp only [Act.put, List.setIfInBounds_toArray, List.set_cons_zero, List.set_cons_succ]))
      refine wpLex_nil ?_
      intro u9
      have m := held_on u9 hh2
      have f0 : (on u9).frozen? ⟨w.heap.size + 1 + 1, 1, none⟩ = false := held_free m 1
      have e0 : (on u9).cell? ⟨w.heap.size + 1 + 1, 1, none⟩ = some (.int .i64 (1)) := held_cell m 1
      go_wp2_with fail
      obtain ⟨p2, hp, hh3⟩ := stored1 (u := thn p u9) hB m 1 (.int .i64 (1 + 2 * y))
      rw [show on u9 = on (thn p u9) from rfl, hp]
      exact ⟨⟨0 + 1, rfl, p2, rfl, .inr (.inl ⟨rfl, hh3⟩)⟩, by simp [intOf]⟩
    · have d2 : (on u0).cell? ⟨w.heap.size + 1 + 1, 2, none⟩ = some (.int .i64 (2)) := held_cell hh 2
      have d3 : (on u0).cell? ⟨w.heap.size + 1 + 1, 3, none⟩ = some (.int .i64 (2)) := held_cell hh 3
      go_wp2_with fail
      refine region_tail 10 (by kernel_rfl) (by kernel_rfl) ?_
      simp only [List.take_succ_cons, List.take_zero, List.drop_succ_cons, List.drop_zero]
      repeat (first
        | (refine wpLex_plain (by rfl) (by rfl) (by rfl) (fun K hK => ?_); go_big_quiet_op; refine hK _ ?_; clear hK K)
        | (refine wpLex_call (by rfl) (by rfl) (fun K hK => ?_); go_simp; apply Exists.intro; refine ⟨fun _ => ?_, hK _ ?_⟩; ((fail)); clear hK K)
        | (refine wpLex_new (by rfl) ?_; simp only [Act.put, List.setIfInBounds_toArray, List.set_cons_zero, List.set_cons_succ]))
      refine wpLex_nil ?_
      intro u9
      have m := held_on u9 hh
      have f0 : (on u9).frozen? ⟨w.heap.size + 1 + 1, 2, none⟩ = false := held_free m 2
      have e0 : (on u9).cell? ⟨w.heap.size + 1 + 1, 2, none⟩ = some (.int .i64 (2)) := held_cell m 2
      go_wp2_with fail
      obtain ⟨p, hp, hh2⟩ := stored1 (u := thn u0 u9) hB m 2 (.int .i64 (2 + 2 * x))
      rw [show on u9 = on (thn u0 u9) from rfl, hp]
      clear hp f0 e0 m d2 d3 hh hq
      have hq : Below w.heap.size w (on p) := below_on (below_alloc (below_alloc (Below.refl _ _) _) _) p
      have d2 : (on p).cell? ⟨w.heap.size + 1 + 1, 2, none⟩ = some (.int .i64 (2 + 2 * x)) := held_cell hh2 2
      have d3 : (on p).cell? ⟨w.heap.size + 1 + 1, 3, none⟩ = some (.int .i64 (2)) := held_cell hh2 3
      refine region_tail 10 (by kernel_rfl) (by kernel_rfl) ?_
      simp only [List.take_succ_cons, List.take_zero, List.drop_succ_cons, List.drop_zero]
      repeat (first
        | (refine wpLex_plain (by rfl) (by rfl) (by rfl) (fun K hK => ?_); go_big_quiet_op; refine hK _ ?_; clear hK K)
        | (refine wpLex_call (by rfl) (by rfl) (fun K hK => ?_); go_simp; apply Exists.intro; refine ⟨fun _ => ?_, hK _ ?_⟩; ((fail)); clear hK K)
        | (refine wpLex_new (by rfl) ?_; simp only [Act.put, List.setIfInBounds_toArray, List.set_cons_zero, List.set_cons_succ]))
      refine wpLex_nil ?_
      intro u9
      have m := held_on u9 hh2
      have f0 : (on u9).frozen? ⟨w.heap.size + 1 + 1, 3, none⟩ = false := held_free m 3
      have e0 : (on u9).cell? ⟨w.heap.size + 1 + 1, 3, none⟩ = some (.int .i64 (2)) := held_cell m 3
      go_wp2_with fail
      obtain ⟨p2, hp, hh3⟩ := stored1 (u := thn p u9) hB m 3 (.int .i64 (2 + 2 * y))
      rw [show on u9 = on (thn p u9) from rfl, hp]
      exact ⟨⟨1 + 1, rfl, p2, rfl, .inr (.inr (.inl ⟨rfl, hh3⟩))⟩, by simp [intOf]⟩
    · have d4 : (on u0).cell? ⟨w.heap.size + 1 + 1, 4, none⟩ = some (.int .i64 (2)) := held_cell hh 4
      have d5 : (on u0).cell? ⟨w.heap.size + 1 + 1, 5, none⟩ = some (.int .i64 (0)) := held_cell hh 5
      go_wp2_with fail
      refine region_tail 10 (by kernel_rfl) (by kernel_rfl) ?_
      simp only [List.take_succ_cons, List.take_zero, List.drop_succ_cons, List.drop_zero]
      repeat (first
        | (refine wpLex_plain (by rfl) (by rfl) (by rfl) (fun K hK => ?_); go_big_quiet_op; refine hK _ ?_; clear hK K)
        | (refine wpLex_call (by rfl) (by rfl) (fun K hK => ?_); go_simp; apply Exists.intro; refine ⟨fun _ => ?_, hK _ ?_⟩; ((fail)); clear hK K)
        | (refine wpLex_new (by rfl) ?_; simp only [Act.put, List.setIfInBounds_toArray, List.set_cons_zero, List.set_cons_succ]))
      refine wpLex_nil ?_
      intro u9
      have m := held_on u9 hh
      have f0 : (on u9).frozen? ⟨w.heap.size + 1 + 1, 4, none⟩ = false := held_free m 4
      have e0 : (on u9).cell? ⟨w.heap.size + 1 + 1, 4, none⟩ = some (.int .i64 (2)) := held_cell m 4
      go_wp2_with fail
      obtain ⟨p, hp, hh2⟩ := stored1 (u := thn u0 u9) hB m 4 (.int .i64 (2 + 2 * x))
      rw [show on u9 = on (thn u0 u9) from rfl, hp]
      clear hp f0 e0 m d4 d5 hh hq
      have hq : Below w.heap.size w (on p) := below_on (below_alloc (below_alloc (Below.refl _ _) _) _) p
      have d4 : (on p).cell? ⟨w.heap.size + 1 + 1, 4, none⟩ = some (.int .i64 (2 + 2 * x)) := held_cell hh2 4
      have d5 : (on p).cell? ⟨w.heap.size + 1 + 1, 5, none⟩ = some (.int .i64 (0)) := held_cell hh2 5
      refine region_tail 10 (by kernel_rfl) (by kernel_rfl) ?_
      simp only [List.take_succ_cons, List.take_zero, List.drop_succ_cons, List.drop_zero]
      repeat (first
        | (refine wpLex_plain (by rfl) (by rfl) (by rfl) (fun K hK => ?_); go_big_quiet_op; refine hK _ ?_; clear hK K)
        | (refine wpLex_call (by rfl) (by rfl) (fun K hK => ?_); go_simp; apply Exists.intro; refine ⟨fun _ => ?_, hK _ ?_⟩; ((fail)); clear hK K)
        | (refine wpLex_new (by rfl) ?_; simp only [Act.put, List.setIfInBounds_toArray, List.set_cons_zero, List.set_cons_succ]))
      refine wpLex_nil ?_
      intro u9
      have m := held_on u9 hh2
      have f0 : (on u9).frozen? ⟨w.heap.size + 1 + 1, 5, none⟩ = false := held_free m 5
      have e0 : (on u9).cell? ⟨w.heap.size + 1 + 1, 5, none⟩ = some (.int .i64 (0)) := held_cell m 5
      go_wp2_with fail
      obtain ⟨p2, hp, hh3⟩ := stored1 (u := thn p u9) hB m 5 (.int .i64 (2 * y))
      rw [show on u9 = on (thn p u9) from rfl, hp]
      exact ⟨⟨2 + 1, rfl, p2, rfl, .inr (.inr (.inr (⟨rfl, hh3⟩)))⟩, by simp [intOf]⟩
    · have d0 : (on u0).cell? ⟨w.heap.size + 1 + 1, 0, none⟩ = some (.int .i64 (1 + 2 * x)) := held_cell hh 0
      have d1 : (on u0).cell? ⟨w.heap.size + 1 + 1, 1, none⟩ = some (.int .i64 (1 + 2 * y)) := held_cell hh 1
      have d2 : (on u0).cell? ⟨w.heap.size + 1 + 1, 2, none⟩ = some (.int .i64 (2 + 2 * x)) := held_cell hh 2
      have d3 : (on u0).cell? ⟨w.heap.size + 1 + 1, 3, none⟩ = some (.int .i64 (2 + 2 * y)) := held_cell hh 3
      have d4 : (on u0).cell? ⟨w.heap.size + 1 + 1, 4, none⟩ = some (.int .i64 (2 + 2 * x)) := held_cell hh 4
      have d5 : (on u0).cell? ⟨w.heap.size + 1 + 1, 5, none⟩ = some (.int .i64 (2 * y)) := held_cell hh 5
      go_wp2_with fail
      exact bodyPost_ret (v := .agg #[.int .i64 (1 + 2 * x), .int .i64 (1 + 2 * y), .int .i64 (2 + 2 * x), .int .i64 (2 + 2 * y), .int .i64 (2 + 2 * x), .int .i64 (2 * y)]) (by simp [results, Tryd.results43, go_sem, d0, d1, d2, d3, d4, d5]) rfl ⟨rfl, (by repeat first | (with_reducible exact hq) | (with_reducible refine below_on ?_ _) | (with_reducible refine below_alloc ?_ _) | (with_reducible refine below_set ?_ (by simp; try omega) _))⟩

set_option maxRecDepth 100000 in
set_option maxHeartbeats 2000000 in
theorem corner_2 (x y : Int) (w : World) (hL : Lay w) (x1 : -100000 ≤ x) (x2 : x ≤ 100000) (y1 : -100000 ≤ y) (y2 : y ≤ 100000) : Calls Tryd.prog 43 #[cl x y 2] w fun e w' => e = .returned (.agg #[.int .i64 (1 + 2 * x), .int .i64 (1 + 2 * y), .int .i64 (2 + 2 * x), .int .i64 (2 + 2 * y), .int .i64 (2 * x), .int .i64 (2 + 2 * y)]) ∧ Below w.heap.size w w' := by
  have g0 : ∀ o1 o2, ((w.alloc o1).alloc o2).cell? ⟨0, 12, none⟩ = some (.int .i64 1) := al2 (hL.cor 12 (by decide))
  have g1 : ∀ o1 o2, ((w.alloc o1).alloc o2).cell? ⟨0, 13, none⟩ = some (.int .i64 1) := al2 (hL.cor 13 (by decide))
  have g2 : ∀ o1 o2, ((w.alloc o1).alloc o2).cell? ⟨0, 14, none⟩ = some (.int .i64 2) := al2 (hL.cor 14 (by decide))
  have g3 : ∀ o1 o2, ((w.alloc o1).alloc o2).cell? ⟨0, 15, none⟩ = some (.int .i64 2) := al2 (hL.cor 15 (by decide))
  have g4 : ∀ o1 o2, ((w.alloc o1).alloc o2).cell? ⟨0, 16, none⟩ = some (.int .i64 0) := al2 (hL.cor 16 (by decide))
  have g5 : ∀ o1 o2, ((w.alloc o1).alloc o2).cell? ⟨0, 17, none⟩ = some (.int .i64 2) := al2 (hL.cor 17 (by decide))
  go_enter Tryd.func43, Tryd.ntmps43
  go_wp2_with fail
  clear g0 g1 g2 g3 g4 g5
  go_loopw [9] (fun iv wr => ∃ i : Int, iv = .int .i64 i ∧ ∃ u : Later ((w.alloc (.cells #[.int .i64 x, .int .i64 y, .int .u8 2] 23)).alloc (.cells #[.int .i64 0, .int .i64 0, .int .i64 0, .int .i64 0, .int .i64 0, .int .i64 0] 32)), wr = on u ∧ ((i = 0 ∧ (on u).heap[w.heap.size + 1 + 1]? = some (.cells #[.int .i64 1, .int .i64 1, .int .i64 2, .int .i64 2, .int .i64 0, .int .i64 2] 32)) ∨ (i = 1 ∧ (on u).heap[w.heap.size + 1 + 1]? = some (.cells #[.int .i64 (1 + 2 * x), .int .i64 (1 + 2 * y), .int .i64 2, .int .i64 2, .int .i64 0, .int .i64 2] 32)) ∨ (i = 2 ∧ (on u).heap[w.heap.size + 1 + 1]? = some (.cells #[.int .i64 (1 + 2 * x), .int .i64 (1 + 2 * y), .int .i64 (2 + 2 * x), .int .i64 (2 + 2 * y), .int .i64 0, .int .i64 2] 32)) ∨ (i = 3 ∧ (on u).heap[w.heap.size + 1 + 1]? = some (.cells #[.int .i64 (1 + 2 * x), .int .i64 (1 + 2 * y), .int .i64 (2 + 2 * x), .int .i64 (2 + 2 * y), .int .i64 (2 * x), .int .i64 (2 + 2 * y)] 32)))) (fun iv _ => (3 - intOf iv).toNat)
  case atStart => exact ⟨0, rfl, ⟨_, below_alloc (Below.refl _ _) _⟩, rfl, .inl ⟨rfl, by rw [show w.heap.size + 1 + 1 = ((w.alloc (.cells #[.int .i64 x, .int .i64 y, .int .u8 2] 23)).alloc (.cells #[.int .i64 0, .int .i64 0, .int .i64 0, .int .i64 0, .int .i64 0, .int .i64 0] 32)).heap.size by simp]; exact heap_alloc_new _ _⟩⟩
  case round =>
    obtain ⟨i, rfl, u0, rfl, hi⟩ := hrel
    have hB : ((w.alloc (.cells #[.int .i64 x, .int .i64 y, .int .u8 2] 23)).alloc (.cells #[.int .i64 0, .int .i64 0, .int .i64 0, .int .i64 0, .int .i64 0, .int .i64 0] 32)).heap.size ≤ w.heap.size + 1 + 1 := by simp
    have hq : Below w.heap.size w (on u0) := below_on (below_alloc (below_alloc (Below.refl _ _) _) _) u0
    obtain ⟨rfl, hh⟩ | ⟨rfl, hh⟩ | ⟨rfl, hh⟩ | ⟨rfl, hh⟩ := hi
    · have d0 : (on u0).cell? ⟨w.heap.size + 1 + 1, 0, none⟩ = some (.int .i64 (1)) := held_cell hh 0
      have d1 : (on u0).cell? ⟨w.heap.size + 1 + 1, 1, none⟩ = some (.int .i64 (1)) := held_cell hh 1
      go_wp2_with fail
      refine region_tail 10 (by kernel_rfl) (by kernel_rfl) ?_
      simp only [List.take_succ_cons, List.take_zero, List.drop_succ_cons, List.drop_zero]
      repeat (first
        | (refine wpLex_plain (by rfl) (by rfl) (by rfl) (fun K hK => ?_); go_big_quiet_op; refine hK _ ?_; clear hK K)
        | (refine wpLex_call (by rfl) (by rfl) (fun K hK => ?_); go_simp; apply Exists.intro; refine ⟨fun _ => ?_, hK _ ?_⟩; ((fail)); clear hK K)
        | (refine wpLex_new (by rfl) ?_; simp only [Act.put, List.setIfInBounds_toArray, List.set_cons_zero, List.set_cons_succ]))
      refine wpLex_nil ?_
      intro u9
      have m := held_on u9 hh
      have f0 : (on u9).frozen? ⟨w.heap.size + 1 + 1, 0, none⟩ = false := held_free m 0
      have e0 : (on u9).cell? ⟨w.heap.size + 1 + 1, 0, none⟩ = some (.int .i64 (1)) := held_cell m 0
      go_wp2_with fail
      obtain ⟨p, hp, hh2⟩ := stored1 (u := thn u0 u9) hB m 0 (.int .i64 (1 + 2 * x))
      rw [show on u9 = on (thn u0 u9) from rfl, hp]
      clear hp f0 e0 m d0 d1 hh hq
      have hq : Below w.heap.size w (on p) := below_on (below_alloc (below_alloc (Below.refl _ _) _) _) p
      have d0 : (on p).cell? ⟨w.heap.size + 1 + 1, 0, none⟩ = some (.int .i64 (1 + 2 * x)) := held_cell hh2 0
      have d1 : (on p).cell? ⟨w.heap.size + 1 + 1, 1, none⟩ = some (.int .i64 (1)) := held_cell hh2 1
      refine region_tail 10 (by kernel_rfl) (by kernel_rfl) ?_
      simp only [List.take_succ_cons, List.take_zero, List.drop_succ_cons, List.drop_zero]
      repeat (first
        | (refine wpLex_plain (by rfl) (by rfl) (by rfl) (fun K hK => ?_); go_big_quiet_op; refine hK _ ?_; clear hK K)
        | (refine wpLex_call (by rfl) (by rfl) (fun K hK => ?_); go_simp; apply Exists.intro; refine ⟨fun _ => ?_, hK _ ?_⟩; ((fail)); clear hK K)
        | (refine wpLex_new (by rfl) ?_; simp only [Act.put, List.setIfInBounds_toArray, List.set_cons_zero, List.set_cons_succ]))
      refine wpLex_nil ?_
      intro u9
      have m := held_on u9 hh2
      have f0 : (on u9).frozen? ⟨w.heap.size + 1 + 1, 1, none⟩ = false := held_free m 1
      have e0 : (on u9).cell? ⟨w.heap.size + 1 + 1, 1, none⟩ = some (.int .i64 (1)) := held_cell m 1
      go_wp2_with fail
      obtain ⟨p2, hp, hh3⟩ := stored1 (u := thn p u9) hB m 1 (.int .i64 (1 + 2 * y))
      rw [show on u9 = on (thn p u9) from rfl, hp]
      exact ⟨⟨0 + 1, rfl, p2, rfl, .inr (.inl ⟨rfl, hh3⟩)⟩, by simp [intOf]⟩
    · have d2 : (on u0).cell? ⟨w.heap.size + 1 + 1, 2, none⟩ = some (.int .i64 (2)) := held_cell hh 2
      have d3 : (on u0).cell? ⟨w.heap.size + 1 + 1, 3, none⟩ = some (.int .i64 (2)) := held_cell hh 3
      go_wp2_with fail
      refine region_tail 10 (by kernel_rfl) (by kernel_rfl) ?_
      simp only [List.take_succ_cons, List.take_zero, List.drop_succ_cons, List.drop_zero]
      repeat (first
        | (refine wpLex_plain (by rfl) (by rfl) (by rfl) (fun K hK => ?_); go_big_quiet_op; refine hK _ ?_; clear hK K)
        | (refine wpLex_call (by rfl) (by rfl) (fun K hK => ?_); go_simp; apply Exists.intro; refine ⟨fun _ => ?_, hK _ ?_⟩; ((fail)); clear hK K)
        | (refine wpLex_new (by rfl) ?_; simp only [Act.put, List.setIfInBounds_toArray, List.set_cons_zero, List.set_cons_succ]))
      refine wpLex_nil ?_
      intro u9
      have m := held_on u9 hh
      have f0 : (on u9).frozen? ⟨w.heap.size + 1 + 1, 2, none⟩ = false := held_free m 2
      have e0 : (on u9).cell? ⟨w.heap.size + 1 + 1, 2, none⟩ = some (.int .i64 (2)) := held_cell m 2
      go_wp2_with fail
      obtain ⟨p, hp, hh2⟩ := stored1 (u := thn u0 u9) hB m 2 (.int .i64 (2 + 2 * x))
      rw [show on u9 = on (thn u0 u9) from rfl, hp]
      clear hp f0 e0 m d2 d3 hh hq
      have hq : Below w.heap.size w (on p) := below_on (below_alloc (below_alloc (Below.refl _ _) _) _) p
      have d2 : (on p).cell? ⟨w.heap.size + 1 + 1, 2, none⟩ = some (.int .i64 (2 + 2 * x)) := held_cell hh2 2
      have d3 : (on p).cell? ⟨w.heap.size + 1 + 1, 3, none⟩ = some (.int .i64 (2)) := held_cell hh2 3
      refine region_tail 10 (by kernel_rfl) (by kernel_rfl) ?_
      simp only [List.take_succ_cons, List.take_zero, List.drop_succ_cons, List.drop_zero]
      repeat (first
        | (refine wpLex_plain (by rfl) (by rfl) (by rfl) (fun K hK => ?_); go_big_quiet_op; refine hK _ ?_; clear hK K)
        | (refine wpLex_call (by rfl) (by rfl) (fun K hK => ?_); go_simp; apply Exists.intro; refine ⟨fun _ => ?_, hK _ ?_⟩; ((fail)); clear hK K)
        | (refine wpLex_new (by rfl) ?_; simp only [Act.put, List.setIfInBounds_toArray, List.set_cons_zero, List.set_cons_succ]))
      refine wpLex_nil ?_
      intro u9
      have m := held_on u9 hh2
      have f0 : (on u9).frozen? ⟨w.heap.size + 1 + 1, 3, none⟩ = false := held_free m 3
      have e0 : (on u9).cell? ⟨w.heap.size + 1 + 1, 3, none⟩ = some (.int .i64 (2)) := held_cell m 3
      go_wp2_with fail
      obtain ⟨p2, hp, hh3⟩ := stored1 (u := thn p u9) hB m 3 (.int .i64 (2 + 2 * y))
      rw [show on u9 = on (thn p u9) from rfl, hp]
      exact ⟨⟨1 + 1, rfl, p2, rfl, .inr (.inr (.inl ⟨rfl, hh3⟩))⟩, by simp [intOf]⟩
    · have d4 : (on u0).cell? ⟨w.heap.size + 1 + 1, 4, none⟩ = some (.int .i64 (0)) := held_cell hh 4
      have d5 : (on u0).cell? ⟨w.heap.size + 1 + 1, 5, none⟩ = some (.int .i64 (2)) := held_cell hh 5
      go_wp2_with fail
      refine region_tail 10 (by kernel_rfl) (by kernel_rfl) ?_
      simp only [List.take_succ_cons, List.take_zero, List.drop_succ_cons, List.drop_zero]
      repeat (first
        | (refine wpLex_plain (by rfl) (by rfl) (by rfl) (fun K hK => ?_); go_big_quiet_op; refine hK _ ?_; clear hK K)
        | (refine wpLex_call (by rfl) (by rfl) (fun K hK => ?_); go_simp; apply Exists.intro; refine ⟨fun _ => ?_, hK _ ?_⟩; ((fail)); clear hK K)
        | (refine wpLex_new (by rfl) ?_; simp only [Act.put, List.setIfInBounds_toArray, List.set_cons_zero, List.set_cons_succ]))
      refine wpLex_nil ?_
      intro u9
      have m := held_on u9 hh
      have f0 : (on u9).frozen? ⟨w.heap.size + 1 + 1, 4, none⟩ = false := held_free m 4
      have e0 : (on u9).cell? ⟨w.heap.size + 1 + 1, 4, none⟩ = some (.int .i64 (0)) := held_cell m 4
      go_wp2_with fail
      obtain ⟨p, hp, hh2⟩ := stored1 (u := thn u0 u9) hB m 4 (.int .i64 (2 * x))
      rw [show on u9 = on (thn u0 u9) from rfl, hp]
      clear hp f0 e0 m d4 d5 hh hq
      have hq : Below w.heap.size w (on p) := below_on (below_alloc (below_alloc (Below.refl _ _) _) _) p
      have d4 : (on p).cell? ⟨w.heap.size + 1 + 1, 4, none⟩ = some (.int .i64 (2 * x)) := held_cell hh2 4
      have d5 : (on p).cell? ⟨w.heap.size + 1 + 1, 5, none⟩ = some (.int .i64 (2)) := held_cell hh2 5
      refine region_tail 10 (by kernel_rfl) (by kernel_rfl) ?_
      simp only [List.take_succ_cons, List.take_zero, List.drop_succ_cons, List.drop_zero]
      repeat (first
        | (refine wpLex_plain (by rfl) (by rfl) (by rfl) (fun K hK => ?_); go_big_quiet_op; refine hK _ ?_; clear hK K)
        | (refine wpLex_call (by rfl) (by rfl) (fun K hK => ?_); go_simp; apply Exists.intro; refine ⟨fun _ => ?_, hK _ ?_⟩; ((fail)); clear hK K)
        | (refine wpLex_new (by rfl) ?_; simp only [Act.put, List.setIfInBounds_toArray, List.set_cons_zero, List.set_cons_succ]))
      refine wpLex_nil ?_
      intro u9
      have m := held_on u9 hh2
      have f0 : (on u9).frozen? ⟨w.heap.size + 1 + 1, 5, none⟩ = false := held_free m 5
      have e0 : (on u9).cell? ⟨w.heap.size + 1 + 1, 5, none⟩ = some (.int .i64 (2)) := held_cell m 5
      go_wp2_with fail
      obtain ⟨p2, hp, hh3⟩ := stored1 (u := thn p u9) hB m 5 (.int .i64 (2 + 2 * y))
      rw [show on u9 = on (thn p u9) from rfl, hp]
      exact ⟨⟨2 + 1, rfl, p2, rfl, .inr (.inr (.inr (⟨rfl, hh3⟩)))⟩, by simp [intOf]⟩
    · have d0 : (on u0).cell? ⟨w.heap.size + 1 + 1, 0, none⟩ = some (.int .i64 (1 + 2 * x)) := held_cell hh 0
      have d1 : (on u0).cell? ⟨w.heap.size + 1 + 1, 1, none⟩ = some (.int .i64 (1 + 2 * y)) := held_cell hh 1
      have d2 : (on u0).cell? ⟨w.heap.size + 1 + 1, 2, none⟩ = some (.int .i64 (2 + 2 * x)) := held_cell hh 2
      have d3 : (on u0).cell? ⟨w.heap.size + 1 + 1, 3, none⟩ = some (.int .i64 (2 + 2 * y)) := held_cell hh 3
      have d4 : (on u0).cell? ⟨w.heap.size + 1 + 1, 4, none⟩ = some (.int .i64 (2 * x)) := held_cell hh 4
      have d5 : (on u0).cell? ⟨w.heap.size + 1 + 1, 5, none⟩ = some (.int .i64 (2 + 2 * y)) := held_cell hh 5
      go_wp2_with fail
      exact bodyPost_ret (v := .agg #[.int .i64 (1 + 2 * x), .int .i64 (1 + 2 * y), .int .i64 (2 + 2 * x), .int .i64 (2 + 2 * y), .int .i64 (2 * x), .int .i64 (2 + 2 * y)]) (by simp [results, Tryd.results43, go_sem, d0, d1, d2, d3, d4, d5]) rfl ⟨rfl, (by repeat first | (with_reducible exact hq) | (with_reducible refine below_on ?_ _) | (with_reducible refine below_alloc ?_ _) | (with_reducible refine below_set ?_ (by simp; try omega) _))⟩

set_option maxRecDepth 100000 in
set_option maxHeartbeats 2000000 in
theorem corner_3 (x y : Int) (w : World) (hL : Lay w) (x1 : -100000 ≤ x) (x2 : x ≤ 100000) (y1 : -100000 ≤ y) (y2 : y ≤ 100000) : Calls Tryd.prog 43 #[cl x y 3] w fun e w' => e = .returned (.agg #[.int .i64 (1 + 2 * x), .int .i64 (1 + 2 * y), .int .i64 (2 * x), .int .i64 (2 * y), .int .i64 (2 * x), .int .i64 (2 + 2 * y)]) ∧ Below w.heap.size w w' := by
  have g0 : ∀ o1 o2, ((w.alloc o1).alloc o2).cell? ⟨0, 18, none⟩ = some (.int .i64 1) := al2 (hL.cor 18 (by decide))
  have g1 : ∀ o1 o2, ((w.alloc o1).alloc o2).cell? ⟨0, 19, none⟩ = some (.int .i64 1) := al2 (hL.cor 19 (by decide))
  have g2 : ∀ o1 o2, ((w.alloc o1).alloc o2).cell? ⟨0, 20, none⟩ = some (.int .i64 0) := al2 (hL.cor 20 (by decide))
  have g3 : ∀ o1 o2, ((w.alloc o1).alloc o2).cell? ⟨0, 21, none⟩ = some (.int .i64 0) := al2 (hL.cor 21 (by decide))
  have g4 : ∀ o1 o2, ((w.alloc o1).alloc o2).cell? ⟨0, 22, none⟩ = some (.int .i64 0) := al2 (hL.cor 22 (by decide))
  have g5 : ∀ o1 o2, ((w.alloc o1).alloc o2).cell? ⟨0, 23, none⟩ = some (.int .i64 2) := al2 (hL.cor 23 (by decide))
  go_enter Tryd.func43, Tryd.ntmps43
  go_wp2_with fail
  clear g0 g1 g2 g3 g4 g5
  go_loopw [9] (fun iv wr => ∃ i : Int, iv = .int .i64 i ∧ ∃ u : Later ((w.alloc (.cells #[.int .i64 x, .int .i64 y, .int .u8 3] 23)).alloc (.cells #[.int .i64 0, .int .i64 0, .int .i64 0, .int .i64 0, .int .i64 0, .int .i64 0] 32)), wr = on u ∧ ((i = 0 ∧ (on u).heap[w.heap.size + 1 + 1]? = some (.cells #[.int .i64 1, .int .i64 1, .int .i64 0, .int .i64 0, .int .i64 0, .int .i64 2] 32)) ∨ (i = 1 ∧ (on u).heap[w.heap.size + 1 + 1]? = some (.cells #[.int .i64 (1 + 2 * x), .int .i64 (1 + 2 * y), .int .i64 0, .int .i64 0, .int .i64 0, .int .i64 2] 32)) ∨ (i = 2 ∧ (on u).heap[w.heap.size + 1 + 1]? = some (.cells #[.int .i64 (1 + 2 * x), .int .i64 (1 + 2 * y), .int .i64 (2 * x), .int .i64 (2 * y), .int .i64 0, .int .i64 2] 32)) ∨ (i = 3 ∧ (on u).heap[w.heap.size + 1 + 1]? = some (.cells #[.int .i64 (1 + 2 * x), .int .i64 (1 + 2 * y), .int .i64 (2 * x), .int .i64 (2 * y), .int .i64 (2 * x), .int .i64 (2 + 2 * y)] 32)))) (fun iv _ => (3 - intOf iv).toNat)
  case atStart => exact ⟨0, rfl, ⟨_, below_alloc (Below.refl _ _) _⟩, rfl, .inl ⟨rfl, by rw [show w.heap.size + 1 + 1 = ((w.alloc (.cells #[.int .i64 x, .int .i64 y, .int .u8 3] 23)).alloc (.cells #[.int .i64 0, .int .i64 0, .int .i64 0, .int .i64 0, .int .i64 0, .int .i64 0] 32)).heap.size by simp]; exact heap_alloc_new _ _⟩⟩
  case round =>
    obtain ⟨i, rfl, u0, rfl, hi⟩ := hrel
    have hB : ((w.alloc (.cells #[.int .i64 x, .int .i64 y, .int .u8 3] 23)).alloc (.cells #[.int .i64 0, .int .i64 0, .int .i64 0, .int .i64 0, .int .i64 0, .int .i64 0] 32)).heap.size ≤ w.heap.size + 1 + 1 := by simp
    have hq : Below w.heap.size w (on u0) := below_on (below_alloc (below_alloc (Below.refl _ _) _) _) u0
    obtain ⟨rfl, hh⟩ | ⟨rfl, hh⟩ | ⟨rfl, hh⟩ | ⟨rfl, hh⟩ := hi
    · have d0 : (on u0).cell? ⟨w.heap.size + 1 + 1, 0, none⟩ = some (.int .i64 (1)) := held_cell hh 0
      have d1 : (on u0).cell? ⟨w.heap.size + 1 + 1, 1, none⟩ = some (.int .i64 (1)) := held_cell hh 1
      go_wp2_with fail
      refine region_tail 10 (by kernel_rfl) (by kernel_rfl) ?_
      simp only [List.take_succ_cons, List.take_zero, List.drop_succ_cons, List.drop_zero]
      repeat (first
        | (refine wpLex_plain (by rfl) (by rfl) (by rfl) (fun K hK => ?_); go_big_quiet_op; refine hK _ ?_; clear hK K)
        | (refine wpLex_call (by rfl) (by rfl) (fun K hK => ?_); go_simp; apply Exists.intro; refine ⟨fun _ => ?_, hK _ ?_⟩; ((fail)); clear hK K)
        | (refine wpLex_new (by rfl) ?_; simp only [Act.put, List.setIfInBounds_toArray, List.set_cons_zero, List.set_cons_succ]))
      refine wpLex_nil ?_
      intro u9
      have m := held_on u9 hh
      have f0 : (on u9).frozen? ⟨w.heap.size + 1 + 1, 0, none⟩ = false := held_free m 0
      have e0 : (on u9).cell? ⟨w.heap.size + 1 + 1, 0, none⟩ = some (.int .i64 (1)) := held_cell m 0
      go_wp2_with fail
      obtain ⟨p, hp, hh2⟩ := stored1 (u := thn u0 u9) hB m 0 (.int .i64 (1 + 2 * x))
      rw [show on u9 = on (thn u0 u9) from rfl, hp]
      clear hp f0 e0 m d0 d1 hh hq
      have hq : Below w.heap.size w (on p) := below_on (below_alloc (below_alloc (Below.refl _ _) _) _) p
      have d0 : (on p).cell? ⟨w.heap.size + 1 + 1, 0, none⟩ = some (.int .i64 (1 + 2 * x)) := held_cell hh2 0
      have d1 : (on p).cell? ⟨w.heap.size + 1 + 1, 1, none⟩ = some (.int .i64 (1)) := held_cell hh2 1
      refine region_tail 10 (by kernel_rfl) (by kernel_rfl) ?_
      simp only [List.take_succ_cons, List.take_zero, List.drop_succ_cons, List.drop_zero]
      repeat (first
        | (refine wpLex_plain (by rfl) (by rfl) (by rfl) (fun K hK => ?_); go_big_quiet_op; refine hK _ ?_; clear hK K)
        | (refine wpLex_call (by rfl) (by rfl) (fun K hK => ?_); go_simp; apply Exists.intro; refine ⟨fun _ => ?_, hK _ ?_⟩; ((fail)); clear hK K)
        | (refine wpLex_new (by rfl) ?_; simp only [Act.put, List.setIfInBounds_toArray, List.set_cons_zero, List.set_cons_succ]))
      refine wpLex_nil ?_
      intro u9
      have m := held_on u9 hh2
      have f0 : (on u9).frozen? ⟨w.heap.size + 1 + 1, 1, none⟩ = false := held_free m 1
      have e0 : (on u9).cell? ⟨w.heap.size + 1 + 1, 1, none⟩ = some (.int .i64 (1)) := held_cell m 1
      go_wp2_with fail
      obtain ⟨p2, hp, hh3⟩ := stored1 (u := thn p u9) hB m 1 (.int .i64 (1 + 2 * y))
      rw [show on u9 = on (thn p u9) from rfl, hp]
      exact ⟨⟨0 + 1, rfl, p2, rfl, .inr (.inl ⟨rfl, hh3⟩)⟩, by simp [intOf]⟩
    · have d2 : (on u0).cell? ⟨w.heap.size + 1 + 1, 2, none⟩ = some (.int .i64 (0)) := held_cell hh 2
      have d3 : (on u0).cell? ⟨w.heap.size + 1 + 1, 3, none⟩ = some (.int .i64 (0)) := held_cell hh 3
      go_wp2_with fail
      refine region_tail 10 (by kernel_rfl) (by kernel_rfl) ?_
      simp only [List.take_succ_cons, List.take_zero, List.drop_succ_cons, List.drop_zero]
      repeat (first
        | (refine wpLex_plain (by rfl) (by rfl) (by rfl) (fun K hK => ?_); go_big_quiet_op; refine hK _ ?_; clear hK K)
        | (refine wpLex_call (by rfl) (by rfl) (fun K hK => ?_); go_simp; apply Exists.intro; refine ⟨fun _ => ?_, hK _ ?_⟩; ((fail)); clear hK K)
        | (refine wpLex_new (by rfl) ?_; simp only [Act.put, List.setIfInBounds_toArray, List.set_cons_zero, List.set_cons_succ]))
      refine wpLex_nil ?_
      intro u9
      have m := held_on u9 hh
      have f0 : (on u9).frozen? ⟨w.heap.size + 1 + 1, 2, none⟩ = false := held_free m 2
      have e0 : (on u9).cell? ⟨w.heap.size + 1 + 1, 2, none⟩ = some (.int .i64 (0)) := held_cell m 2
      go_wp2_with fail
      obtain ⟨p, hp, hh2⟩ := stored1 (u := thn u0 u9) hB m 2 (.int .i64 (2 * x))
      rw [show on u9 = on (thn u0 u9) from rfl, hp]
      clear hp f0 e0 m d2 d3 hh hq
      have hq : Below w.heap.size w (on p) := below_on (below_alloc (below_alloc (Below.refl _ _) _) _) p
      have d2 : (on p).cell? ⟨w.heap.size + 1 + 1, 2, none⟩ = some (.int .i64 (2 * x)) := held_cell hh2 2
      have d3 : (on p).cell? ⟨w.heap.size + 1 + 1, 3, none⟩ = some (.int .i64 (0)) := held_cell hh2 3
      refine region_tail 10 (by kernel_rfl) (by kernel_rfl) ?_
      simp only [List.take_succ_cons, List.take_zero, List.drop_succ_cons, List.drop_zero]
      repeat (first
        | (refine wpLex_plain (by rfl) (by rfl) (by rfl) (fun K hK => ?_); go_big_quiet_op; refine hK _ ?_; clear hK K)
        | (refine wpLex_call (by rfl) (by rfl) (fun K hK => ?_); go_simp; apply Exists.intro; refine ⟨fun _ => ?_, hK _ ?_⟩; ((fail)); clear hK K)
        | (refine wpLex_new (by rfl) ?_; simp only [Act.put, List.setIfInBounds_toArray, List.set_cons_zero, List.set_cons_succ]))
      refine wpLex_nil ?_
      intro u9
      have m := held_on u9 hh2
      have f0 : (on u9).frozen? ⟨w.heap.size + 1 + 1, 3, none⟩ = false := held_free m 3
      have e0 : (on u9).cell? ⟨w.heap.size + 1 + 1, 3, none⟩ = some (.int .i64 (0)) := held_cell m 3
      go_wp2_with fail
      obtain ⟨p2, hp, hh3⟩ := stored1 (u := thn p u9) hB m 3 (.int .i64 (2 * y))
      rw [show on u9 = on (thn p u9) from rfl, hp]
      exact ⟨⟨1 + 1, rfl, p2, rfl, .inr (.inr (.inl ⟨rfl, hh3⟩))⟩, by simp [intOf]⟩
    · have d4 : (on u0).cell? ⟨w.heap.size + 1 + 1, 4, none⟩ = some (.int .i64 (0)) := held_cell hh 4
      have d5 : (on u0).cell? ⟨w.heap.size + 1 + 1, 5, none⟩ = some (.int .i64 (2)) := held_cell hh 5
      go_wp2_with fail
      refine region_tail 10 (by kernel_rfl) (by kernel_rfl) ?_
      simp only [List.take_succ_cons, List.take_zero, List.drop_succ_cons, List.drop_zero]
      repeat (first
        | (refine wpLex_plain (by rfl) (by rfl) (by rfl) (fun K hK => ?_); go_big_quiet_op; refine hK _ ?_; clear hK K)
        | (refine wpLex_call (by rfl) (by rfl) (fun K hK => ?_); go_simp; apply Exists.intro; refine ⟨fun _ => ?_, hK _ ?_⟩; ((fail)); clear hK K)
        | (refine wpLex_new (by rfl) ?_; simp only [Act.put, List.setIfInBounds_toArray, List.set_cons_zero, List.set_cons_succ]))
      refine wpLex_nil ?_
      intro u9
      have m := held_on u9 hh
      have f0 : (on u9).frozen? ⟨w.heap.size + 1 + 1, 4, none⟩ = false := held_free m 4
      have e0 : (on u9).cell? ⟨w.heap.size + 1 + 1, 4, none⟩ = some (.int .i64 (0)) := held_cell m 4
      go_wp2_with fail
      obtain ⟨p, hp, hh2⟩ := stored1 (u := thn u0 u9) hB m 4 (.int .i64 (2 * x))
      rw [show on u9 = on (thn u0 u9) from rfl, hp]
      clear hp f0 e0 m d4 d5 hh hq
      have hq : Below w.heap.size w (on p) := below_on (below_alloc (below_alloc (Below.refl _ _) _) _) p
      have d4 : (on p).cell? ⟨w.heap.size + 1 + 1, 4, none⟩ = some (.int .i64 (2 * x)) := held_cell hh2 4
      have d5 : (on p).cell? ⟨w.heap.size + 1 + 1, 5, none⟩ = some (.int .i64 (2)) := held_cell hh2 5
      refine region_tail 10 (by kernel_rfl) (by kernel_rfl) ?_
      simp only [List.take_succ_cons, List.take_zero, List.drop_succ_cons, List.drop_zero]
      repeat (first
        | (refine wpLex_plain (by rfl) (by rfl) (by rfl) (fun K hK => ?_); go_big_quiet_op; refine hK _ ?_; clear hK K)
        | (refine wpLex_call (by rfl) (by rfl) (fun K hK => ?_); go_simp; apply Exists.intro; refine ⟨fun _ => ?_, hK _ ?_⟩; ((fail)); clear hK K)
        | (refine wpLex_new (by rfl) ?_; simp only [Act.put, List.setIfInBounds_toArray, List.set_cons_zero, List.set_cons_succ]))
      refine wpLex_nil ?_
      intro u9
      have m := held_on u9 hh2
      have f0 : (on u9).frozen? ⟨w.heap.size + 1 + 1, 5, none⟩ = false := held_free m 5
      have e0 : (on u9).cell? ⟨w.heap.size + 1 + 1, 5, none⟩ = some (.int .i64 (2)) := held_cell m 5
      go_wp2_with fail
      obtain ⟨p2, hp, hh3⟩ := stored1 (u := thn p u9) hB m 5 (.int .i64 (2 + 2 * y))
      rw [show on u9 = on (thn p u9) from rfl, hp]
      exact ⟨⟨2 + 1, rfl, p2, rfl, .inr (.inr (.inr (⟨rfl, hh3⟩)))⟩, by simp [intOf]⟩
    · have d0 : (on u0).cell? ⟨w.heap.size + 1 + 1, 0, none⟩ = some (.int .i64 (1 + 2 * x)) := held_cell hh 0
      have d1 : (on u0).cell? ⟨w.heap.size + 1 + 1, 1, none⟩ = some (.int .i64 (1 + 2 * y)) := held_cell hh 1
      have d2 : (on u0).cell? ⟨w.heap.size + 1 + 1, 2, none⟩ = some (.int .i64 (2 * x)) := held_cell hh 2
      have d3 : (on u0).cell? ⟨w.heap.size + 1 + 1, 3, none⟩ = some (.int .i64 (2 * y)) := held_cell hh 3
      have d4 : (on u0).cell? ⟨w.heap.size + 1 + 1, 4, none⟩ = some (.int .i64 (2 * x)) := held_cell hh 4
      have d5 : (on u0).cell? ⟨w.heap.size + 1 + 1, 5, none⟩ = some (.int .i64 (2 + 2 * y)) := held_cell hh 5
      go_wp2_with fail
      exact bodyPost_ret (v := .agg #[.int .i64 (1 + 2 * x), .int .i64 (1 + 2 * y), .int .i64 (2 * x), .int .i64 (2 * y), .int .i64 (2 * x), .int .i64 (2 + 2 * y)]) (by simp [results, Tryd.results43, go_sem, d0, d1, d2, d3, d4, d5]) rfl ⟨rfl, (by repeat first | (with_reducible exact hq) | (with_reducible refine below_on ?_ _) | (with_reducible refine below_alloc ?_ _) | (with_reducible refine below_set ?_ (by simp; try omega) _))⟩

end Go.Proofs.YtgkiliijefkcaaaDoor
