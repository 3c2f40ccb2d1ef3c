/-
  Says: CellsNeighbour answers true, by where the other cell lies.
-/
import Derived.Test.YtgkiliijefkcaaaDoorCv1
import Derived.Test.YtgkiliijefkcaaaDoorCr5
import Derived.Test.YtgkiliijefkcaaaDoorCf4
import Derived.Test.YtgkiliijefkcaaaDoorCb
set_option linter.unusedVariables false
set_option linter.unusedSimpArgs false
namespace Go.Proofs.YtgkiliijefkcaaaDoor
open Go Go.RowKit

attribute [local go_sem] World.cell?_alloc_some frozen?_alloc_cells fz0 fz1 fz2 fz3 fz4 fz5
attribute [local go_sem] eql_pt3

set_option maxRecDepth 100000 in
set_option maxHeartbeats 8000000 in
theorem cneiL_1far (x y q e l m n a b c X0 Y0 Q0 X1 Y1 Q1 X2 Y2 Q2  : Int) (w : World) (hL : Lay w) (c1 : -4096 ≤ x) (c2 : x ≤ 4096) (c3 : -4096 ≤ y) (c4 : y ≤ 4096) (c5 : 0 ≤ q) (c6 : q ≤ 3) (e1 : 0 ≤ e) (e2 : e ≤ 2)
    (TO : ∀ W, Lay W → Calls Tryd.prog 20 #[cl x y q, cl l m n] W fun r w' => r = .returned (.tuple #[.int .u8 1, .int .i64 0]) ∧ Below W.heap.size W w')
    (VO : ∀ W, Calls Tryd.prog 13 #[cl l m n] W fun r w' => r = .returned (.int .i64 1) ∧ Below W.heap.size W w') (R0 : ∀ W, Calls Tryd.prog 21 #[cl x y q, .int .i64 0] W fun r w' => r = .returned (cl X0 Y0 Q0) ∧ Below W.heap.size W w') (I0 : ∀ (α : Type) (R1 R2 : α), (if X0 = l then if Y0 = m then if Q0 = n then R1 else R2 else R2 else R2) = R2) (R1 : ∀ W, Calls Tryd.prog 21 #[cl x y q, .int .i64 1] W fun r w' => r = .returned (cl X1 Y1 Q1) ∧ Below W.heap.size W w') (I1 : ∀ (α : Type) (R1 R2 : α), (if X1 = l then if Y1 = m then if Q1 = n then R1 else R2 else R2 else R2) = R1) (R2 : ∀ W, Calls Tryd.prog 21 #[cl x y q, .int .i64 2] W fun r w' => r = .returned (cl X2 Y2 Q2) ∧ Below W.heap.size W w') (I2 : ∀ (α : Type) (R1 R2 : α), (if X2 = l then if Y2 = m then if Q2 = n then R1 else R2 else R2 else R2) = R2)
    (RE : ∀ W, Calls Tryd.prog 21 #[cl x y q, .int .i64 e] W fun r w' => r = .returned (cl a b c) ∧ Below W.heap.size W w')
    (VE : ∀ W, Calls Tryd.prog 13 #[cl a b c] W fun r w' => r = .returned (.int .i64 0) ∧ Below W.heap.size W w')
    (N1 : ∀ W, Lay W → Calls Tryd.prog 19 #[cl x y q, .int .u8 e] W fun r w' => r = .returned (.tuple #[cl 0 0 0, .int .i64 3]) ∧ Below W.heap.size W w')  : Calls Tryd.prog 4 #[cl x y q, .int .u8 e, cl l m n] w fun r w' => r = .returned (.bool true) ∧ Below w.heap.size w w' := by
  have hL' : ∀ W, Below w.heap.size w W → Lay W := fun W h => lay_below hL h
  go_enter Tryd.func4, Tryd.ntmps4
  go_wp2_with fail
  have hB0 : Below w.heap.size w ((w.alloc (.cells #[.int .i64 (x), .int .i64 (y), .int .u8 (q)] 23)).alloc (.cells #[.int .i64 (l), .int .i64 (m), .int .u8 (n)] 23)) := (by repeat first | (with_reducible exact Below.refl _ _) | (with_reducible refine below_on ?_ _) | (with_reducible refine below_alloc ?_ _) | (with_reducible refine below_set ?_ (by simp; try omega) _))
  have b00 : ((w.alloc (.cells #[.int .i64 (x), .int .i64 (y), .int .u8 (q)] 23)).alloc (.cells #[.int .i64 (l), .int .i64 (m), .int .u8 (n)] 23)).cell? ⟨w.heap.size, 0, none⟩ = some (.int .i64 (x)) := by simp [go_sem]
  have b01 : ((w.alloc (.cells #[.int .i64 (x), .int .i64 (y), .int .u8 (q)] 23)).alloc (.cells #[.int .i64 (l), .int .i64 (m), .int .u8 (n)] 23)).cell? ⟨w.heap.size, 1, none⟩ = some (.int .i64 (y)) := by simp [go_sem]
  have b02 : ((w.alloc (.cells #[.int .i64 (x), .int .i64 (y), .int .u8 (q)] 23)).alloc (.cells #[.int .i64 (l), .int .i64 (m), .int .u8 (n)] 23)).cell? ⟨w.heap.size, 2, none⟩ = some (.int .u8 (q)) := by simp [go_sem]
  have b10 : ((w.alloc (.cells #[.int .i64 (x), .int .i64 (y), .int .u8 (q)] 23)).alloc (.cells #[.int .i64 (l), .int .i64 (m), .int .u8 (n)] 23)).cell? ⟨w.heap.size + 1, 0, none⟩ = some (.int .i64 (l)) := by simp [go_sem]
  have b11 : ((w.alloc (.cells #[.int .i64 (x), .int .i64 (y), .int .u8 (q)] 23)).alloc (.cells #[.int .i64 (l), .int .i64 (m), .int .u8 (n)] 23)).cell? ⟨w.heap.size + 1, 1, none⟩ = some (.int .i64 (m)) := by simp [go_sem]
  have b12 : ((w.alloc (.cells #[.int .i64 (x), .int .i64 (y), .int .u8 (q)] 23)).alloc (.cells #[.int .i64 (l), .int .i64 (m), .int .u8 (n)] 23)).cell? ⟨w.heap.size + 1, 2, none⟩ = some (.int .u8 (n)) := by simp [go_sem]
  generalize ((w.alloc (.cells #[.int .i64 (x), .int .i64 (y), .int .u8 (q)] 23)).alloc (.cells #[.int .i64 (l), .int .i64 (m), .int .u8 (n)] 23)) = W0 at *
  go_wp2_with (first | (go_at_call 19; with_reducible refine (N1 _ (lyb hL)).mono ?_; rintro e wx ⟨rfl, hx⟩; obtain ⟨ux, rfl⟩ := after hx; clear hx) | fail)
  have hR : Below W0.heap.size W0 ((on ux).alloc (.cells #[.int .i64 0, .int .i64 0, .int .u8 0] 23)) := belr
  replace b00 := cRy hR b00
  replace b01 := cRy hR b01
  replace b02 := cRy hR b02
  replace b10 := cRy hR b10
  replace b11 := cRy hR b11
  replace b12 := cRy hR b12
  have hB1 := hB0.trans (hR.mono hB0.size)
  have hN : ((on ux).alloc (.cells #[.int .i64 0, .int .i64 0, .int .u8 0] 23)).heap[(on ux).heap.size]? = some (.cells #[.int .i64 0, .int .i64 0, .int .u8 0] 23) := heap_alloc_new _ _
  clear hR hB0
  generalize ((on ux).alloc (.cells #[.int .i64 0, .int .i64 0, .int .u8 0] 23)) = W1 at *
  generalize (on ux).heap.size = B1 at *
  clear ux
  have B100 : W1.cell? ⟨B1, 0, none⟩ = some (.int .i64 0) := held_cell hN 0
  have B101 : W1.cell? ⟨B1, 1, none⟩ = some (.int .i64 0) := held_cell hN 1
  have B102 : W1.cell? ⟨B1, 2, none⟩ = some (.int .u8 0) := held_cell hN 2
  clear hN
  go_wp2_with (first | (go_at_call 20; with_reducible refine (TO _ (lyb hL)).mono ?_; rintro e wx ⟨rfl, hx⟩; obtain ⟨ux, rfl⟩ := after hx; clear hx) | fail)
  have hR : Below W1.heap.size W1 (on ux) := belr
  replace b00 := cRy hR b00
  replace b01 := cRy hR b01
  replace b02 := cRy hR b02
  replace b10 := cRy hR b10
  replace b11 := cRy hR b11
  replace b12 := cRy hR b12
  replace B100 := cRy hR B100
  replace B101 := cRy hR B101
  replace B102 := cRy hR B102
  have hB2 := hB1.trans (hR.mono hB1.size)
  clear hR hB1
  generalize (on ux) = W2 at *
  clear ux
  go_wp2_with (first | (go_at_call 13; with_reducible refine (rvalid_yes x y q _ c1 c2 c3 c4 c5 c6).mono ?_; rintro e wx ⟨rfl, hx⟩; obtain ⟨ux, rfl⟩ := after hx; clear hx) | fail)
  have hR : Below W2.heap.size W2 (on ux) := belr
  replace b00 := cRy hR b00
  replace b01 := cRy hR b01
  replace b02 := cRy hR b02
  replace b10 := cRy hR b10
  replace b11 := cRy hR b11
  replace b12 := cRy hR b12
  replace B100 := cRy hR B100
  replace B101 := cRy hR B101
  replace B102 := cRy hR B102
  have hB3 := hB2.trans (hR.mono hB2.size)
  clear hR hB2
  generalize (on ux) = W3 at *
  clear ux
  go_loopw [11, 12] (fun mv_ iv wr => ∃ i M : Int, iv = .int .i64 i ∧ mv_ = .int .i64 M ∧ ((i = 0 ∧ 0 = M) ∨ (i = 1 ∧ 0 = M) ∨ (i = 2 ∧ 1 = M) ∨ (i = 3 ∧ 1 = M)) ∧ ∃ u : Later W3, wr = on u) (fun _ iv _ => (3 - intOf iv).toNat)
  case atStart => exact ⟨0, 0, rfl, rfl, by omega, ⟨_, Below.refl _ _⟩, rfl⟩
  case round =>
    obtain ⟨i, M, rfl, rfl, hi, u0, rfl⟩ := hrel
    have hq : Below w.heap.size w (on u0) := below_on hB3 u0
    obtain ⟨rfl, rfl⟩ | ⟨rfl, rfl⟩ | ⟨rfl, rfl⟩ | ⟨rfl, rfl⟩ := hi
    · go_wp2_with fail
      refine region_later (by kernel_rfl) (by kernel_rfl) ?_
      repeat (go_big_quiet_step ((first | (go_at_call 13; with_reducible exact Calls.later (VO _)) | (go_at_call 21; with_reducible exact Calls.later (R0 _)) | fail)))
      refine wpQuiet_nil ?_
      rintro _ ⟨u9, rfl⟩
      go_wp2_with fail
      exact ⟨⟨0 + 1, 0, rfl, rfl, by omega, after belr⟩, by simp [intOf]⟩
    · go_wp2_with fail
      refine region_later (by kernel_rfl) (by kernel_rfl) ?_
      repeat (go_big_quiet_step ((first | (go_at_call 13; with_reducible exact Calls.later (VO _)) | (go_at_call 21; with_reducible exact Calls.later (R1 _)) | fail)))
      refine wpQuiet_nil ?_
      rintro _ ⟨u9, rfl⟩
      go_wp2_with fail
      exact ⟨⟨1 + 1, 1, rfl, rfl, by omega, after belr⟩, by simp [intOf]⟩
    · go_wp2_with fail
      refine region_later (by kernel_rfl) (by kernel_rfl) ?_
      repeat (go_big_quiet_step ((first | (go_at_call 13; with_reducible exact Calls.later (VO _)) | (go_at_call 21; with_reducible exact Calls.later (R2 _)) | fail)))
      refine wpQuiet_nil ?_
      rintro _ ⟨u9, rfl⟩
      go_wp2_with fail
      exact ⟨⟨2 + 1, 1, rfl, rfl, by omega, after belr⟩, by simp [intOf]⟩
    · have hQ : Below w.heap.size w (on u0) := hq
      have b00z := cRy (on_below u0) b00
      have b01z := cRy (on_below u0) b01
      have b02z := cRy (on_below u0) b02
      have b10z := cRy (on_below u0) b10
      have b11z := cRy (on_below u0) b11
      have b12z := cRy (on_below u0) b12
      have B100z := cRy (on_below u0) B100
      have B101z := cRy (on_below u0) B101
      have B102z := cRy (on_below u0) B102
      clear b00 b01 b02 b10 b11 b12 B100 B101 B102 hq hB3
      generalize on u0 = W3z at *
      clear u0
      go_wp2_with (first | (go_at_call 13; with_reducible refine (VO _).mono ?_; rintro e wx ⟨rfl, hx⟩; obtain ⟨ux, rfl⟩ := after hx; clear hx) | fail)
      have hR : Below W3z.heap.size W3z (on ux) := belr
      replace b00z := cRy hR b00z
      replace b01z := cRy hR b01z
      replace b02z := cRy hR b02z
      replace b10z := cRy hR b10z
      replace b11z := cRy hR b11z
      replace b12z := cRy hR b12z
      replace B100z := cRy hR B100z
      replace B101z := cRy hR B101z
      replace B102z := cRy hR B102z
      have hB4 := hQ.trans (hR.mono hQ.size)
      clear hR hQ
      generalize (on ux) = W4 at *
      clear ux
      go_wp2_with (first | (go_at_call 21; with_reducible refine (RE _).mono ?_; rintro e wx ⟨rfl, hx⟩; obtain ⟨ux, rfl⟩ := after hx; clear hx) | fail)
      have hR : Below W4.heap.size W4 ((on ux).alloc (.cells #[.int .i64 (a), .int .i64 (b), .int .u8 (c)] 23)) := belr
      replace b00z := cRy hR b00z
      replace b01z := cRy hR b01z
      replace b02z := cRy hR b02z
      replace b10z := cRy hR b10z
      replace b11z := cRy hR b11z
      replace b12z := cRy hR b12z
      replace B100z := cRy hR B100z
      replace B101z := cRy hR B101z
      replace B102z := cRy hR B102z
      have hB5 := hB4.trans (hR.mono hB4.size)
      have hN : ((on ux).alloc (.cells #[.int .i64 (a), .int .i64 (b), .int .u8 (c)] 23)).heap[(on ux).heap.size]? = some (.cells #[.int .i64 (a), .int .i64 (b), .int .u8 (c)] 23) := heap_alloc_new _ _
      clear hR hB4
      generalize ((on ux).alloc (.cells #[.int .i64 (a), .int .i64 (b), .int .u8 (c)] 23)) = W5 at *
      generalize (on ux).heap.size = B5 at *
      clear ux
      have B500 : W5.cell? ⟨B5, 0, none⟩ = some (.int .i64 (a)) := held_cell hN 0
      have B501 : W5.cell? ⟨B5, 1, none⟩ = some (.int .i64 (b)) := held_cell hN 1
      have B502 : W5.cell? ⟨B5, 2, none⟩ = some (.int .u8 (c)) := held_cell hN 2
      clear hN
      go_wp2_with (first | (go_at_call 13; with_reducible refine (VE _).mono ?_; rintro e wx ⟨rfl, hx⟩; obtain ⟨ux, rfl⟩ := after hx; clear hx) | fail)
      go_wp2_with (first | (go_at_call 15; with_reducible refine (clives_ok _ (lyb hL)).mono ?_; rintro e wx ⟨rfl, hx⟩; obtain ⟨ux, rfl⟩ := after hx; clear hx) | fail)
      go_ret
      exact ⟨by first | rfl | (simp; done) | (simp; omega), belw⟩

set_option maxRecDepth 100000 in
set_option maxHeartbeats 8000000 in
theorem cneiL_1none (x y q e l m n a b c X0 Y0 Q0 X1 Y1 Q1 X2 Y2 Q2 K C : Int) (w : World) (hL : Lay w) (c1 : -4096 ≤ x) (c2 : x ≤ 4096) (c3 : -4096 ≤ y) (c4 : y ≤ 4096) (c5 : 0 ≤ q) (c6 : q ≤ 3) (e1 : 0 ≤ e) (e2 : e ≤ 2)
    (TO : ∀ W, Lay W → Calls Tryd.prog 20 #[cl x y q, cl l m n] W fun r w' => r = .returned (.tuple #[.int .u8 1, .int .i64 0]) ∧ Below W.heap.size W w')
    (VO : ∀ W, Calls Tryd.prog 13 #[cl l m n] W fun r w' => r = .returned (.int .i64 1) ∧ Below W.heap.size W w') (R0 : ∀ W, Calls Tryd.prog 21 #[cl x y q, .int .i64 0] W fun r w' => r = .returned (cl X0 Y0 Q0) ∧ Below W.heap.size W w') (I0 : ∀ (α : Type) (R1 R2 : α), (if X0 = l then if Y0 = m then if Q0 = n then R1 else R2 else R2 else R2) = R2) (R1 : ∀ W, Calls Tryd.prog 21 #[cl x y q, .int .i64 1] W fun r w' => r = .returned (cl X1 Y1 Q1) ∧ Below W.heap.size W w') (I1 : ∀ (α : Type) (R1 R2 : α), (if X1 = l then if Y1 = m then if Q1 = n then R1 else R2 else R2 else R2) = R1) (R2 : ∀ W, Calls Tryd.prog 21 #[cl x y q, .int .i64 2] W fun r w' => r = .returned (cl X2 Y2 Q2) ∧ Below W.heap.size W w') (I2 : ∀ (α : Type) (R1 R2 : α), (if X2 = l then if Y2 = m then if Q2 = n then R1 else R2 else R2 else R2) = R2)
    (RE : ∀ W, Calls Tryd.prog 21 #[cl x y q, .int .i64 e] W fun r w' => r = .returned (cl a b c) ∧ Below W.heap.size W w')
    (VE : ∀ W, Calls Tryd.prog 13 #[cl a b c] W fun r w' => r = .returned (.int .i64 1) ∧ Below W.heap.size W w')
    (N1 : ∀ W, Lay W → Calls Tryd.prog 19 #[cl x y q, .int .u8 e] W fun r w' => r = .returned (.tuple #[cl a b c, .int .i64 0]) ∧ Below W.heap.size W w') 
    (N2 : ∀ W, Lay W → Calls Tryd.prog 19 #[cl a b c, .int .u8 e] W fun r w' => r = .returned (.tuple #[cl x y q, .int .i64 0]) ∧ Below W.heap.size W w')
    (T2 : ∀ W, Lay W → Calls Tryd.prog 20 #[cl x y q, cl a b c] W fun r w' => r = .returned (.tuple #[.int .u8 e, .int .i64 0]) ∧ Below W.heap.size W w')
    (LI : ∀ W, Calls Tryd.prog 17 #[cl x y q, .int .i64 e] W fun r w' => r = .returned (ln K C) ∧ Below W.heap.size W w')
    (VL : ∀ W, Calls Tryd.prog 18 #[ln K C] W fun r w' => r = .returned (.int .i64 0) ∧ Below W.heap.size W w')  : Calls Tryd.prog 4 #[cl x y q, .int .u8 e, cl l m n] w fun r w' => r = .returned (.bool true) ∧ Below w.heap.size w w' := by
  have hL' : ∀ W, Below w.heap.size w W → Lay W := fun W h => lay_below hL h
  go_enter Tryd.func4, Tryd.ntmps4
  go_wp2_with fail
  have hB0 : Below w.heap.size w ((w.alloc (.cells #[.int .i64 (x), .int .i64 (y), .int .u8 (q)] 23)).alloc (.cells #[.int .i64 (l), .int .i64 (m), .int .u8 (n)] 23)) := (by repeat first | (with_reducible exact Below.refl _ _) | (with_reducible refine below_on ?_ _) | (with_reducible refine below_alloc ?_ _) | (with_reducible refine below_set ?_ (by simp; try omega) _))
  have b00 : ((w.alloc (.cells #[.int .i64 (x), .int .i64 (y), .int .u8 (q)] 23)).alloc (.cells #[.int .i64 (l), .int .i64 (m), .int .u8 (n)] 23)).cell? ⟨w.heap.size, 0, none⟩ = some (.int .i64 (x)) := by simp [go_sem]
  have b01 : ((w.alloc (.cells #[.int .i64 (x), .int .i64 (y), .int .u8 (q)] 23)).alloc (.cells #[.int .i64 (l), .int .i64 (m), .int .u8 (n)] 23)).cell? ⟨w.heap.size, 1, none⟩ = some (.int .i64 (y)) := by simp [go_sem]
  have b02 : ((w.alloc (.cells #[.int .i64 (x), .int .i64 (y), .int .u8 (q)] 23)).alloc (.cells #[.int .i64 (l), .int .i64 (m), .int .u8 (n)] 23)).cell? ⟨w.heap.size, 2, none⟩ = some (.int .u8 (q)) := by simp [go_sem]
  have b10 : ((w.alloc (.cells #[.int .i64 (x), .int .i64 (y), .int .u8 (q)] 23)).alloc (.cells #[.int .i64 (l), .int .i64 (m), .int .u8 (n)] 23)).cell? ⟨w.heap.size + 1, 0, none⟩ = some (.int .i64 (l)) := by simp [go_sem]
  have b11 : ((w.alloc (.cells #[.int .i64 (x), .int .i64 (y), .int .u8 (q)] 23)).alloc (.cells #[.int .i64 (l), .int .i64 (m), .int .u8 (n)] 23)).cell? ⟨w.heap.size + 1, 1, none⟩ = some (.int .i64 (m)) := by simp [go_sem]
  have b12 : ((w.alloc (.cells #[.int .i64 (x), .int .i64 (y), .int .u8 (q)] 23)).alloc (.cells #[.int .i64 (l), .int .i64 (m), .int .u8 (n)] 23)).cell? ⟨w.heap.size + 1, 2, none⟩ = some (.int .u8 (n)) := by simp [go_sem]
  generalize ((w.alloc (.cells #[.int .i64 (x), .int .i64 (y), .int .u8 (q)] 23)).alloc (.cells #[.int .i64 (l), .int .i64 (m), .int .u8 (n)] 23)) = W0 at *
  go_wp2_with (first | (go_at_call 19; with_reducible refine (N1 _ (lyb hL)).mono ?_; rintro e wx ⟨rfl, hx⟩; obtain ⟨ux, rfl⟩ := after hx; clear hx) | fail)
  have hR : Below W0.heap.size W0 ((on ux).alloc (.cells #[.int .i64 (a), .int .i64 (b), .int .u8 (c)] 23)) := belr
  replace b00 := cRy hR b00
  replace b01 := cRy hR b01
  replace b02 := cRy hR b02
  replace b10 := cRy hR b10
  replace b11 := cRy hR b11
  replace b12 := cRy hR b12
  have hB1 := hB0.trans (hR.mono hB0.size)
  have hN : ((on ux).alloc (.cells #[.int .i64 (a), .int .i64 (b), .int .u8 (c)] 23)).heap[(on ux).heap.size]? = some (.cells #[.int .i64 (a), .int .i64 (b), .int .u8 (c)] 23) := heap_alloc_new _ _
  clear hR hB0
  generalize ((on ux).alloc (.cells #[.int .i64 (a), .int .i64 (b), .int .u8 (c)] 23)) = W1 at *
  generalize (on ux).heap.size = B1 at *
  clear ux
  have B100 : W1.cell? ⟨B1, 0, none⟩ = some (.int .i64 (a)) := held_cell hN 0
  have B101 : W1.cell? ⟨B1, 1, none⟩ = some (.int .i64 (b)) := held_cell hN 1
  have B102 : W1.cell? ⟨B1, 2, none⟩ = some (.int .u8 (c)) := held_cell hN 2
  clear hN
  go_wp2_with (first | (go_at_call 20; with_reducible refine (TO _ (lyb hL)).mono ?_; rintro e wx ⟨rfl, hx⟩; obtain ⟨ux, rfl⟩ := after hx; clear hx) | fail)
  have hR : Below W1.heap.size W1 (on ux) := belr
  replace b00 := cRy hR b00
  replace b01 := cRy hR b01
  replace b02 := cRy hR b02
  replace b10 := cRy hR b10
  replace b11 := cRy hR b11
  replace b12 := cRy hR b12
  replace B100 := cRy hR B100
  replace B101 := cRy hR B101
  replace B102 := cRy hR B102
  have hB2 := hB1.trans (hR.mono hB1.size)
  clear hR hB1
  generalize (on ux) = W2 at *
  clear ux
  go_wp2_with (first | (go_at_call 13; with_reducible refine (rvalid_yes x y q _ c1 c2 c3 c4 c5 c6).mono ?_; rintro e wx ⟨rfl, hx⟩; obtain ⟨ux, rfl⟩ := after hx; clear hx) | fail)
  have hR : Below W2.heap.size W2 (on ux) := belr
  replace b00 := cRy hR b00
  replace b01 := cRy hR b01
  replace b02 := cRy hR b02
  replace b10 := cRy hR b10
  replace b11 := cRy hR b11
  replace b12 := cRy hR b12
  replace B100 := cRy hR B100
  replace B101 := cRy hR B101
  replace B102 := cRy hR B102
  have hB3 := hB2.trans (hR.mono hB2.size)
  clear hR hB2
  generalize (on ux) = W3 at *
  clear ux
  go_loopw [11, 12] (fun mv_ iv wr => ∃ i M : Int, iv = .int .i64 i ∧ mv_ = .int .i64 M ∧ ((i = 0 ∧ 0 = M) ∨ (i = 1 ∧ 0 = M) ∨ (i = 2 ∧ 1 = M) ∨ (i = 3 ∧ 1 = M)) ∧ ∃ u : Later W3, wr = on u) (fun _ iv _ => (3 - intOf iv).toNat)
  case atStart => exact ⟨0, 0, rfl, rfl, by omega, ⟨_, Below.refl _ _⟩, rfl⟩
  case round =>
    obtain ⟨i, M, rfl, rfl, hi, u0, rfl⟩ := hrel
    have hq : Below w.heap.size w (on u0) := below_on hB3 u0
    obtain ⟨rfl, rfl⟩ | ⟨rfl, rfl⟩ | ⟨rfl, rfl⟩ | ⟨rfl, rfl⟩ := hi
    · go_wp2_with fail
      refine region_later (by kernel_rfl) (by kernel_rfl) ?_
      repeat (go_big_quiet_step ((first | (go_at_call 13; with_reducible exact Calls.later (VO _)) | (go_at_call 21; with_reducible exact Calls.later (R0 _)) | fail)))
      refine wpQuiet_nil ?_
      rintro _ ⟨u9, rfl⟩
      go_wp2_with fail
      exact ⟨⟨0 + 1, 0, rfl, rfl, by omega, after belr⟩, by simp [intOf]⟩
    · go_wp2_with fail
      refine region_later (by kernel_rfl) (by kernel_rfl) ?_
      repeat (go_big_quiet_step ((first | (go_at_call 13; with_reducible exact Calls.later (VO _)) | (go_at_call 21; with_reducible exact Calls.later (R1 _)) | fail)))
      refine wpQuiet_nil ?_
      rintro _ ⟨u9, rfl⟩
      go_wp2_with fail
      exact ⟨⟨1 + 1, 1, rfl, rfl, by omega, after belr⟩, by simp [intOf]⟩
    · go_wp2_with fail
      refine region_later (by kernel_rfl) (by kernel_rfl) ?_
      repeat (go_big_quiet_step ((first | (go_at_call 13; with_reducible exact Calls.later (VO _)) | (go_at_call 21; with_reducible exact Calls.later (R2 _)) | fail)))
      refine wpQuiet_nil ?_
      rintro _ ⟨u9, rfl⟩
      go_wp2_with fail
      exact ⟨⟨2 + 1, 1, rfl, rfl, by omega, after belr⟩, by simp [intOf]⟩
    · have hQ : Below w.heap.size w (on u0) := hq
      have b00z := cRy (on_below u0) b00
      have b01z := cRy (on_below u0) b01
      have b02z := cRy (on_below u0) b02
      have b10z := cRy (on_below u0) b10
      have b11z := cRy (on_below u0) b11
      have b12z := cRy (on_below u0) b12
      have B100z := cRy (on_below u0) B100
      have B101z := cRy (on_below u0) B101
      have B102z := cRy (on_below u0) B102
      clear b00 b01 b02 b10 b11 b12 B100 B101 B102 hq hB3
      generalize on u0 = W3z at *
      clear u0
      go_wp2_with (first | (go_at_call 13; with_reducible refine (VO _).mono ?_; rintro e wx ⟨rfl, hx⟩; obtain ⟨ux, rfl⟩ := after hx; clear hx) | fail)
      have hR : Below W3z.heap.size W3z (on ux) := belr
      replace b00z := cRy hR b00z
      replace b01z := cRy hR b01z
      replace b02z := cRy hR b02z
      replace b10z := cRy hR b10z
      replace b11z := cRy hR b11z
      replace b12z := cRy hR b12z
      replace B100z := cRy hR B100z
      replace B101z := cRy hR B101z
      replace B102z := cRy hR B102z
      have hB4 := hQ.trans (hR.mono hQ.size)
      clear hR hQ
      generalize (on ux) = W4 at *
      clear ux
      go_wp2_with (first | (go_at_call 21; with_reducible refine (RE _).mono ?_; rintro e wx ⟨rfl, hx⟩; obtain ⟨ux, rfl⟩ := after hx; clear hx) | fail)
      have hR : Below W4.heap.size W4 ((on ux).alloc (.cells #[.int .i64 (a), .int .i64 (b), .int .u8 (c)] 23)) := belr
      replace b00z := cRy hR b00z
      replace b01z := cRy hR b01z
      replace b02z := cRy hR b02z
      replace b10z := cRy hR b10z
      replace b11z := cRy hR b11z
      replace b12z := cRy hR b12z
      replace B100z := cRy hR B100z
      replace B101z := cRy hR B101z
      replace B102z := cRy hR B102z
      have hB5 := hB4.trans (hR.mono hB4.size)
      have hN : ((on ux).alloc (.cells #[.int .i64 (a), .int .i64 (b), .int .u8 (c)] 23)).heap[(on ux).heap.size]? = some (.cells #[.int .i64 (a), .int .i64 (b), .int .u8 (c)] 23) := heap_alloc_new _ _
      clear hR hB4
      generalize ((on ux).alloc (.cells #[.int .i64 (a), .int .i64 (b), .int .u8 (c)] 23)) = W5 at *
      generalize (on ux).heap.size = B5 at *
      clear ux
      have B500 : W5.cell? ⟨B5, 0, none⟩ = some (.int .i64 (a)) := held_cell hN 0
      have B501 : W5.cell? ⟨B5, 1, none⟩ = some (.int .i64 (b)) := held_cell hN 1
      have B502 : W5.cell? ⟨B5, 2, none⟩ = some (.int .u8 (c)) := held_cell hN 2
      clear hN
      go_wp2_with (first | (go_at_call 13; with_reducible refine (VE _).mono ?_; rintro e wx ⟨rfl, hx⟩; obtain ⟨ux, rfl⟩ := after hx; clear hx) | fail)
      have hR : Below W5.heap.size W5 (on ux) := belr
      replace b00z := cRy hR b00z
      replace b01z := cRy hR b01z
      replace b02z := cRy hR b02z
      replace b10z := cRy hR b10z
      replace b11z := cRy hR b11z
      replace b12z := cRy hR b12z
      replace B100z := cRy hR B100z
      replace B101z := cRy hR B101z
      replace B102z := cRy hR B102z
      replace B500 := cRy hR B500
      replace B501 := cRy hR B501
      replace B502 := cRy hR B502
      have hB6 := hB5.trans (hR.mono hB5.size)
      clear hR hB5
      generalize (on ux) = W6 at *
      clear ux
      go_wp2_with (first | (go_at_call 19; with_reducible refine (N2 _ (lyb hL)).mono ?_; rintro e wx ⟨rfl, hx⟩; obtain ⟨ux, rfl⟩ := after hx; clear hx) | fail)
      have hR : Below W6.heap.size W6 ((on ux).alloc (.cells #[.int .i64 (x), .int .i64 (y), .int .u8 (q)] 23)) := belr
      replace b00z := cRy hR b00z
      replace b01z := cRy hR b01z
      replace b02z := cRy hR b02z
      replace b10z := cRy hR b10z
      replace b11z := cRy hR b11z
      replace b12z := cRy hR b12z
      replace B100z := cRy hR B100z
      replace B101z := cRy hR B101z
      replace B102z := cRy hR B102z
      replace B500 := cRy hR B500
      replace B501 := cRy hR B501
      replace B502 := cRy hR B502
      have hB7 := hB6.trans (hR.mono hB6.size)
      have hN : ((on ux).alloc (.cells #[.int .i64 (x), .int .i64 (y), .int .u8 (q)] 23)).heap[(on ux).heap.size]? = some (.cells #[.int .i64 (x), .int .i64 (y), .int .u8 (q)] 23) := heap_alloc_new _ _
      clear hR hB6
      generalize ((on ux).alloc (.cells #[.int .i64 (x), .int .i64 (y), .int .u8 (q)] 23)) = W7 at *
      generalize (on ux).heap.size = B7 at *
      clear ux
      have B700 : W7.cell? ⟨B7, 0, none⟩ = some (.int .i64 (x)) := held_cell hN 0
      have B701 : W7.cell? ⟨B7, 1, none⟩ = some (.int .i64 (y)) := held_cell hN 1
      have B702 : W7.cell? ⟨B7, 2, none⟩ = some (.int .u8 (q)) := held_cell hN 2
      clear hN
      go_wp2_with (first | (go_at_call 20; with_reducible refine (T2 _ (lyb hL)).mono ?_; rintro e wx ⟨rfl, hx⟩; obtain ⟨ux, rfl⟩ := after hx; clear hx) | fail)
      have hR : Below W7.heap.size W7 (on ux) := belr
      replace b00z := cRy hR b00z
      replace b01z := cRy hR b01z
      replace b02z := cRy hR b02z
      replace b10z := cRy hR b10z
      replace b11z := cRy hR b11z
      replace b12z := cRy hR b12z
      replace B100z := cRy hR B100z
      replace B101z := cRy hR B101z
      replace B102z := cRy hR B102z
      replace B500 := cRy hR B500
      replace B501 := cRy hR B501
      replace B502 := cRy hR B502
      replace B700 := cRy hR B700
      replace B701 := cRy hR B701
      replace B702 := cRy hR B702
      have hB8 := hB7.trans (hR.mono hB7.size)
      clear hR hB7
      generalize (on ux) = W8 at *
      clear ux
      go_wp2_with (first | (go_at_call 17; with_reducible refine (LI _).mono ?_; rintro e wx ⟨rfl, hx⟩; obtain ⟨ux, rfl⟩ := after hx; clear hx) | fail)
      have hR : Below W8.heap.size W8 ((on ux).alloc (.cells #[.int .u8 (K), .int .i64 (C)] 26)) := belr
      replace b00z := cRy hR b00z
      replace b01z := cRy hR b01z
      replace b02z := cRy hR b02z
      replace b10z := cRy hR b10z
      replace b11z := cRy hR b11z
      replace b12z := cRy hR b12z
      replace B100z := cRy hR B100z
      replace B101z := cRy hR B101z
      replace B102z := cRy hR B102z
      replace B500 := cRy hR B500
      replace B501 := cRy hR B501
      replace B502 := cRy hR B502
      replace B700 := cRy hR B700
      replace B701 := cRy hR B701
      replace B702 := cRy hR B702
      have hB9 := hB8.trans (hR.mono hB8.size)
      have hN : ((on ux).alloc (.cells #[.int .u8 (K), .int .i64 (C)] 26)).heap[(on ux).heap.size]? = some (.cells #[.int .u8 (K), .int .i64 (C)] 26) := heap_alloc_new _ _
      clear hR hB8
      generalize ((on ux).alloc (.cells #[.int .u8 (K), .int .i64 (C)] 26)) = W9 at *
      generalize (on ux).heap.size = B9 at *
      clear ux
      have B900 : W9.cell? ⟨B9, 0, none⟩ = some (.int .u8 (K)) := held_cell hN 0
      have B901 : W9.cell? ⟨B9, 1, none⟩ = some (.int .i64 (C)) := held_cell hN 1
      clear hN
      go_wp2_with (first | (go_at_call 18; with_reducible refine (VL _).mono ?_; rintro e wx ⟨rfl, hx⟩; obtain ⟨ux, rfl⟩ := after hx; clear hx) | fail)
      have hR : Below W9.heap.size W9 (on ux) := belr
      replace b00z := cRy hR b00z
      replace b01z := cRy hR b01z
      replace b02z := cRy hR b02z
      replace b10z := cRy hR b10z
      replace b11z := cRy hR b11z
      replace b12z := cRy hR b12z
      replace B100z := cRy hR B100z
      replace B101z := cRy hR B101z
      replace B102z := cRy hR B102z
      replace B500 := cRy hR B500
      replace B501 := cRy hR B501
      replace B502 := cRy hR B502
      replace B700 := cRy hR B700
      replace B701 := cRy hR B701
      replace B702 := cRy hR B702
      replace B900 := cRy hR B900
      replace B901 := cRy hR B901
      have hB10 := hB9.trans (hR.mono hB9.size)
      clear hR hB9
      generalize (on ux) = W10 at *
      clear ux
      go_wp2_with (first | (go_at_call 15; with_reducible refine (clives_ok _ (lyb hL)).mono ?_; rintro e wx ⟨rfl, hx⟩; obtain ⟨ux, rfl⟩ := after hx; clear hx) | fail)
      go_ret
      exact ⟨by first | rfl | (simp; done) | (simp; omega), belw⟩

set_option maxRecDepth 100000 in
set_option maxHeartbeats 8000000 in
theorem cneiL_1ok (x y q e l m n a b c X0 Y0 Q0 X1 Y1 Q1 X2 Y2 Q2 K C s1 s2 : Int) (w : World) (hL : Lay w) (c1 : -4096 ≤ x) (c2 : x ≤ 4096) (c3 : -4096 ≤ y) (c4 : y ≤ 4096) (c5 : 0 ≤ q) (c6 : q ≤ 3) (e1 : 0 ≤ e) (e2 : e ≤ 2)
    (TO : ∀ W, Lay W → Calls Tryd.prog 20 #[cl x y q, cl l m n] W fun r w' => r = .returned (.tuple #[.int .u8 1, .int .i64 0]) ∧ Below W.heap.size W w')
    (VO : ∀ W, Calls Tryd.prog 13 #[cl l m n] W fun r w' => r = .returned (.int .i64 1) ∧ Below W.heap.size W w') (R0 : ∀ W, Calls Tryd.prog 21 #[cl x y q, .int .i64 0] W fun r w' => r = .returned (cl X0 Y0 Q0) ∧ Below W.heap.size W w') (I0 : ∀ (α : Type) (R1 R2 : α), (if X0 = l then if Y0 = m then if Q0 = n then R1 else R2 else R2 else R2) = R2) (R1 : ∀ W, Calls Tryd.prog 21 #[cl x y q, .int .i64 1] W fun r w' => r = .returned (cl X1 Y1 Q1) ∧ Below W.heap.size W w') (I1 : ∀ (α : Type) (R1 R2 : α), (if X1 = l then if Y1 = m then if Q1 = n then R1 else R2 else R2 else R2) = R1) (R2 : ∀ W, Calls Tryd.prog 21 #[cl x y q, .int .i64 2] W fun r w' => r = .returned (cl X2 Y2 Q2) ∧ Below W.heap.size W w') (I2 : ∀ (α : Type) (R1 R2 : α), (if X2 = l then if Y2 = m then if Q2 = n then R1 else R2 else R2 else R2) = R2)
    (RE : ∀ W, Calls Tryd.prog 21 #[cl x y q, .int .i64 e] W fun r w' => r = .returned (cl a b c) ∧ Below W.heap.size W w')
    (VE : ∀ W, Calls Tryd.prog 13 #[cl a b c] W fun r w' => r = .returned (.int .i64 1) ∧ Below W.heap.size W w')
    (N1 : ∀ W, Lay W → Calls Tryd.prog 19 #[cl x y q, .int .u8 e] W fun r w' => r = .returned (.tuple #[cl a b c, .int .i64 0]) ∧ Below W.heap.size W w') 
    (N2 : ∀ W, Lay W → Calls Tryd.prog 19 #[cl a b c, .int .u8 e] W fun r w' => r = .returned (.tuple #[cl x y q, .int .i64 0]) ∧ Below W.heap.size W w')
    (T2 : ∀ W, Lay W → Calls Tryd.prog 20 #[cl x y q, cl a b c] W fun r w' => r = .returned (.tuple #[.int .u8 e, .int .i64 0]) ∧ Below W.heap.size W w')
    (LI : ∀ W, Calls Tryd.prog 17 #[cl x y q, .int .i64 e] W fun r w' => r = .returned (ln K C) ∧ Below W.heap.size W w')
    (VL : ∀ W, Calls Tryd.prog 18 #[ln K C] W fun r w' => r = .returned (.int .i64 1) ∧ Below W.heap.size W w') 
    (S1 : ∀ W, Lay W → Calls Tryd.prog 22 #[ln K C, cl x y q] W fun r w' => r = .returned (.tuple #[.int .i64 s1, .int .i64 0]) ∧ Below W.heap.size W w')
    (S2 : ∀ W, Lay W → Calls Tryd.prog 22 #[ln K C, cl a b c] W fun r w' => r = .returned (.tuple #[.int .i64 s2, .int .i64 0]) ∧ Below W.heap.size W w') (s1l : 0 ≤ s1) (s1h : s1 ≤ 1) (ss : s1 + s2 = 1) : Calls Tryd.prog 4 #[cl x y q, .int .u8 e, cl l m n] w fun r w' => r = .returned (.bool true) ∧ Below w.heap.size w w' := by
  obtain ⟨rfl, rfl⟩ | ⟨rfl, rfl⟩ : (s1 = 0 ∧ s2 = 1) ∨ (s1 = 1 ∧ s2 = 0) := by omega
  all_goals clear ss s1l s1h
  · have hL' : ∀ W, Below w.heap.size w W → Lay W := fun W h => lay_below hL h
    go_enter Tryd.func4, Tryd.ntmps4
    go_wp2_with fail
    have hB0 : Below w.heap.size w ((w.alloc (.cells #[.int .i64 (x), .int .i64 (y), .int .u8 (q)] 23)).alloc (.cells #[.int .i64 (l), .int .i64 (m), .int .u8 (n)] 23)) := (by repeat first | (with_reducible exact Below.refl _ _) | (with_reducible refine below_on ?_ _) | (with_reducible refine below_alloc ?_ _) | (with_reducible refine below_set ?_ (by simp; try omega) _))
    have b00 : ((w.alloc (.cells #[.int .i64 (x), .int .i64 (y), .int .u8 (q)] 23)).alloc (.cells #[.int .i64 (l), .int .i64 (m), .int .u8 (n)] 23)).cell? ⟨w.heap.size, 0, none⟩ = some (.int .i64 (x)) := by simp [go_sem]
    have b01 : ((w.alloc (.cells #[.int .i64 (x), .int .i64 (y), .int .u8 (q)] 23)).alloc (.cells #[.int .i64 (l), .int .i64 (m), .int .u8 (n)] 23)).cell? ⟨w.heap.size, 1, none⟩ = some (.int .i64 (y)) := by simp [go_sem]
    have b02 : ((w.alloc (.cells #[.int .i64 (x), .int .i64 (y), .int .u8 (q)] 23)).alloc (.cells #[.int .i64 (l), .int .i64 (m), .int .u8 (n)] 23)).cell? ⟨w.heap.size, 2, none⟩ = some (.int .u8 (q)) := by simp [go_sem]
    have b10 : ((w.alloc (.cells #[.int .i64 (x), .int .i64 (y), .int .u8 (q)] 23)).alloc (.cells #[.int .i64 (l), .int .i64 (m), .int .u8 (n)] 23)).cell? ⟨w.heap.size + 1, 0, none⟩ = some (.int .i64 (l)) := by simp [go_sem]
    have b11 : ((w.alloc (.cells #[.int .i64 (x), .int .i64 (y), .int .u8 (q)] 23)).alloc (.cells #[.int .i64 (l), .int .i64 (m), .int .u8 (n)] 23)).cell? ⟨w.heap.size + 1, 1, none⟩ = some (.int .i64 (m)) := by simp [go_sem]
    have b12 : ((w.alloc (.cells #[.int .i64 (x), .int .i64 (y), .int .u8 (q)] 23)).alloc (.cells #[.int .i64 (l), .int .i64 (m), .int .u8 (n)] 23)).cell? ⟨w.heap.size + 1, 2, none⟩ = some (.int .u8 (n)) := by simp [go_sem]
    generalize ((w.alloc (.cells #[.int .i64 (x), .int .i64 (y), .int .u8 (q)] 23)).alloc (.cells #[.int .i64 (l), .int .i64 (m), .int .u8 (n)] 23)) = W0 at *
    go_wp2_with (first | (go_at_call 19; with_reducible refine (N1 _ (lyb hL)).mono ?_; rintro e wx ⟨rfl, hx⟩; obtain ⟨ux, rfl⟩ := after hx; clear hx) | fail)
    have hR : Below W0.heap.size W0 ((on ux).alloc (.cells #[.int .i64 (a), .int .i64 (b), .int .u8 (c)] 23)) := belr
    replace b00 := cRy hR b00
    replace b01 := cRy hR b01
    replace b02 := cRy hR b02
    replace b10 := cRy hR b10
    replace b11 := cRy hR b11
    replace b12 := cRy hR b12
    have hB1 := hB0.trans (hR.mono hB0.size)
    have hN : ((on ux).alloc (.cells #[.int .i64 (a), .int .i64 (b), .int .u8 (c)] 23)).heap[(on ux).heap.size]? = some (.cells #[.int .i64 (a), .int .i64 (b), .int .u8 (c)] 23) := heap_alloc_new _ _
    clear hR hB0
    generalize ((on ux).alloc (.cells #[.int .i64 (a), .int .i64 (b), .int .u8 (c)] 23)) = W1 at *
    generalize (on ux).heap.size = B1 at *
    clear ux
    have B100 : W1.cell? ⟨B1, 0, none⟩ = some (.int .i64 (a)) := held_cell hN 0
    have B101 : W1.cell? ⟨B1, 1, none⟩ = some (.int .i64 (b)) := held_cell hN 1
    have B102 : W1.cell? ⟨B1, 2, none⟩ = some (.int .u8 (c)) := held_cell hN 2
    clear hN
    go_wp2_with (first | (go_at_call 20; with_reducible refine (TO _ (lyb hL)).mono ?_; rintro e wx ⟨rfl, hx⟩; obtain ⟨ux, rfl⟩ := after hx; clear hx) | fail)
    have hR : Below W1.heap.size W1 (on ux) := belr
    replace b00 := cRy hR b00
    replace b01 := cRy hR b01
    replace b02 := cRy hR b02
    replace b10 := cRy hR b10
    replace b11 := cRy hR b11
    replace b12 := cRy hR b12
    replace B100 := cRy hR B100
    replace B101 := cRy hR B101
    replace B102 := cRy hR B102
    have hB2 := hB1.trans (hR.mono hB1.size)
    clear hR hB1
    generalize (on ux) = W2 at *
    clear ux
    go_wp2_with (first | (go_at_call 13; with_reducible refine (rvalid_yes x y q _ c1 c2 c3 c4 c5 c6).mono ?_; rintro e wx ⟨rfl, hx⟩; obtain ⟨ux, rfl⟩ := after hx; clear hx) | fail)
    have hR : Below W2.heap.size W2 (on ux) := belr
    replace b00 := cRy hR b00
    replace b01 := cRy hR b01
    replace b02 := cRy hR b02
    replace b10 := cRy hR b10
    replace b11 := cRy hR b11
    replace b12 := cRy hR b12
    replace B100 := cRy hR B100
    replace B101 := cRy hR B101
    replace B102 := cRy hR B102
    have hB3 := hB2.trans (hR.mono hB2.size)
    clear hR hB2
    generalize (on ux) = W3 at *
    clear ux
    go_loopw [11, 12] (fun mv_ iv wr => ∃ i M : Int, iv = .int .i64 i ∧ mv_ = .int .i64 M ∧ ((i = 0 ∧ 0 = M) ∨ (i = 1 ∧ 0 = M) ∨ (i = 2 ∧ 1 = M) ∨ (i = 3 ∧ 1 = M)) ∧ ∃ u : Later W3, wr = on u) (fun _ iv _ => (3 - intOf iv).toNat)
    case atStart => exact ⟨0, 0, rfl, rfl, by omega, ⟨_, Below.refl _ _⟩, rfl⟩
    case round =>
      obtain ⟨i, M, rfl, rfl, hi, u0, rfl⟩ := hrel
      have hq : Below w.heap.size w (on u0) := below_on hB3 u0
      obtain ⟨rfl, rfl⟩ | ⟨rfl, rfl⟩ | ⟨rfl, rfl⟩ | ⟨rfl, rfl⟩ := hi
      · go_wp2_with fail
        refine region_later (by kernel_rfl) (by kernel_rfl) ?_
        repeat (go_big_quiet_step ((first | (go_at_call 13; with_reducible exact Calls.later (VO _)) | (go_at_call 21; with_reducible exact Calls.later (R0 _)) | fail)))
        refine wpQuiet_nil ?_
        rintro _ ⟨u9, rfl⟩
        go_wp2_with fail
        exact ⟨⟨0 + 1, 0, rfl, rfl, by omega, after belr⟩, by simp [intOf]⟩
      · go_wp2_with fail
        refine region_later (by kernel_rfl) (by kernel_rfl) ?_
        repeat (go_big_quiet_step ((first | (go_at_call 13; with_reducible exact Calls.later (VO _)) | (go_at_call 21; with_reducible exact Calls.later (R1 _)) | fail)))
        refine wpQuiet_nil ?_
        rintro _ ⟨u9, rfl⟩
        go_wp2_with fail
        exact ⟨⟨1 + 1, 1, rfl, rfl, by omega, after belr⟩, by simp [intOf]⟩
      · go_wp2_with fail
        refine region_later (by kernel_rfl) (by kernel_rfl) ?_
        repeat (go_big_quiet_step ((first | (go_at_call 13; with_reducible exact Calls.later (VO _)) | (go_at_call 21; with_reducible exact Calls.later (R2 _)) | fail)))
        refine wpQuiet_nil ?_
        rintro _ ⟨u9, rfl⟩
        go_wp2_with fail
        exact ⟨⟨2 + 1, 1, rfl, rfl, by omega, after belr⟩, by simp [intOf]⟩
      · have hQ : Below w.heap.size w (on u0) := hq
        have b00z := cRy (on_below u0) b00
        have b01z := cRy (on_below u0) b01
        have b02z := cRy (on_below u0) b02
        have b10z := cRy (on_below u0) b10
        have b11z := cRy (on_below u0) b11
        have b12z := cRy (on_below u0) b12
        have B100z := cRy (on_below u0) B100
        have B101z := cRy (on_below u0) B101
        have B102z := cRy (on_below u0) B102
        clear b00 b01 b02 b10 b11 b12 B100 B101 B102 hq hB3
        generalize on u0 = W3z at *
        clear u0
        go_wp2_with (first | (go_at_call 13; with_reducible refine (VO _).mono ?_; rintro e wx ⟨rfl, hx⟩; obtain ⟨ux, rfl⟩ := after hx; clear hx) | fail)
        have hR : Below W3z.heap.size W3z (on ux) := belr
        replace b00z := cRy hR b00z
        replace b01z := cRy hR b01z
        replace b02z := cRy hR b02z
        replace b10z := cRy hR b10z
        replace b11z := cRy hR b11z
        replace b12z := cRy hR b12z
        replace B100z := cRy hR B100z
        replace B101z := cRy hR B101z
        replace B102z := cRy hR B102z
        have hB4 := hQ.trans (hR.mono hQ.size)
        clear hR hQ
        generalize (on ux) = W4 at *
        clear ux
        go_wp2_with (first | (go_at_call 21; with_reducible refine (RE _).mono ?_; rintro e wx ⟨rfl, hx⟩; obtain ⟨ux, rfl⟩ := after hx; clear hx) | fail)
        have hR : Below W4.heap.size W4 ((on ux).alloc (.cells #[.int .i64 (a), .int .i64 (b), .int .u8 (c)] 23)) := belr
        replace b00z := cRy hR b00z
        replace b01z := cRy hR b01z
        replace b02z := cRy hR b02z
        replace b10z := cRy hR b10z
        replace b11z := cRy hR b11z
        replace b12z := cRy hR b12z
        replace B100z := cRy hR B100z
        replace B101z := cRy hR B101z
        replace B102z := cRy hR B102z
        have hB5 := hB4.trans (hR.mono hB4.size)
        have hN : ((on ux).alloc (.cells #[.int .i64 (a), .int .i64 (b), .int .u8 (c)] 23)).heap[(on ux).heap.size]? = some (.cells #[.int .i64 (a), .int .i64 (b), .int .u8 (c)] 23) := heap_alloc_new _ _
        clear hR hB4
        generalize ((on ux).alloc (.cells #[.int .i64 (a), .int .i64 (b), .int .u8 (c)] 23)) = W5 at *
        generalize (on ux).heap.size = B5 at *
        clear ux
        have B500 : W5.cell? ⟨B5, 0, none⟩ = some (.int .i64 (a)) := held_cell hN 0
        have B501 : W5.cell? ⟨B5, 1, none⟩ = some (.int .i64 (b)) := held_cell hN 1
        have B502 : W5.cell? ⟨B5, 2, none⟩ = some (.int .u8 (c)) := held_cell hN 2
        clear hN
        go_wp2_with (first | (go_at_call 13; with_reducible refine (VE _).mono ?_; rintro e wx ⟨rfl, hx⟩; obtain ⟨ux, rfl⟩ := after hx; clear hx) | fail)
        have hR : Below W5.heap.size W5 (on ux) := belr
        replace b00z := cRy hR b00z
        replace b01z := cRy hR b01z
        replace b02z := cRy hR b02z
        replace b10z := cRy hR b10z
        replace b11z := cRy hR b11z
        replace b12z := cRy hR b12z
        replace B100z := cRy hR B100z
        replace B101z := cRy hR B101z
        replace B102z := cRy hR B102z
        replace B500 := cRy hR B500
        replace B501 := cRy hR B501
        replace B502 := cRy hR B502
        have hB6 := hB5.trans (hR.mono hB5.size)
        clear hR hB5
        generalize (on ux) = W6 at *
        clear ux
        go_wp2_with (first | (go_at_call 19; with_reducible refine (N2 _ (lyb hL)).mono ?_; rintro e wx ⟨rfl, hx⟩; obtain ⟨ux, rfl⟩ := after hx; clear hx) | fail)
        have hR : Below W6.heap.size W6 ((on ux).alloc (.cells #[.int .i64 (x), .int .i64 (y), .int .u8 (q)] 23)) := belr
        replace b00z := cRy hR b00z
        replace b01z := cRy hR b01z
        replace b02z := cRy hR b02z
        replace b10z := cRy hR b10z
        replace b11z := cRy hR b11z
        replace b12z := cRy hR b12z
        replace B100z := cRy hR B100z
        replace B101z := cRy hR B101z
        replace B102z := cRy hR B102z
        replace B500 := cRy hR B500
        replace B501 := cRy hR B501
        replace B502 := cRy hR B502
        have hB7 := hB6.trans (hR.mono hB6.size)
        have hN : ((on ux).alloc (.cells #[.int .i64 (x), .int .i64 (y), .int .u8 (q)] 23)).heap[(on ux).heap.size]? = some (.cells #[.int .i64 (x), .int .i64 (y), .int .u8 (q)] 23) := heap_alloc_new _ _
        clear hR hB6
        generalize ((on ux).alloc (.cells #[.int .i64 (x), .int .i64 (y), .int .u8 (q)] 23)) = W7 at *
        generalize (on ux).heap.size = B7 at *
        clear ux
        have B700 : W7.cell? ⟨B7, 0, none⟩ = some (.int .i64 (x)) := held_cell hN 0
        have B701 : W7.cell? ⟨B7, 1, none⟩ = some (.int .i64 (y)) := held_cell hN 1
        have B702 : W7.cell? ⟨B7, 2, none⟩ = some (.int .u8 (q)) := held_cell hN 2
        clear hN
        go_wp2_with (first | (go_at_call 20; with_reducible refine (T2 _ (lyb hL)).mono ?_; rintro e wx ⟨rfl, hx⟩; obtain ⟨ux, rfl⟩ := after hx; clear hx) | fail)
        have hR : Below W7.heap.size W7 (on ux) := belr
        replace b00z := cRy hR b00z
        replace b01z := cRy hR b01z
        replace b02z := cRy hR b02z
        replace b10z := cRy hR b10z
        replace b11z := cRy hR b11z
        replace b12z := cRy hR b12z
        replace B100z := cRy hR B100z
        replace B101z := cRy hR B101z
        replace B102z := cRy hR B102z
        replace B500 := cRy hR B500
        replace B501 := cRy hR B501
        replace B502 := cRy hR B502
        replace B700 := cRy hR B700
        replace B701 := cRy hR B701
        replace B702 := cRy hR B702
        have hB8 := hB7.trans (hR.mono hB7.size)
        clear hR hB7
        generalize (on ux) = W8 at *
        clear ux
        go_wp2_with (first | (go_at_call 17; with_reducible refine (LI _).mono ?_; rintro e wx ⟨rfl, hx⟩; obtain ⟨ux, rfl⟩ := after hx; clear hx) | fail)
        have hR : Below W8.heap.size W8 ((on ux).alloc (.cells #[.int .u8 (K), .int .i64 (C)] 26)) := belr
        replace b00z := cRy hR b00z
        replace b01z := cRy hR b01z
        replace b02z := cRy hR b02z
        replace b10z := cRy hR b10z
        replace b11z := cRy hR b11z
        replace b12z := cRy hR b12z
        replace B100z := cRy hR B100z
        replace B101z := cRy hR B101z
        replace B102z := cRy hR B102z
        replace B500 := cRy hR B500
        replace B501 := cRy hR B501
        replace B502 := cRy hR B502
        replace B700 := cRy hR B700
        replace B701 := cRy hR B701
        replace B702 := cRy hR B702
        have hB9 := hB8.trans (hR.mono hB8.size)
        have hN : ((on ux).alloc (.cells #[.int .u8 (K), .int .i64 (C)] 26)).heap[(on ux).heap.size]? = some (.cells #[.int .u8 (K), .int .i64 (C)] 26) := heap_alloc_new _ _
        clear hR hB8
        generalize ((on ux).alloc (.cells #[.int .u8 (K), .int .i64 (C)] 26)) = W9 at *
        generalize (on ux).heap.size = B9 at *
        clear ux
        have B900 : W9.cell? ⟨B9, 0, none⟩ = some (.int .u8 (K)) := held_cell hN 0
        have B901 : W9.cell? ⟨B9, 1, none⟩ = some (.int .i64 (C)) := held_cell hN 1
        clear hN
        go_wp2_with (first | (go_at_call 18; with_reducible refine (VL _).mono ?_; rintro e wx ⟨rfl, hx⟩; obtain ⟨ux, rfl⟩ := after hx; clear hx) | fail)
        have hR : Below W9.heap.size W9 (on ux) := belr
        replace b00z := cRy hR b00z
        replace b01z := cRy hR b01z
        replace b02z := cRy hR b02z
        replace b10z := cRy hR b10z
        replace b11z := cRy hR b11z
        replace b12z := cRy hR b12z
        replace B100z := cRy hR B100z
        replace B101z := cRy hR B101z
        replace B102z := cRy hR B102z
        replace B500 := cRy hR B500
        replace B501 := cRy hR B501
        replace B502 := cRy hR B502
        replace B700 := cRy hR B700
        replace B701 := cRy hR B701
        replace B702 := cRy hR B702
        replace B900 := cRy hR B900
        replace B901 := cRy hR B901
        have hB10 := hB9.trans (hR.mono hB9.size)
        clear hR hB9
        generalize (on ux) = W10 at *
        clear ux
        go_wp2_with (first | (go_at_call 22; with_reducible refine (S1 _ (lyb hL)).mono ?_; rintro e wx ⟨rfl, hx⟩; obtain ⟨ux, rfl⟩ := after hx; clear hx) | (go_at_call 22; with_reducible refine (S2 _ (lyb hL)).mono ?_; rintro e wx ⟨rfl, hx⟩; obtain ⟨ux, rfl⟩ := after hx; clear hx) | (go_at_call 15; with_reducible refine (clives_ok _ (lyb hL)).mono ?_; rintro e wx ⟨rfl, hx⟩; obtain ⟨ux, rfl⟩ := after hx; clear hx) | fail)
        go_ret
        exact ⟨by first | rfl | (simp; done) | (simp; omega), belw⟩
  · have hL' : ∀ W, Below w.heap.size w W → Lay W := fun W h => lay_below hL h
    go_enter Tryd.func4, Tryd.ntmps4
    go_wp2_with fail
    have hB0 : Below w.heap.size w ((w.alloc (.cells #[.int .i64 (x), .int .i64 (y), .int .u8 (q)] 23)).alloc (.cells #[.int .i64 (l), .int .i64 (m), .int .u8 (n)] 23)) := (by repeat first | (with_reducible exact Below.refl _ _) | (with_reducible refine below_on ?_ _) | (with_reducible refine below_alloc ?_ _) | (with_reducible refine below_set ?_ (by simp; try omega) _))
    have b00 : ((w.alloc (.cells #[.int .i64 (x), .int .i64 (y), .int .u8 (q)] 23)).alloc (.cells #[.int .i64 (l), .int .i64 (m), .int .u8 (n)] 23)).cell? ⟨w.heap.size, 0, none⟩ = some (.int .i64 (x)) := by simp [go_sem]
    have b01 : ((w.alloc (.cells #[.int .i64 (x), .int .i64 (y), .int .u8 (q)] 23)).alloc (.cells #[.int .i64 (l), .int .i64 (m), .int .u8 (n)] 23)).cell? ⟨w.heap.size, 1, none⟩ = some (.int .i64 (y)) := by simp [go_sem]
    have b02 : ((w.alloc (.cells #[.int .i64 (x), .int .i64 (y), .int .u8 (q)] 23)).alloc (.cells #[.int .i64 (l), .int .i64 (m), .int .u8 (n)] 23)).cell? ⟨w.heap.size, 2, none⟩ = some (.int .u8 (q)) := by simp [go_sem]
    have b10 : ((w.alloc (.cells #[.int .i64 (x), .int .i64 (y), .int .u8 (q)] 23)).alloc (.cells #[.int .i64 (l), .int .i64 (m), .int .u8 (n)] 23)).cell? ⟨w.heap.size + 1, 0, none⟩ = some (.int .i64 (l)) := by simp [go_sem]
    have b11 : ((w.alloc (.cells #[.int .i64 (x), .int .i64 (y), .int .u8 (q)] 23)).alloc (.cells #[.int .i64 (l), .int .i64 (m), .int .u8 (n)] 23)).cell? ⟨w.heap.size + 1, 1, none⟩ = some (.int .i64 (m)) := by simp [go_sem]
    have b12 : ((w.alloc (.cells #[.int .i64 (x), .int .i64 (y), .int .u8 (q)] 23)).alloc (.cells #[.int .i64 (l), .int .i64 (m), .int .u8 (n)] 23)).cell? ⟨w.heap.size + 1, 2, none⟩ = some (.int .u8 (n)) := by simp [go_sem]
    generalize ((w.alloc (.cells #[.int .i64 (x), .int .i64 (y), .int .u8 (q)] 23)).alloc (.cells #[.int .i64 (l), .int .i64 (m), .int .u8 (n)] 23)) = W0 at *
    go_wp2_with (first | (go_at_call 19; with_reducible refine (N1 _ (lyb hL)).mono ?_; rintro e wx ⟨rfl, hx⟩; obtain ⟨ux, rfl⟩ := after hx; clear hx) | fail)
    have hR : Below W0.heap.size W0 ((on ux).alloc (.cells #[.int .i64 (a), .int .i64 (b), .int .u8 (c)] 23)) := belr
    replace b00 := cRy hR b00
    replace b01 := cRy hR b01
    replace b02 := cRy hR b02
    replace b10 := cRy hR b10
    replace b11 := cRy hR b11
    replace b12 := cRy hR b12
    have hB1 := hB0.trans (hR.mono hB0.size)
    have hN : ((on ux).alloc (.cells #[.int .i64 (a), .int .i64 (b), .int .u8 (c)] 23)).heap[(on ux).heap.size]? = some (.cells #[.int .i64 (a), .int .i64 (b), .int .u8 (c)] 23) := heap_alloc_new _ _
    clear hR hB0
    generalize ((on ux).alloc (.cells #[.int .i64 (a), .int .i64 (b), .int .u8 (c)] 23)) = W1 at *
    generalize (on ux).heap.size = B1 at *
    clear ux
    have B100 : W1.cell? ⟨B1, 0, none⟩ = some (.int .i64 (a)) := held_cell hN 0
    have B101 : W1.cell? ⟨B1, 1, none⟩ = some (.int .i64 (b)) := held_cell hN 1
    have B102 : W1.cell? ⟨B1, 2, none⟩ = some (.int .u8 (c)) := held_cell hN 2
    clear hN
    go_wp2_with (first | (go_at_call 20; with_reducible refine (TO _ (lyb hL)).mono ?_; rintro e wx ⟨rfl, hx⟩; obtain ⟨ux, rfl⟩ := after hx; clear hx) | fail)
    have hR : Below W1.heap.size W1 (on ux) := belr
    replace b00 := cRy hR b00
    replace b01 := cRy hR b01
    replace b02 := cRy hR b02
    replace b10 := cRy hR b10
    replace b11 := cRy hR b11
    replace b12 := cRy hR b12
    replace B100 := cRy hR B100
    replace B101 := cRy hR B101
    replace B102 := cRy hR B102
    have hB2 := hB1.trans (hR.mono hB1.size)
    clear hR hB1
    generalize (on ux) = W2 at *
    clear ux
    go_wp2_with (first | (go_at_call 13; with_reducible refine (rvalid_yes x y q _ c1 c2 c3 c4 c5 c6).mono ?_; rintro e wx ⟨rfl, hx⟩; obtain ⟨ux, rfl⟩ := after hx; clear hx) | fail)
    have hR : Below W2.heap.size W2 (on ux) := belr
    replace b00 := cRy hR b00
    replace b01 := cRy hR b01
    replace b02 := cRy hR b02
    replace b10 := cRy hR b10
    replace b11 := cRy hR b11
    replace b12 := cRy hR b12
    replace B100 := cRy hR B100
    replace B101 := cRy hR B101
    replace B102 := cRy hR B102
    have hB3 := hB2.trans (hR.mono hB2.size)
    clear hR hB2
    generalize (on ux) = W3 at *
    clear ux
    go_loopw [11, 12] (fun mv_ iv wr => ∃ i M : Int, iv = .int .i64 i ∧ mv_ = .int .i64 M ∧ ((i = 0 ∧ 0 = M) ∨ (i = 1 ∧ 0 = M) ∨ (i = 2 ∧ 1 = M) ∨ (i = 3 ∧ 1 = M)) ∧ ∃ u : Later W3, wr = on u) (fun _ iv _ => (3 - intOf iv).toNat)
    case atStart => exact ⟨0, 0, rfl, rfl, by omega, ⟨_, Below.refl _ _⟩, rfl⟩
    case round =>
      obtain ⟨i, M, rfl, rfl, hi, u0, rfl⟩ := hrel
      have hq : Below w.heap.size w (on u0) := below_on hB3 u0
      obtain ⟨rfl, rfl⟩ | ⟨rfl, rfl⟩ | ⟨rfl, rfl⟩ | ⟨rfl, rfl⟩ := hi
      · go_wp2_with fail
        refine region_later (by kernel_rfl) (by kernel_rfl) ?_
        repeat (go_big_quiet_step ((first | (go_at_call 13; with_reducible exact Calls.later (VO _)) | (go_at_call 21; with_reducible exact Calls.later (R0 _)) | fail)))
        refine wpQuiet_nil ?_
        rintro _ ⟨u9, rfl⟩
        go_wp2_with fail
        exact ⟨⟨0 + 1, 0, rfl, rfl, by omega, after belr⟩, by simp [intOf]⟩
      · go_wp2_with fail
        refine region_later (by kernel_rfl) (by kernel_rfl) ?_
        repeat (go_big_quiet_step ((first | (go_at_call 13; with_reducible exact Calls.later (VO _)) | (go_at_call 21; with_reducible exact Calls.later (R1 _)) | fail)))
        refine wpQuiet_nil ?_
        rintro _ ⟨u9, rfl⟩
        go_wp2_with fail
        exact ⟨⟨1 + 1, 1, rfl, rfl, by omega, after belr⟩, by simp [intOf]⟩
      · go_wp2_with fail
        refine region_later (by kernel_rfl) (by kernel_rfl) ?_
        repeat (go_big_quiet_step ((first | (go_at_call 13; with_reducible exact Calls.later (VO _)) | (go_at_call 21; with_reducible exact Calls.later (R2 _)) | fail)))
        refine wpQuiet_nil ?_
        rintro _ ⟨u9, rfl⟩
        go_wp2_with fail
        exact ⟨⟨2 + 1, 1, rfl, rfl, by omega, after belr⟩, by simp [intOf]⟩
      · have hQ : Below w.heap.size w (on u0) := hq
        have b00z := cRy (on_below u0) b00
        have b01z := cRy (on_below u0) b01
        have b02z := cRy (on_below u0) b02
        have b10z := cRy (on_below u0) b10
        have b11z := cRy (on_below u0) b11
        have b12z := cRy (on_below u0) b12
        have B100z := cRy (on_below u0) B100
        have B101z := cRy (on_below u0) B101
        have B102z := cRy (on_below u0) B102
        clear b00 b01 b02 b10 b11 b12 B100 B101 B102 hq hB3
        generalize on u0 = W3z at *
        clear u0
        go_wp2_with (first | (go_at_call 13; with_reducible refine (VO _).mono ?_; rintro e wx ⟨rfl, hx⟩; obtain ⟨ux, rfl⟩ := after hx; clear hx) | fail)
        have hR : Below W3z.heap.size W3z (on ux) := belr
        replace b00z := cRy hR b00z
        replace b01z := cRy hR b01z
        replace b02z := cRy hR b02z
        replace b10z := cRy hR b10z
        replace b11z := cRy hR b11z
        replace b12z := cRy hR b12z
        replace B100z := cRy hR B100z
        replace B101z := cRy hR B101z
        replace B102z := cRy hR B102z
        have hB4 := hQ.trans (hR.mono hQ.size)
        clear hR hQ
        generalize (on ux) = W4 at *
        clear ux
        go_wp2_with (first | (go_at_call 21; with_reducible refine (RE _).mono ?_; rintro e wx ⟨rfl, hx⟩; obtain ⟨ux, rfl⟩ := after hx; clear hx) | fail)
        have hR : Below W4.heap.size W4 ((on ux).alloc (.cells #[.int .i64 (a), .int .i64 (b), .int .u8 (c)] 23)) := belr
        replace b00z := cRy hR b00z
        replace b01z := cRy hR b01z
        replace b02z := cRy hR b02z
        replace b10z := cRy hR b10z
        replace b11z := cRy hR b11z
        replace b12z := cRy hR b12z
        replace B100z := cRy hR B100z
        replace B101z := cRy hR B101z
        replace B102z := cRy hR B102z
        have hB5 := hB4.trans (hR.mono hB4.size)
        have hN : ((on ux).alloc (.cells #[.int .i64 (a), .int .i64 (b), .int .u8 (c)] 23)).heap[(on ux).heap.size]? = some (.cells #[.int .i64 (a), .int .i64 (b), .int .u8 (c)] 23) := heap_alloc_new _ _
        clear hR hB4
        generalize ((on ux).alloc (.cells #[.int .i64 (a), .int .i64 (b), .int .u8 (c)] 23)) = W5 at *
        generalize (on ux).heap.size = B5 at *
        clear ux
        have B500 : W5.cell? ⟨B5, 0, none⟩ = some (.int .i64 (a)) := held_cell hN 0
        have B501 : W5.cell? ⟨B5, 1, none⟩ = some (.int .i64 (b)) := held_cell hN 1
        have B502 : W5.cell? ⟨B5, 2, none⟩ = some (.int .u8 (c)) := held_cell hN 2
        clear hN
        go_wp2_with (first | (go_at_call 13; with_reducible refine (VE _).mono ?_; rintro e wx ⟨rfl, hx⟩; obtain ⟨ux, rfl⟩ := after hx; clear hx) | fail)
        have hR : Below W5.heap.size W5 (on ux) := belr
        replace b00z := cRy hR b00z
        replace b01z := cRy hR b01z
        replace b02z := cRy hR b02z
        replace b10z := cRy hR b10z
        replace b11z := cRy hR b11z
        replace b12z := cRy hR b12z
        replace B100z := cRy hR B100z
        replace B101z := cRy hR B101z
        replace B102z := cRy hR B102z
        replace B500 := cRy hR B500
        replace B501 := cRy hR B501
        replace B502 := cRy hR B502
        have hB6 := hB5.trans (hR.mono hB5.size)
        clear hR hB5
        generalize (on ux) = W6 at *
        clear ux
        go_wp2_with (first | (go_at_call 19; with_reducible refine (N2 _ (lyb hL)).mono ?_; rintro e wx ⟨rfl, hx⟩; obtain ⟨ux, rfl⟩ := after hx; clear hx) | fail)
        have hR : Below W6.heap.size W6 ((on ux).alloc (.cells #[.int .i64 (x), .int .i64 (y), .int .u8 (q)] 23)) := belr
        replace b00z := cRy hR b00z
        replace b01z := cRy hR b01z
        replace b02z := cRy hR b02z
        replace b10z := cRy hR b10z
        replace b11z := cRy hR b11z
        replace b12z := cRy hR b12z
        replace B100z := cRy hR B100z
        replace B101z := cRy hR B101z
        replace B102z := cRy hR B102z
        replace B500 := cRy hR B500
        replace B501 := cRy hR B501
        replace B502 := cRy hR B502
        have hB7 := hB6.trans (hR.mono hB6.size)
        have hN : ((on ux).alloc (.cells #[.int .i64 (x), .int .i64 (y), .int .u8 (q)] 23)).heap[(on ux).heap.size]? = some (.cells #[.int .i64 (x), .int .i64 (y), .int .u8 (q)] 23) := heap_alloc_new _ _
        clear hR hB6
        generalize ((on ux).alloc (.cells #[.int .i64 (x), .int .i64 (y), .int .u8 (q)] 23)) = W7 at *
        generalize (on ux).heap.size = B7 at *
        clear ux
        have B700 : W7.cell? ⟨B7, 0, none⟩ = some (.int .i64 (x)) := held_cell hN 0
        have B701 : W7.cell? ⟨B7, 1, none⟩ = some (.int .i64 (y)) := held_cell hN 1
        have B702 : W7.cell? ⟨B7, 2, none⟩ = some (.int .u8 (q)) := held_cell hN 2
        clear hN
        go_wp2_with (first | (go_at_call 20; with_reducible refine (T2 _ (lyb hL)).mono ?_; rintro e wx ⟨rfl, hx⟩; obtain ⟨ux, rfl⟩ := after hx; clear hx) | fail)
        have hR : Below W7.heap.size W7 (on ux) := belr
        replace b00z := cRy hR b00z
        replace b01z := cRy hR b01z
        replace b02z := cRy hR b02z
        replace b10z := cRy hR b10z
        replace b11z := cRy hR b11z
        replace b12z := cRy hR b12z
        replace B100z := cRy hR B100z
        replace B101z := cRy hR B101z
        replace B102z := cRy hR B102z
        replace B500 := cRy hR B500
        replace B501 := cRy hR B501
        replace B502 := cRy hR B502
        replace B700 := cRy hR B700
        replace B701 := cRy hR B701
        replace B702 := cRy hR B702
        have hB8 := hB7.trans (hR.mono hB7.size)
        clear hR hB7
        generalize (on ux) = W8 at *
        clear ux
        go_wp2_with (first | (go_at_call 17; with_reducible refine (LI _).mono ?_; rintro e wx ⟨rfl, hx⟩; obtain ⟨ux, rfl⟩ := after hx; clear hx) | fail)
        have hR : Below W8.heap.size W8 ((on ux).alloc (.cells #[.int .u8 (K), .int .i64 (C)] 26)) := belr
        replace b00z := cRy hR b00z
        replace b01z := cRy hR b01z
        replace b02z := cRy hR b02z
        replace b10z := cRy hR b10z
        replace b11z := cRy hR b11z
        replace b12z := cRy hR b12z
        replace B100z := cRy hR B100z
        replace B101z := cRy hR B101z
        replace B102z := cRy hR B102z
        replace B500 := cRy hR B500
        replace B501 := cRy hR B501
        replace B502 := cRy hR B502
        replace B700 := cRy hR B700
        replace B701 := cRy hR B701
        replace B702 := cRy hR B702
        have hB9 := hB8.trans (hR.mono hB8.size)
        have hN : ((on ux).alloc (.cells #[.int .u8 (K), .int .i64 (C)] 26)).heap[(on ux).heap.size]? = some (.cells #[.int .u8 (K), .int .i64 (C)] 26) := heap_alloc_new _ _
        clear hR hB8
        generalize ((on ux).alloc (.cells #[.int .u8 (K), .int .i64 (C)] 26)) = W9 at *
        generalize (on ux).heap.size = B9 at *
        clear ux
        have B900 : W9.cell? ⟨B9, 0, none⟩ = some (.int .u8 (K)) := held_cell hN 0
        have B901 : W9.cell? ⟨B9, 1, none⟩ = some (.int .i64 (C)) := held_cell hN 1
        clear hN
        go_wp2_with (first | (go_at_call 18; with_reducible refine (VL _).mono ?_; rintro e wx ⟨rfl, hx⟩; obtain ⟨ux, rfl⟩ := after hx; clear hx) | fail)
        have hR : Below W9.heap.size W9 (on ux) := belr
        replace b00z := cRy hR b00z
        replace b01z := cRy hR b01z
        replace b02z := cRy hR b02z
        replace b10z := cRy hR b10z
        replace b11z := cRy hR b11z
        replace b12z := cRy hR b12z
        replace B100z := cRy hR B100z
        replace B101z := cRy hR B101z
        replace B102z := cRy hR B102z
        replace B500 := cRy hR B500
        replace B501 := cRy hR B501
        replace B502 := cRy hR B502
        replace B700 := cRy hR B700
        replace B701 := cRy hR B701
        replace B702 := cRy hR B702
        replace B900 := cRy hR B900
        replace B901 := cRy hR B901
        have hB10 := hB9.trans (hR.mono hB9.size)
        clear hR hB9
        generalize (on ux) = W10 at *
        clear ux
        go_wp2_with (first | (go_at_call 22; with_reducible refine (S1 _ (lyb hL)).mono ?_; rintro e wx ⟨rfl, hx⟩; obtain ⟨ux, rfl⟩ := after hx; clear hx) | (go_at_call 22; with_reducible refine (S2 _ (lyb hL)).mono ?_; rintro e wx ⟨rfl, hx⟩; obtain ⟨ux, rfl⟩ := after hx; clear hx) | (go_at_call 15; with_reducible refine (clives_ok _ (lyb hL)).mono ?_; rintro e wx ⟨rfl, hx⟩; obtain ⟨ux, rfl⟩ := after hx; clear hx) | fail)
        go_ret
        exact ⟨by first | rfl | (simp; done) | (simp; omega), belw⟩

end Go.Proofs.YtgkiliijefkcaaaDoor
