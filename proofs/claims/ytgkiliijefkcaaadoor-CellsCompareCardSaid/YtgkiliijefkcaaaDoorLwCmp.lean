/-
  Says: CellsCompare answers true at every three cells, where the tables stand as they were laid.
-/
import Derived.Test.YtgkiliijefkcaaaDoorCv1
import Derived.Test.YtgkiliijefkcaaaDoorCr1
import Derived.Test.YtgkiliijefkcaaaDoorCf3
set_option linter.unusedVariables false
set_option linter.unusedSimpArgs false
namespace Go.Proofs.YtgkiliijefkcaaaDoor
open Go Go.RowKit

attribute [local go_sem] World.cell?_alloc_some frozen?_alloc_cells fz0 fz1 fz2 fz3 fz4 fz5
attribute [local go_sem] eql_pt3

theorem neA {a b c x y q : Int} (h : ¬ (a = x ∧ b = y ∧ c = q)) : ∀ (α : Type) (R1 R2 : α), (if a = x then if b = y then if c = q then R1 else R2 else R2 else R2) = R2 := fun _ _ _ => by
  repeat' split
  all_goals first | rfl | (exact absurd ⟨‹_›, ‹_›, ‹_›⟩ h)

set_option maxRecDepth 100000 in
set_option maxHeartbeats 8000000 in
theorem ccompare_lt1 (x y q a b c l m n s t : Int) (w : World) (hL : Lay w) (L1 : ∀ W, Calls Tryd.prog 30 #[cl a b c, cl x y q] W fun e w' => e = .returned (.int .i64 0) ∧ Below W.heap.size W w') (L2 : ∀ W, Calls Tryd.prog 30 #[cl x y q, cl a b c] W fun e w' => e = .returned (.int .i64 1) ∧ Below W.heap.size W w') (C1 : ∀ W, Calls Tryd.prog 31 #[cl x y q, cl a b c] W fun e w' => e = .returned (.int .i64 (-1)) ∧ Below W.heap.size W w') (C2 : ∀ W, Calls Tryd.prog 31 #[cl a b c, cl x y q] W fun e w' => e = .returned (.int .i64 (1)) ∧ Below W.heap.size W w') (C3 : ∀ W, Calls Tryd.prog 31 #[cl x y q, cl x y q] W fun e w' => e = .returned (.int .i64 0) ∧ Below W.heap.size W w') (C4 : ∀ W, Calls Tryd.prog 31 #[cl a b c, cl l m n] W fun e w' => e = .returned (.int .i64 s) ∧ Below W.heap.size W w') (C5 : ∀ W, Calls Tryd.prog 31 #[cl x y q, cl l m n] W fun e w' => e = .returned (.int .i64 t) ∧ Below W.heap.size W w') (ne : ∀ (α : Type) (R1 R2 : α), (if x = a then if y = b then if q = c then R1 else R2 else R2 else R2) = R2) (hs : 0 < s) : Calls Tryd.prog 8 #[cl x y q, cl a b c, cl l m n] w fun r w' => r = .returned (.bool true) ∧ Below w.heap.size w w' := by
  have hL' : ∀ W, Below w.heap.size w W → Lay W := fun W h => lay_below hL h
  go_enter Tryd.func8, Tryd.ntmps8
  go_wp2_with fail
  have hB0 : Below w.heap.size w (((w.alloc (.cells #[.int .i64 (x), .int .i64 (y), .int .u8 (q)] 23)).alloc (.cells #[.int .i64 (a), .int .i64 (b), .int .u8 (c)] 23)).alloc (.cells #[.int .i64 (l), .int .i64 (m), .int .u8 (n)] 23)) := (by repeat first | (with_reducible exact Below.refl _ _) | (with_reducible refine below_on ?_ _) | (with_reducible refine below_alloc ?_ _) | (with_reducible refine below_set ?_ (by simp; try omega) _))
  have b00 : (((w.alloc (.cells #[.int .i64 (x), .int .i64 (y), .int .u8 (q)] 23)).alloc (.cells #[.int .i64 (a), .int .i64 (b), .int .u8 (c)] 23)).alloc (.cells #[.int .i64 (l), .int .i64 (m), .int .u8 (n)] 23)).cell? ⟨w.heap.size, 0, none⟩ = some (.int .i64 (x)) := by simp [go_sem]
  have b01 : (((w.alloc (.cells #[.int .i64 (x), .int .i64 (y), .int .u8 (q)] 23)).alloc (.cells #[.int .i64 (a), .int .i64 (b), .int .u8 (c)] 23)).alloc (.cells #[.int .i64 (l), .int .i64 (m), .int .u8 (n)] 23)).cell? ⟨w.heap.size, 1, none⟩ = some (.int .i64 (y)) := by simp [go_sem]
  have b02 : (((w.alloc (.cells #[.int .i64 (x), .int .i64 (y), .int .u8 (q)] 23)).alloc (.cells #[.int .i64 (a), .int .i64 (b), .int .u8 (c)] 23)).alloc (.cells #[.int .i64 (l), .int .i64 (m), .int .u8 (n)] 23)).cell? ⟨w.heap.size, 2, none⟩ = some (.int .u8 (q)) := by simp [go_sem]
  have b10 : (((w.alloc (.cells #[.int .i64 (x), .int .i64 (y), .int .u8 (q)] 23)).alloc (.cells #[.int .i64 (a), .int .i64 (b), .int .u8 (c)] 23)).alloc (.cells #[.int .i64 (l), .int .i64 (m), .int .u8 (n)] 23)).cell? ⟨w.heap.size + 1, 0, none⟩ = some (.int .i64 (a)) := by simp [go_sem]
  have b11 : (((w.alloc (.cells #[.int .i64 (x), .int .i64 (y), .int .u8 (q)] 23)).alloc (.cells #[.int .i64 (a), .int .i64 (b), .int .u8 (c)] 23)).alloc (.cells #[.int .i64 (l), .int .i64 (m), .int .u8 (n)] 23)).cell? ⟨w.heap.size + 1, 1, none⟩ = some (.int .i64 (b)) := by simp [go_sem]
  have b12 : (((w.alloc (.cells #[.int .i64 (x), .int .i64 (y), .int .u8 (q)] 23)).alloc (.cells #[.int .i64 (a), .int .i64 (b), .int .u8 (c)] 23)).alloc (.cells #[.int .i64 (l), .int .i64 (m), .int .u8 (n)] 23)).cell? ⟨w.heap.size + 1, 2, none⟩ = some (.int .u8 (c)) := by simp [go_sem]
  have b20 : (((w.alloc (.cells #[.int .i64 (x), .int .i64 (y), .int .u8 (q)] 23)).alloc (.cells #[.int .i64 (a), .int .i64 (b), .int .u8 (c)] 23)).alloc (.cells #[.int .i64 (l), .int .i64 (m), .int .u8 (n)] 23)).cell? ⟨w.heap.size + 1 + 1, 0, none⟩ = some (.int .i64 (l)) := by simp [go_sem]
  have b21 : (((w.alloc (.cells #[.int .i64 (x), .int .i64 (y), .int .u8 (q)] 23)).alloc (.cells #[.int .i64 (a), .int .i64 (b), .int .u8 (c)] 23)).alloc (.cells #[.int .i64 (l), .int .i64 (m), .int .u8 (n)] 23)).cell? ⟨w.heap.size + 1 + 1, 1, none⟩ = some (.int .i64 (m)) := by simp [go_sem]
  have b22 : (((w.alloc (.cells #[.int .i64 (x), .int .i64 (y), .int .u8 (q)] 23)).alloc (.cells #[.int .i64 (a), .int .i64 (b), .int .u8 (c)] 23)).alloc (.cells #[.int .i64 (l), .int .i64 (m), .int .u8 (n)] 23)).cell? ⟨w.heap.size + 1 + 1, 2, none⟩ = some (.int .u8 (n)) := by simp [go_sem]
  generalize (((w.alloc (.cells #[.int .i64 (x), .int .i64 (y), .int .u8 (q)] 23)).alloc (.cells #[.int .i64 (a), .int .i64 (b), .int .u8 (c)] 23)).alloc (.cells #[.int .i64 (l), .int .i64 (m), .int .u8 (n)] 23)) = W0 at *
  refine region_later (by kernel_rfl) (by kernel_rfl) ?_
  repeat (go_big_quiet_step ((first | (go_at_call 30; with_reducible exact Calls.later (L1 _)) | (go_at_call 30; with_reducible exact Calls.later (L2 _)) | fail)))
  refine wpQuiet_nil ?_
  rintro _ ⟨ux, rfl⟩
  go_wp2_with fail
  have hR : Below (W0).heap.size (W0) (on ux) := by repeat first | (with_reducible exact Below.refl _ _) | (with_reducible refine below_on ?_ _) | (with_reducible refine below_alloc ?_ _)
  have cR : ∀ {b_ i_ : Nat} {v_ : Value}, (W0).cell? ⟨b_, i_, none⟩ = some v_ → (on ux).cell? ⟨b_, i_, none⟩ = some v_ := fun h => (hR.cell (World.block_lt_of_cell? _ _ h)).trans h
  have b00' := cR b00
  have b01' := cR b01
  have b02' := cR b02
  have b10' := cR b10
  have b11' := cR b11
  have b12' := cR b12
  have b20' := cR b20
  have b21' := cR b21
  have b22' := cR b22
  have hB1 : Below w.heap.size w (on ux) := by repeat first | (with_reducible exact hB0) | (with_reducible refine below_on ?_ _) | (with_reducible refine below_alloc ?_ _)
  clear hR cR b00 b01 b02 b10 b11 b12 b20 b21 b22  hB0
  generalize (on ux) = W1 at *
  clear ux
  go_wp2_with (first | (go_at_call 31; with_reducible refine (C1 _).mono ?_; rintro e wx ⟨rfl, hx⟩; obtain ⟨ux, rfl⟩ := after hx; clear hx) | (go_at_call 31; with_reducible refine (C2 _).mono ?_; rintro e wx ⟨rfl, hx⟩; obtain ⟨ux, rfl⟩ := after hx; clear hx) | (go_at_call 31; with_reducible refine (C3 _).mono ?_; rintro e wx ⟨rfl, hx⟩; obtain ⟨ux, rfl⟩ := after hx; clear hx) | (go_at_call 31; with_reducible refine (C4 _).mono ?_; rintro e wx ⟨rfl, hx⟩; obtain ⟨ux, rfl⟩ := after hx; clear hx) | (go_at_call 31; with_reducible refine (C5 _).mono ?_; rintro e wx ⟨rfl, hx⟩; obtain ⟨ux, rfl⟩ := after hx; clear hx) | (go_at_call 15; with_reducible refine (clives_ok _ (hL' _ (by repeat first | (with_reducible exact hB1) | (with_reducible refine below_on ?_ _) | (with_reducible refine below_alloc ?_ _) | (with_reducible refine below_set ?_ (by simp; try omega) _)))).mono ?_; rintro e wx ⟨rfl, hx⟩; obtain ⟨ux, rfl⟩ := after hx; clear hx) | fail)
  go_ret
  exact ⟨rfl, (by repeat first | (with_reducible exact hB1) | (with_reducible refine below_on ?_ _) | (with_reducible refine below_alloc ?_ _) | (with_reducible refine below_set ?_ (by simp; try omega) _))⟩

set_option maxRecDepth 100000 in
set_option maxHeartbeats 8000000 in
theorem ccompare_lt2 (x y q a b c l m n s t : Int) (w : World) (hL : Lay w) (L1 : ∀ W, Calls Tryd.prog 30 #[cl a b c, cl x y q] W fun e w' => e = .returned (.int .i64 0) ∧ Below W.heap.size W w') (L2 : ∀ W, Calls Tryd.prog 30 #[cl x y q, cl a b c] W fun e w' => e = .returned (.int .i64 1) ∧ Below W.heap.size W w') (C1 : ∀ W, Calls Tryd.prog 31 #[cl x y q, cl a b c] W fun e w' => e = .returned (.int .i64 (-1)) ∧ Below W.heap.size W w') (C2 : ∀ W, Calls Tryd.prog 31 #[cl a b c, cl x y q] W fun e w' => e = .returned (.int .i64 (1)) ∧ Below W.heap.size W w') (C3 : ∀ W, Calls Tryd.prog 31 #[cl x y q, cl x y q] W fun e w' => e = .returned (.int .i64 0) ∧ Below W.heap.size W w') (C4 : ∀ W, Calls Tryd.prog 31 #[cl a b c, cl l m n] W fun e w' => e = .returned (.int .i64 s) ∧ Below W.heap.size W w') (C5 : ∀ W, Calls Tryd.prog 31 #[cl x y q, cl l m n] W fun e w' => e = .returned (.int .i64 t) ∧ Below W.heap.size W w') (ne : ∀ (α : Type) (R1 R2 : α), (if x = a then if y = b then if q = c then R1 else R2 else R2 else R2) = R2) (hs : ¬ 0 < s) (ht : t ≤ 0) : Calls Tryd.prog 8 #[cl x y q, cl a b c, cl l m n] w fun r w' => r = .returned (.bool true) ∧ Below w.heap.size w w' := by
  have hL' : ∀ W, Below w.heap.size w W → Lay W := fun W h => lay_below hL h
  go_enter Tryd.func8, Tryd.ntmps8
  go_wp2_with fail
  have hB0 : Below w.heap.size w (((w.alloc (.cells #[.int .i64 (x), .int .i64 (y), .int .u8 (q)] 23)).alloc (.cells #[.int .i64 (a), .int .i64 (b), .int .u8 (c)] 23)).alloc (.cells #[.int .i64 (l), .int .i64 (m), .int .u8 (n)] 23)) := (by repeat first | (with_reducible exact Below.refl _ _) | (with_reducible refine below_on ?_ _) | (with_reducible refine below_alloc ?_ _) | (with_reducible refine below_set ?_ (by simp; try omega) _))
  have b00 : (((w.alloc (.cells #[.int .i64 (x), .int .i64 (y), .int .u8 (q)] 23)).alloc (.cells #[.int .i64 (a), .int .i64 (b), .int .u8 (c)] 23)).alloc (.cells #[.int .i64 (l), .int .i64 (m), .int .u8 (n)] 23)).cell? ⟨w.heap.size, 0, none⟩ = some (.int .i64 (x)) := by simp [go_sem]
  have b01 : (((w.alloc (.cells #[.int .i64 (x), .int .i64 (y), .int .u8 (q)] 23)).alloc (.cells #[.int .i64 (a), .int .i64 (b), .int .u8 (c)] 23)).alloc (.cells #[.int .i64 (l), .int .i64 (m), .int .u8 (n)] 23)).cell? ⟨w.heap.size, 1, none⟩ = some (.int .i64 (y)) := by simp [go_sem]
  have b02 : (((w.alloc (.cells #[.int .i64 (x), .int .i64 (y), .int .u8 (q)] 23)).alloc (.cells #[.int .i64 (a), .int .i64 (b), .int .u8 (c)] 23)).alloc (.cells #[.int .i64 (l), .int .i64 (m), .int .u8 (n)] 23)).cell? ⟨w.heap.size, 2, none⟩ = some (.int .u8 (q)) := by simp [go_sem]
  have b10 : (((w.alloc (.cells #[.int .i64 (x), .int .i64 (y), .int .u8 (q)] 23)).alloc (.cells #[.int .i64 (a), .int .i64 (b), .int .u8 (c)] 23)).alloc (.cells #[.int .i64 (l), .int .i64 (m), .int .u8 (n)] 23)).cell? ⟨w.heap.size + 1, 0, none⟩ = some (.int .i64 (a)) := by simp [go_sem]
  have b11 : (((w.alloc (.cells #[.int .i64 (x), .int .i64 (y), .int .u8 (q)] 23)).alloc (.cells #[.int .i64 (a), .int .i64 (b), .int .u8 (c)] 23)).alloc (.cells #[.int .i64 (l), .int .i64 (m), .int .u8 (n)] 23)).cell? ⟨w.heap.size + 1, 1, none⟩ = some (.int .i64 (b)) := by simp [go_sem]
  have b12 : (((w.alloc (.cells #[.int .i64 (x), .int .i64 (y), .int .u8 (q)] 23)).alloc (.cells #[.int .i64 (a), .int .i64 (b), .int .u8 (c)] 23)).alloc (.cells #[.int .i64 (l), .int .i64 (m), .int .u8 (n)] 23)).cell? ⟨w.heap.size + 1, 2, none⟩ = some (.int .u8 (c)) := by simp [go_sem]
  have b20 : (((w.alloc (.cells #[.int .i64 (x), .int .i64 (y), .int .u8 (q)] 23)).alloc (.cells #[.int .i64 (a), .int .i64 (b), .int .u8 (c)] 23)).alloc (.cells #[.int .i64 (l), .int .i64 (m), .int .u8 (n)] 23)).cell? ⟨w.heap.size + 1 + 1, 0, none⟩ = some (.int .i64 (l)) := by simp [go_sem]
  have b21 : (((w.alloc (.cells #[.int .i64 (x), .int .i64 (y), .int .u8 (q)] 23)).alloc (.cells #[.int .i64 (a), .int .i64 (b), .int .u8 (c)] 23)).alloc (.cells #[.int .i64 (l), .int .i64 (m), .int .u8 (n)] 23)).cell? ⟨w.heap.size + 1 + 1, 1, none⟩ = some (.int .i64 (m)) := by simp [go_sem]
  have b22 : (((w.alloc (.cells #[.int .i64 (x), .int .i64 (y), .int .u8 (q)] 23)).alloc (.cells #[.int .i64 (a), .int .i64 (b), .int .u8 (c)] 23)).alloc (.cells #[.int .i64 (l), .int .i64 (m), .int .u8 (n)] 23)).cell? ⟨w.heap.size + 1 + 1, 2, none⟩ = some (.int .u8 (n)) := by simp [go_sem]
  generalize (((w.alloc (.cells #[.int .i64 (x), .int .i64 (y), .int .u8 (q)] 23)).alloc (.cells #[.int .i64 (a), .int .i64 (b), .int .u8 (c)] 23)).alloc (.cells #[.int .i64 (l), .int .i64 (m), .int .u8 (n)] 23)) = W0 at *
  refine region_later (by kernel_rfl) (by kernel_rfl) ?_
  repeat (go_big_quiet_step ((first | (go_at_call 30; with_reducible exact Calls.later (L1 _)) | (go_at_call 30; with_reducible exact Calls.later (L2 _)) | fail)))
  refine wpQuiet_nil ?_
  rintro _ ⟨ux, rfl⟩
  go_wp2_with fail
  have hR : Below (W0).heap.size (W0) (on ux) := by repeat first | (with_reducible exact Below.refl _ _) | (with_reducible refine below_on ?_ _) | (with_reducible refine below_alloc ?_ _)
  have cR : ∀ {b_ i_ : Nat} {v_ : Value}, (W0).cell? ⟨b_, i_, none⟩ = some v_ → (on ux).cell? ⟨b_, i_, none⟩ = some v_ := fun h => (hR.cell (World.block_lt_of_cell? _ _ h)).trans h
  have b00' := cR b00
  have b01' := cR b01
  have b02' := cR b02
  have b10' := cR b10
  have b11' := cR b11
  have b12' := cR b12
  have b20' := cR b20
  have b21' := cR b21
  have b22' := cR b22
  have hB1 : Below w.heap.size w (on ux) := by repeat first | (with_reducible exact hB0) | (with_reducible refine below_on ?_ _) | (with_reducible refine below_alloc ?_ _)
  clear hR cR b00 b01 b02 b10 b11 b12 b20 b21 b22  hB0
  generalize (on ux) = W1 at *
  clear ux
  go_wp2_with (first | (go_at_call 31; with_reducible refine (C1 _).mono ?_; rintro e wx ⟨rfl, hx⟩; obtain ⟨ux, rfl⟩ := after hx; clear hx) | (go_at_call 31; with_reducible refine (C2 _).mono ?_; rintro e wx ⟨rfl, hx⟩; obtain ⟨ux, rfl⟩ := after hx; clear hx) | (go_at_call 31; with_reducible refine (C3 _).mono ?_; rintro e wx ⟨rfl, hx⟩; obtain ⟨ux, rfl⟩ := after hx; clear hx) | (go_at_call 31; with_reducible refine (C4 _).mono ?_; rintro e wx ⟨rfl, hx⟩; obtain ⟨ux, rfl⟩ := after hx; clear hx) | (go_at_call 31; with_reducible refine (C5 _).mono ?_; rintro e wx ⟨rfl, hx⟩; obtain ⟨ux, rfl⟩ := after hx; clear hx) | (go_at_call 15; with_reducible refine (clives_ok _ (hL' _ (by repeat first | (with_reducible exact hB1) | (with_reducible refine below_on ?_ _) | (with_reducible refine below_alloc ?_ _) | (with_reducible refine below_set ?_ (by simp; try omega) _)))).mono ?_; rintro e wx ⟨rfl, hx⟩; obtain ⟨ux, rfl⟩ := after hx; clear hx) | fail)
  go_ret
  exact ⟨rfl, (by repeat first | (with_reducible exact hB1) | (with_reducible refine below_on ?_ _) | (with_reducible refine below_alloc ?_ _) | (with_reducible refine below_set ?_ (by simp; try omega) _))⟩

set_option maxRecDepth 100000 in
set_option maxHeartbeats 8000000 in
theorem ccompare_eq1 (x y q l m n s t : Int) (w : World) (hL : Lay w) (L1 : ∀ W, Calls Tryd.prog 30 #[cl x y q, cl x y q] W fun e w' => e = .returned (.int .i64 0) ∧ Below W.heap.size W w') (L2 : ∀ W, Calls Tryd.prog 30 #[cl x y q, cl x y q] W fun e w' => e = .returned (.int .i64 0) ∧ Below W.heap.size W w') (C1 : ∀ W, Calls Tryd.prog 31 #[cl x y q, cl x y q] W fun e w' => e = .returned (.int .i64 (0)) ∧ Below W.heap.size W w') (C2 : ∀ W, Calls Tryd.prog 31 #[cl x y q, cl x y q] W fun e w' => e = .returned (.int .i64 (0)) ∧ Below W.heap.size W w') (C3 : ∀ W, Calls Tryd.prog 31 #[cl x y q, cl x y q] W fun e w' => e = .returned (.int .i64 0) ∧ Below W.heap.size W w') (C4 : ∀ W, Calls Tryd.prog 31 #[cl x y q, cl l m n] W fun e w' => e = .returned (.int .i64 s) ∧ Below W.heap.size W w') (C5 : ∀ W, Calls Tryd.prog 31 #[cl x y q, cl l m n] W fun e w' => e = .returned (.int .i64 t) ∧ Below W.heap.size W w') (hs : 0 < s) : Calls Tryd.prog 8 #[cl x y q, cl x y q, cl l m n] w fun r w' => r = .returned (.bool true) ∧ Below w.heap.size w w' := by
  have hL' : ∀ W, Below w.heap.size w W → Lay W := fun W h => lay_below hL h
  go_enter Tryd.func8, Tryd.ntmps8
  go_wp2_with fail
  have hB0 : Below w.heap.size w (((w.alloc (.cells #[.int .i64 (x), .int .i64 (y), .int .u8 (q)] 23)).alloc (.cells #[.int .i64 (x), .int .i64 (y), .int .u8 (q)] 23)).alloc (.cells #[.int .i64 (l), .int .i64 (m), .int .u8 (n)] 23)) := (by repeat first | (with_reducible exact Below.refl _ _) | (with_reducible refine below_on ?_ _) | (with_reducible refine below_alloc ?_ _) | (with_reducible refine below_set ?_ (by simp; try omega) _))
  have b00 : (((w.alloc (.cells #[.int .i64 (x), .int .i64 (y), .int .u8 (q)] 23)).alloc (.cells #[.int .i64 (x), .int .i64 (y), .int .u8 (q)] 23)).alloc (.cells #[.int .i64 (l), .int .i64 (m), .int .u8 (n)] 23)).cell? ⟨w.heap.size, 0, none⟩ = some (.int .i64 (x)) := by simp [go_sem]
  have b01 : (((w.alloc (.cells #[.int .i64 (x), .int .i64 (y), .int .u8 (q)] 23)).alloc (.cells #[.int .i64 (x), .int .i64 (y), .int .u8 (q)] 23)).alloc (.cells #[.int .i64 (l), .int .i64 (m), .int .u8 (n)] 23)).cell? ⟨w.heap.size, 1, none⟩ = some (.int .i64 (y)) := by simp [go_sem]
  have b02 : (((w.alloc (.cells #[.int .i64 (x), .int .i64 (y), .int .u8 (q)] 23)).alloc (.cells #[.int .i64 (x), .int .i64 (y), .int .u8 (q)] 23)).alloc (.cells #[.int .i64 (l), .int .i64 (m), .int .u8 (n)] 23)).cell? ⟨w.heap.size, 2, none⟩ = some (.int .u8 (q)) := by simp [go_sem]
  have b10 : (((w.alloc (.cells #[.int .i64 (x), .int .i64 (y), .int .u8 (q)] 23)).alloc (.cells #[.int .i64 (x), .int .i64 (y), .int .u8 (q)] 23)).alloc (.cells #[.int .i64 (l), .int .i64 (m), .int .u8 (n)] 23)).cell? ⟨w.heap.size + 1, 0, none⟩ = some (.int .i64 (x)) := by simp [go_sem]
  have b11 : (((w.alloc (.cells #[.int .i64 (x), .int .i64 (y), .int .u8 (q)] 23)).alloc (.cells #[.int .i64 (x), .int .i64 (y), .int .u8 (q)] 23)).alloc (.cells #[.int .i64 (l), .int .i64 (m), .int .u8 (n)] 23)).cell? ⟨w.heap.size + 1, 1, none⟩ = some (.int .i64 (y)) := by simp [go_sem]
  have b12 : (((w.alloc (.cells #[.int .i64 (x), .int .i64 (y), .int .u8 (q)] 23)).alloc (.cells #[.int .i64 (x), .int .i64 (y), .int .u8 (q)] 23)).alloc (.cells #[.int .i64 (l), .int .i64 (m), .int .u8 (n)] 23)).cell? ⟨w.heap.size + 1, 2, none⟩ = some (.int .u8 (q)) := by simp [go_sem]
  have b20 : (((w.alloc (.cells #[.int .i64 (x), .int .i64 (y), .int .u8 (q)] 23)).alloc (.cells #[.int .i64 (x), .int .i64 (y), .int .u8 (q)] 23)).alloc (.cells #[.int .i64 (l), .int .i64 (m), .int .u8 (n)] 23)).cell? ⟨w.heap.size + 1 + 1, 0, none⟩ = some (.int .i64 (l)) := by simp [go_sem]
  have b21 : (((w.alloc (.cells #[.int .i64 (x), .int .i64 (y), .int .u8 (q)] 23)).alloc (.cells #[.int .i64 (x), .int .i64 (y), .int .u8 (q)] 23)).alloc (.cells #[.int .i64 (l), .int .i64 (m), .int .u8 (n)] 23)).cell? ⟨w.heap.size + 1 + 1, 1, none⟩ = some (.int .i64 (m)) := by simp [go_sem]
  have b22 : (((w.alloc (.cells #[.int .i64 (x), .int .i64 (y), .int .u8 (q)] 23)).alloc (.cells #[.int .i64 (x), .int .i64 (y), .int .u8 (q)] 23)).alloc (.cells #[.int .i64 (l), .int .i64 (m), .int .u8 (n)] 23)).cell? ⟨w.heap.size + 1 + 1, 2, none⟩ = some (.int .u8 (n)) := by simp [go_sem]
  generalize (((w.alloc (.cells #[.int .i64 (x), .int .i64 (y), .int .u8 (q)] 23)).alloc (.cells #[.int .i64 (x), .int .i64 (y), .int .u8 (q)] 23)).alloc (.cells #[.int .i64 (l), .int .i64 (m), .int .u8 (n)] 23)) = W0 at *
  refine region_later (by kernel_rfl) (by kernel_rfl) ?_
  repeat (go_big_quiet_step ((first | (go_at_call 30; with_reducible exact Calls.later (L1 _)) | (go_at_call 30; with_reducible exact Calls.later (L2 _)) | fail)))
  refine wpQuiet_nil ?_
  rintro _ ⟨ux, rfl⟩
  go_wp2_with fail
  have hR : Below (W0).heap.size (W0) (on ux) := by repeat first | (with_reducible exact Below.refl _ _) | (with_reducible refine below_on ?_ _) | (with_reducible refine below_alloc ?_ _)
  have cR : ∀ {b_ i_ : Nat} {v_ : Value}, (W0).cell? ⟨b_, i_, none⟩ = some v_ → (on ux).cell? ⟨b_, i_, none⟩ = some v_ := fun h => (hR.cell (World.block_lt_of_cell? _ _ h)).trans h
  have b00' := cR b00
  have b01' := cR b01
  have b02' := cR b02
  have b10' := cR b10
  have b11' := cR b11
  have b12' := cR b12
  have b20' := cR b20
  have b21' := cR b21
  have b22' := cR b22
  have hB1 : Below w.heap.size w (on ux) := by repeat first | (with_reducible exact hB0) | (with_reducible refine below_on ?_ _) | (with_reducible refine below_alloc ?_ _)
  clear hR cR b00 b01 b02 b10 b11 b12 b20 b21 b22  hB0
  generalize (on ux) = W1 at *
  clear ux
  go_wp2_with (first | (go_at_call 31; with_reducible refine (C1 _).mono ?_; rintro e wx ⟨rfl, hx⟩; obtain ⟨ux, rfl⟩ := after hx; clear hx) | (go_at_call 31; with_reducible refine (C2 _).mono ?_; rintro e wx ⟨rfl, hx⟩; obtain ⟨ux, rfl⟩ := after hx; clear hx) | (go_at_call 31; with_reducible refine (C3 _).mono ?_; rintro e wx ⟨rfl, hx⟩; obtain ⟨ux, rfl⟩ := after hx; clear hx) | (go_at_call 31; with_reducible refine (C4 _).mono ?_; rintro e wx ⟨rfl, hx⟩; obtain ⟨ux, rfl⟩ := after hx; clear hx) | (go_at_call 31; with_reducible refine (C5 _).mono ?_; rintro e wx ⟨rfl, hx⟩; obtain ⟨ux, rfl⟩ := after hx; clear hx) | (go_at_call 15; with_reducible refine (clives_ok _ (hL' _ (by repeat first | (with_reducible exact hB1) | (with_reducible refine below_on ?_ _) | (with_reducible refine below_alloc ?_ _) | (with_reducible refine below_set ?_ (by simp; try omega) _)))).mono ?_; rintro e wx ⟨rfl, hx⟩; obtain ⟨ux, rfl⟩ := after hx; clear hx) | fail)
  go_ret
  exact ⟨rfl, (by repeat first | (with_reducible exact hB1) | (with_reducible refine below_on ?_ _) | (with_reducible refine below_alloc ?_ _) | (with_reducible refine below_set ?_ (by simp; try omega) _))⟩

set_option maxRecDepth 100000 in
set_option maxHeartbeats 8000000 in
theorem ccompare_eq2 (x y q l m n s t : Int) (w : World) (hL : Lay w) (L1 : ∀ W, Calls Tryd.prog 30 #[cl x y q, cl x y q] W fun e w' => e = .returned (.int .i64 0) ∧ Below W.heap.size W w') (L2 : ∀ W, Calls Tryd.prog 30 #[cl x y q, cl x y q] W fun e w' => e = .returned (.int .i64 0) ∧ Below W.heap.size W w') (C1 : ∀ W, Calls Tryd.prog 31 #[cl x y q, cl x y q] W fun e w' => e = .returned (.int .i64 (0)) ∧ Below W.heap.size W w') (C2 : ∀ W, Calls Tryd.prog 31 #[cl x y q, cl x y q] W fun e w' => e = .returned (.int .i64 (0)) ∧ Below W.heap.size W w') (C3 : ∀ W, Calls Tryd.prog 31 #[cl x y q, cl x y q] W fun e w' => e = .returned (.int .i64 0) ∧ Below W.heap.size W w') (C4 : ∀ W, Calls Tryd.prog 31 #[cl x y q, cl l m n] W fun e w' => e = .returned (.int .i64 s) ∧ Below W.heap.size W w') (C5 : ∀ W, Calls Tryd.prog 31 #[cl x y q, cl l m n] W fun e w' => e = .returned (.int .i64 t) ∧ Below W.heap.size W w') (hs : ¬ 0 < s) (ht : t ≤ 0) : Calls Tryd.prog 8 #[cl x y q, cl x y q, cl l m n] w fun r w' => r = .returned (.bool true) ∧ Below w.heap.size w w' := by
  have hL' : ∀ W, Below w.heap.size w W → Lay W := fun W h => lay_below hL h
  go_enter Tryd.func8, Tryd.ntmps8
  go_wp2_with fail
  have hB0 : Below w.heap.size w (((w.alloc (.cells #[.int .i64 (x), .int .i64 (y), .int .u8 (q)] 23)).alloc (.cells #[.int .i64 (x), .int .i64 (y), .int .u8 (q)] 23)).alloc (.cells #[.int .i64 (l), .int .i64 (m), .int .u8 (n)] 23)) := (by repeat first | (with_reducible exact Below.refl _ _) | (with_reducible refine below_on ?_ _) | (with_reducible refine below_alloc ?_ _) | (with_reducible refine below_set ?_ (by simp; try omega) _))
  have b00 : (((w.alloc (.cells #[.int .i64 (x), .int .i64 (y), .int .u8 (q)] 23)).alloc (.cells #[.int .i64 (x), .int .i64 (y), .int .u8 (q)] 23)).alloc (.cells #[.int .i64 (l), .int .i64 (m), .int .u8 (n)] 23)).cell? ⟨w.heap.size, 0, none⟩ = some (.int .i64 (x)) := by simp [go_sem]
  have b01 : (((w.alloc (.cells #[.int .i64 (x), .int .i64 (y), .int .u8 (q)] 23)).alloc (.cells #[.int .i64 (x), .int .i64 (y), .int .u8 (q)] 23)).alloc (.cells #[.int .i64 (l), .int .i64 (m), .int .u8 (n)] 23)).cell? ⟨w.heap.size, 1, none⟩ = some (.int .i64 (y)) := by simp [go_sem]
  have b02 : (((w.alloc (.cells #[.int .i64 (x), .int .i64 (y), .int .u8 (q)] 23)).alloc (.cells #[.int .i64 (x), .int .i64 (y), .int .u8 (q)] 23)).alloc (.cells #[.int .i64 (l), .int .i64 (m), .int .u8 (n)] 23)).cell? ⟨w.heap.size, 2, none⟩ = some (.int .u8 (q)) := by simp [go_sem]
  have b10 : (((w.alloc (.cells #[.int .i64 (x), .int .i64 (y), .int .u8 (q)] 23)).alloc (.cells #[.int .i64 (x), .int .i64 (y), .int .u8 (q)] 23)).alloc (.cells #[.int .i64 (l), .int .i64 (m), .int .u8 (n)] 23)).cell? ⟨w.heap.size + 1, 0, none⟩ = some (.int .i64 (x)) := by simp [go_sem]
  have b11 : (((w.alloc (.cells #[.int .i64 (x), .int .i64 (y), .int .u8 (q)] 23)).alloc (.cells #[.int .i64 (x), .int .i64 (y), .int .u8 (q)] 23)).alloc (.cells #[.int .i64 (l), .int .i64 (m), .int .u8 (n)] 23)).cell? ⟨w.heap.size + 1, 1, none⟩ = some (.int .i64 (y)) := by simp [go_sem]
  have b12 : (((w.alloc (.cells #[.int .i64 (x), .int .i64 (y), .int .u8 (q)] 23)).alloc (.cells #[.int .i64 (x), .int .i64 (y), .int .u8 (q)] 23)).alloc (.cells #[.int .i64 (l), .int .i64 (m), .int .u8 (n)] 23)).cell? ⟨w.heap.size + 1, 2, none⟩ = some (.int .u8 (q)) := by simp [go_sem]
  have b20 : (((w.alloc (.cells #[.int .i64 (x), .int .i64 (y), .int .u8 (q)] 23)).alloc (.cells #[.int .i64 (x), .int .i64 (y), .int .u8 (q)] 23)).alloc (.cells #[.int .i64 (l), .int .i64 (m), .int .u8 (n)] 23)).cell? ⟨w.heap.size + 1 + 1, 0, none⟩ = some (.int .i64 (l)) := by simp [go_sem]
  have b21 : (((w.alloc (.cells #[.int .i64 (x), .int .i64 (y), .int .u8 (q)] 23)).alloc (.cells #[.int .i64 (x), .int .i64 (y), .int .u8 (q)] 23)).alloc (.cells #[.int .i64 (l), .int .i64 (m), .int .u8 (n)] 23)).cell? ⟨w.heap.size + 1 + 1, 1, none⟩ = some (.int .i64 (m)) := by simp [go_sem]
  have b22 : (((w.alloc (.cells #[.int .i64 (x), .int .i64 (y), .int .u8 (q)] 23)).alloc (.cells #[.int .i64 (x), .int .i64 (y), .int .u8 (q)] 23)).alloc (.cells #[.int .i64 (l), .int .i64 (m), .int .u8 (n)] 23)).cell? ⟨w.heap.size + 1 + 1, 2, none⟩ = some (.int .u8 (n)) := by simp [go_sem]
  generalize (((w.alloc (.cells #[.int .i64 (x), .int .i64 (y), .int .u8 (q)] 23)).alloc (.cells #[.int .i64 (x), .int .i64 (y), .int .u8 (q)] 23)).alloc (.cells #[.int .i64 (l), .int .i64 (m), .int .u8 (n)] 23)) = W0 at *
  refine region_later (by kernel_rfl) (by kernel_rfl) ?_
  repeat (go_big_quiet_step ((first | (go_at_call 30; with_reducible exact Calls.later (L1 _)) | (go_at_call 30; with_reducible exact Calls.later (L2 _)) | fail)))
  refine wpQuiet_nil ?_
  rintro _ ⟨ux, rfl⟩
  go_wp2_with fail
  have hR : Below (W0).heap.size (W0) (on ux) := by repeat first | (with_reducible exact Below.refl _ _) | (with_reducible refine below_on ?_ _) | (with_reducible refine below_alloc ?_ _)
  have cR : ∀ {b_ i_ : Nat} {v_ : Value}, (W0).cell? ⟨b_, i_, none⟩ = some v_ → (on ux).cell? ⟨b_, i_, none⟩ = some v_ := fun h => (hR.cell (World.block_lt_of_cell? _ _ h)).trans h
  have b00' := cR b00
  have b01' := cR b01
  have b02' := cR b02
  have b10' := cR b10
  have b11' := cR b11
  have b12' := cR b12
  have b20' := cR b20
  have b21' := cR b21
  have b22' := cR b22
  have hB1 : Below w.heap.size w (on ux) := by repeat first | (with_reducible exact hB0) | (with_reducible refine below_on ?_ _) | (with_reducible refine below_alloc ?_ _)
  clear hR cR b00 b01 b02 b10 b11 b12 b20 b21 b22  hB0
  generalize (on ux) = W1 at *
  clear ux
  go_wp2_with (first | (go_at_call 31; with_reducible refine (C1 _).mono ?_; rintro e wx ⟨rfl, hx⟩; obtain ⟨ux, rfl⟩ := after hx; clear hx) | (go_at_call 31; with_reducible refine (C2 _).mono ?_; rintro e wx ⟨rfl, hx⟩; obtain ⟨ux, rfl⟩ := after hx; clear hx) | (go_at_call 31; with_reducible refine (C3 _).mono ?_; rintro e wx ⟨rfl, hx⟩; obtain ⟨ux, rfl⟩ := after hx; clear hx) | (go_at_call 31; with_reducible refine (C4 _).mono ?_; rintro e wx ⟨rfl, hx⟩; obtain ⟨ux, rfl⟩ := after hx; clear hx) | (go_at_call 31; with_reducible refine (C5 _).mono ?_; rintro e wx ⟨rfl, hx⟩; obtain ⟨ux, rfl⟩ := after hx; clear hx) | (go_at_call 15; with_reducible refine (clives_ok _ (hL' _ (by repeat first | (with_reducible exact hB1) | (with_reducible refine below_on ?_ _) | (with_reducible refine below_alloc ?_ _) | (with_reducible refine below_set ?_ (by simp; try omega) _)))).mono ?_; rintro e wx ⟨rfl, hx⟩; obtain ⟨ux, rfl⟩ := after hx; clear hx) | fail)
  go_ret
  exact ⟨rfl, (by repeat first | (with_reducible exact hB1) | (with_reducible refine below_on ?_ _) | (with_reducible refine below_alloc ?_ _) | (with_reducible refine below_set ?_ (by simp; try omega) _))⟩

set_option maxRecDepth 100000 in
set_option maxHeartbeats 8000000 in
theorem ccompare_gt0 (x y q a b c l m n s t : Int) (w : World) (hL : Lay w) (L1 : ∀ W, Calls Tryd.prog 30 #[cl a b c, cl x y q] W fun e w' => e = .returned (.int .i64 1) ∧ Below W.heap.size W w') (L2 : ∀ W, Calls Tryd.prog 30 #[cl x y q, cl a b c] W fun e w' => e = .returned (.int .i64 0) ∧ Below W.heap.size W w') (C1 : ∀ W, Calls Tryd.prog 31 #[cl x y q, cl a b c] W fun e w' => e = .returned (.int .i64 (1)) ∧ Below W.heap.size W w') (C2 : ∀ W, Calls Tryd.prog 31 #[cl a b c, cl x y q] W fun e w' => e = .returned (.int .i64 (-1)) ∧ Below W.heap.size W w') (C3 : ∀ W, Calls Tryd.prog 31 #[cl x y q, cl x y q] W fun e w' => e = .returned (.int .i64 0) ∧ Below W.heap.size W w') (C4 : ∀ W, Calls Tryd.prog 31 #[cl a b c, cl l m n] W fun e w' => e = .returned (.int .i64 s) ∧ Below W.heap.size W w') (C5 : ∀ W, Calls Tryd.prog 31 #[cl x y q, cl l m n] W fun e w' => e = .returned (.int .i64 t) ∧ Below W.heap.size W w') (ne : ∀ (α : Type) (R1 R2 : α), (if x = a then if y = b then if q = c then R1 else R2 else R2 else R2) = R2) : Calls Tryd.prog 8 #[cl x y q, cl a b c, cl l m n] w fun r w' => r = .returned (.bool true) ∧ Below w.heap.size w w' := by
  have hL' : ∀ W, Below w.heap.size w W → Lay W := fun W h => lay_below hL h
  go_enter Tryd.func8, Tryd.ntmps8
  go_wp2_with fail
  have hB0 : Below w.heap.size w (((w.alloc (.cells #[.int .i64 (x), .int .i64 (y), .int .u8 (q)] 23)).alloc (.cells #[.int .i64 (a), .int .i64 (b), .int .u8 (c)] 23)).alloc (.cells #[.int .i64 (l), .int .i64 (m), .int .u8 (n)] 23)) := (by repeat first | (with_reducible exact Below.refl _ _) | (with_reducible refine below_on ?_ _) | (with_reducible refine below_alloc ?_ _) | (with_reducible refine below_set ?_ (by simp; try omega) _))
  have b00 : (((w.alloc (.cells #[.int .i64 (x), .int .i64 (y), .int .u8 (q)] 23)).alloc (.cells #[.int .i64 (a), .int .i64 (b), .int .u8 (c)] 23)).alloc (.cells #[.int .i64 (l), .int .i64 (m), .int .u8 (n)] 23)).cell? ⟨w.heap.size, 0, none⟩ = some (.int .i64 (x)) := by simp [go_sem]
  have b01 : (((w.alloc (.cells #[.int .i64 (x), .int .i64 (y), .int .u8 (q)] 23)).alloc (.cells #[.int .i64 (a), .int .i64 (b), .int .u8 (c)] 23)).alloc (.cells #[.int .i64 (l), .int .i64 (m), .int .u8 (n)] 23)).cell? ⟨w.heap.size, 1, none⟩ = some (.int .i64 (y)) := by simp [go_sem]
  have b02 : (((w.alloc (.cells #[.int .i64 (x), .int .i64 (y), .int .u8 (q)] 23)).alloc (.cells #[.int .i64 (a), .int .i64 (b), .int .u8 (c)] 23)).alloc (.cells #[.int .i64 (l), .int .i64 (m), .int .u8 (n)] 23)).cell? ⟨w.heap.size, 2, none⟩ = some (.int .u8 (q)) := by simp [go_sem]
  have b10 : (((w.alloc (.cells #[.int .i64 (x), .int .i64 (y), .int .u8 (q)] 23)).alloc (.cells #[.int .i64 (a), .int .i64 (b), .int .u8 (c)] 23)).alloc (.cells #[.int .i64 (l), .int .i64 (m), .int .u8 (n)] 23)).cell? ⟨w.heap.size + 1, 0, none⟩ = some (.int .i64 (a)) := by simp [go_sem]
  have b11 : (((w.alloc (.cells #[.int .i64 (x), .int .i64 (y), .int .u8 (q)] 23)).alloc (.cells #[.int .i64 (a), .int .i64 (b), .int .u8 (c)] 23)).alloc (.cells #[.int .i64 (l), .int .i64 (m), .int .u8 (n)] 23)).cell? ⟨w.heap.size + 1, 1, none⟩ = some (.int .i64 (b)) := by simp [go_sem]
  have b12 : (((w.alloc (.cells #[.int .i64 (x), .int .i64 (y), .int .u8 (q)] 23)).alloc (.cells #[.int .i64 (a), .int .i64 (b), .int .u8 (c)] 23)).alloc (.cells #[.int .i64 (l), .int .i64 (m), .int .u8 (n)] 23)).cell? ⟨w.heap.size + 1, 2, none⟩ = some (.int .u8 (c)) := by simp [go_sem]
  have b20 : (((w.alloc (.cells #[.int .i64 (x), .int .i64 (y), .int .u8 (q)] 23)).alloc (.cells #[.int .i64 (a), .int .i64 (b), .int .u8 (c)] 23)).alloc (.cells #[.int .i64 (l), .int .i64 (m), .int .u8 (n)] 23)).cell? ⟨w.heap.size + 1 + 1, 0, none⟩ = some (.int .i64 (l)) := by simp [go_sem]
  have b21 : (((w.alloc (.cells #[.int .i64 (x), .int .i64 (y), .int .u8 (q)] 23)).alloc (.cells #[.int .i64 (a), .int .i64 (b), .int .u8 (c)] 23)).alloc (.cells #[.int .i64 (l), .int .i64 (m), .int .u8 (n)] 23)).cell? ⟨w.heap.size + 1 + 1, 1, none⟩ = some (.int .i64 (m)) := by simp [go_sem]
  have b22 : (((w.alloc (.cells #[.int .i64 (x), .int .i64 (y), .int .u8 (q)] 23)).alloc (.cells #[.int .i64 (a), .int .i64 (b), .int .u8 (c)] 23)).alloc (.cells #[.int .i64 (l), .int .i64 (m), .int .u8 (n)] 23)).cell? ⟨w.heap.size + 1 + 1, 2, none⟩ = some (.int .u8 (n)) := by simp [go_sem]
  generalize (((w.alloc (.cells #[.int .i64 (x), .int .i64 (y), .int .u8 (q)] 23)).alloc (.cells #[.int .i64 (a), .int .i64 (b), .int .u8 (c)] 23)).alloc (.cells #[.int .i64 (l), .int .i64 (m), .int .u8 (n)] 23)) = W0 at *
  refine region_later (by kernel_rfl) (by kernel_rfl) ?_
  repeat (go_big_quiet_step ((first | (go_at_call 30; with_reducible exact Calls.later (L1 _)) | (go_at_call 30; with_reducible exact Calls.later (L2 _)) | fail)))
  refine wpQuiet_nil ?_
  rintro _ ⟨ux, rfl⟩
  go_wp2_with fail
  have hR : Below (W0).heap.size (W0) (on ux) := by repeat first | (with_reducible exact Below.refl _ _) | (with_reducible refine below_on ?_ _) | (with_reducible refine below_alloc ?_ _)
  have cR : ∀ {b_ i_ : Nat} {v_ : Value}, (W0).cell? ⟨b_, i_, none⟩ = some v_ → (on ux).cell? ⟨b_, i_, none⟩ = some v_ := fun h => (hR.cell (World.block_lt_of_cell? _ _ h)).trans h
  have b00' := cR b00
  have b01' := cR b01
  have b02' := cR b02
  have b10' := cR b10
  have b11' := cR b11
  have b12' := cR b12
  have b20' := cR b20
  have b21' := cR b21
  have b22' := cR b22
  have hB1 : Below w.heap.size w (on ux) := by repeat first | (with_reducible exact hB0) | (with_reducible refine below_on ?_ _) | (with_reducible refine below_alloc ?_ _)
  clear hR cR b00 b01 b02 b10 b11 b12 b20 b21 b22  hB0
  generalize (on ux) = W1 at *
  clear ux
  go_wp2_with (first | (go_at_call 31; with_reducible refine (C1 _).mono ?_; rintro e wx ⟨rfl, hx⟩; obtain ⟨ux, rfl⟩ := after hx; clear hx) | (go_at_call 31; with_reducible refine (C2 _).mono ?_; rintro e wx ⟨rfl, hx⟩; obtain ⟨ux, rfl⟩ := after hx; clear hx) | (go_at_call 31; with_reducible refine (C3 _).mono ?_; rintro e wx ⟨rfl, hx⟩; obtain ⟨ux, rfl⟩ := after hx; clear hx) | (go_at_call 31; with_reducible refine (C4 _).mono ?_; rintro e wx ⟨rfl, hx⟩; obtain ⟨ux, rfl⟩ := after hx; clear hx) | (go_at_call 31; with_reducible refine (C5 _).mono ?_; rintro e wx ⟨rfl, hx⟩; obtain ⟨ux, rfl⟩ := after hx; clear hx) | (go_at_call 15; with_reducible refine (clives_ok _ (hL' _ (by repeat first | (with_reducible exact hB1) | (with_reducible refine below_on ?_ _) | (with_reducible refine below_alloc ?_ _) | (with_reducible refine below_set ?_ (by simp; try omega) _)))).mono ?_; rintro e wx ⟨rfl, hx⟩; obtain ⟨ux, rfl⟩ := after hx; clear hx) | fail)
  go_ret
  exact ⟨rfl, (by repeat first | (with_reducible exact hB1) | (with_reducible refine below_on ?_ _) | (with_reducible refine below_alloc ?_ _) | (with_reducible refine below_set ?_ (by simp; try omega) _))⟩

/-- The order of two cells, as a number. -/
def ord3 (x y q a b c : Int) : Int := cmp3 y b (cmp3 x a (cmp3 q c 0))
theorem ccompare_law (x y q a b c l m n : Int) (w : World) (hL : Lay w) : Calls Tryd.prog 8 #[cl x y q, cl a b c, cl l m n] w fun r w' => r = .returned (.bool true) ∧ Below w.heap.size w w' := by
  have CA : ∀ (x y q a b c : Int) (W : World), Calls Tryd.prog 31 #[cl x y q, cl a b c] W fun r w' => r = .returned (.int .i64 (ord3 x y q a b c)) ∧ Below W.heap.size W w' := fun x y q a b c W => ccmp_any x y q a b c W
  have OL : ∀ x y q a b c : Int, (y < b ∨ (y = b ∧ (x < a ∨ (x = a ∧ q < c)))) ↔ ord3 x y q a b c = -1 := fun x y q a b c => by unfold ord3 cmp3; (repeat' split) <;> omega
  have OE : ∀ x y q a b c : Int, (y = b ∧ x = a ∧ q = c) ↔ ord3 x y q a b c = 0 := fun x y q a b c => by unfold ord3 cmp3; (repeat' split) <;> omega
  have OG : ∀ x y q a b c : Int, (b < y ∨ (b = y ∧ (a < x ∨ (a = x ∧ c < q)))) ↔ ord3 x y q a b c = 1 := fun x y q a b c => by unfold ord3 cmp3; (repeat' split) <;> omega
  have C3 := fun W => CA x y q x y q W
  rw [(OE x y q x y q).1 ⟨rfl, rfl, rfl⟩] at C3
  have hc4 := OG a b c l m n
  have h5l := OL x y q l m n
  have h5e := OE x y q l m n
  have h5 : ord3 x y q l m n = -1 ∨ ord3 x y q l m n = 0 ∨ ord3 x y q l m n = 1 := by unfold ord3 cmp3; (repeat' split) <;> omega
  have h4 : ord3 a b c l m n = -1 ∨ ord3 a b c l m n = 0 ∨ ord3 a b c l m n = 1 := by unfold ord3 cmp3; (repeat' split) <;> omega
  have h4l := OL a b c l m n
  have h4e := OE a b c l m n
  have C1 := fun W => CA x y q a b c W
  have C2 := fun W => CA a b c x y q W
  by_cases e1 : y < b ∨ (y = b ∧ (x < a ∨ (x = a ∧ q < c)))
  · rw [(OL x y q a b c).1 e1] at C1
    rw [(OG a b c x y q).1 (by omega)] at C2
    by_cases hs : 0 < ord3 a b c l m n
    · exact ccompare_lt1 x y q a b c l m n _ _ w hL (fun W => rless_no a b c x y q W (by omega)) (fun W => rless_yes x y q a b c W e1) C1 C2 C3 (fun W => CA a b c l m n W) (fun W => CA x y q l m n W) (neA (by omega)) hs
    · exact ccompare_lt2 x y q a b c l m n _ _ w hL (fun W => rless_no a b c x y q W (by omega)) (fun W => rless_yes x y q a b c W e1) C1 C2 C3 (fun W => CA a b c l m n W) (fun W => CA x y q l m n W) (neA (by omega)) hs (by omega)
  · by_cases e2 : b < y ∨ (b = y ∧ (a < x ∨ (a = x ∧ c < q)))
    · rw [(OG x y q a b c).1 e2] at C1
      rw [(OL a b c x y q).1 (by omega)] at C2
      exact ccompare_gt0 x y q a b c l m n _ _ w hL (fun W => rless_yes a b c x y q W (by omega)) (fun W => rless_no x y q a b c W (by omega)) C1 C2 C3 (fun W => CA a b c l m n W) (fun W => CA x y q l m n W) (neA (by omega))
    · obtain ⟨rfl, rfl, rfl⟩ : y = b ∧ x = a ∧ q = c := by omega
      by_cases hs : 0 < ord3 x y q l m n
      · exact ccompare_eq1 x y q l m n _ _ w hL (fun W => rless_no x y q x y q W (by omega)) (fun W => rless_no x y q x y q W (by omega)) C3 C3 C3 (fun W => CA x y q l m n W) (fun W => CA x y q l m n W) hs
      · exact ccompare_eq2 x y q l m n _ _ w hL (fun W => rless_no x y q x y q W (by omega)) (fun W => rless_no x y q x y q W (by omega)) C3 C3 C3 (fun W => CA x y q l m n W) (fun W => CA x y q l m n W) hs (by omega)

end Go.Proofs.YtgkiliijefkcaaaDoor
