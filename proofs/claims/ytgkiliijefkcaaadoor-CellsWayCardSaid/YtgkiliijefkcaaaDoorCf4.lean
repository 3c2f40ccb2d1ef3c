/-
  Says: what Touch of package cells gives.
-/
import Derived.Test.YtgkiliijefkcaaaDoorCf2
set_option linter.unusedVariables false
set_option linter.unusedSimpArgs false
namespace Go.Proofs.YtgkiliijefkcaaaDoor
open Go Go.RowKit

attribute [local go_sem] World.cell?_alloc_some frozen?_alloc_cells fz0 fz1 fz2 fz3 fz4 fz5

theorem eqR {a b c x y q : Int} (h : a = x ∧ b = y ∧ c = q) : ∀ R1 R2 : Result Next, (if a = x then if b = y then if c = q then R1 else R2 else R2 else R2) = R1 := fun _ _ => by
  rw [if_pos h.1, if_pos h.2.1, if_pos h.2.2]
theorem neR {a b c x y q : Int} (h : ¬ (a = x ∧ b = y ∧ c = q)) : ∀ R1 R2 : Result Next, (if a = x then if b = y then if c = q then R1 else R2 else R2 else R2) = R2 := fun _ _ => by
  repeat' split
  all_goals first | rfl | (exact absurd ⟨‹_›, ‹_›, ‹_›⟩ h)

set_option maxRecDepth 100000 in
set_option maxHeartbeats 2000000 in
theorem ctouch_t0 (x y q a b c : Int) (w : World) (hL : Lay w) (c1 : -4096 ≤ x) (c2 : x ≤ 4096) (c3 : -4096 ≤ y) (c4 : y ≤ 4096) (c5 : 0 ≤ q) (c6 : q ≤ 3)(d1 : -4096 ≤ a) (d2 : a ≤ 4096) (d3 : -4096 ≤ b) (d4 : b ≤ 4096) (d5 : 0 ≤ c) (d6 : c ≤ 3)(n0 : ∀ R1 R2 : Result Next, (if nbX q 0 x = a then if nbY q 0 y = b then if nbQ q 0 = c then R1 else R2 else R2 else R2) = R1) : Calls Tryd.prog 20 #[cl x y q, cl a b c] w fun r w' => r = .returned (.tuple #[.int .u8 0, .int .i64 0]) ∧ Below w.heap.size w w' := by
  have hL' : ∀ W, Below w.heap.size w W → Lay W := fun W h => lay_below hL h
  go_enter Tryd.func20, Tryd.ntmps20
  go_wp2_with fail
  have hB0 : Below w.heap.size w ((w.alloc (.cells #[.int .i64 (x), .int .i64 (y), .int .u8 (q)] 23)).alloc (.cells #[.int .i64 (a), .int .i64 (b), .int .u8 (c)] 23)) := (by repeat first | (with_reducible exact Below.refl _ _) | (with_reducible refine below_on ?_ _) | (with_reducible refine below_alloc ?_ _) | (with_reducible refine below_set ?_ (by simp; try omega) _))
  have b00 : ((w.alloc (.cells #[.int .i64 (x), .int .i64 (y), .int .u8 (q)] 23)).alloc (.cells #[.int .i64 (a), .int .i64 (b), .int .u8 (c)] 23)).cell? ⟨w.heap.size, 0, none⟩ = some (.int .i64 (x)) := by simp [go_sem]
  have b01 : ((w.alloc (.cells #[.int .i64 (x), .int .i64 (y), .int .u8 (q)] 23)).alloc (.cells #[.int .i64 (a), .int .i64 (b), .int .u8 (c)] 23)).cell? ⟨w.heap.size, 1, none⟩ = some (.int .i64 (y)) := by simp [go_sem]
  have b02 : ((w.alloc (.cells #[.int .i64 (x), .int .i64 (y), .int .u8 (q)] 23)).alloc (.cells #[.int .i64 (a), .int .i64 (b), .int .u8 (c)] 23)).cell? ⟨w.heap.size, 2, none⟩ = some (.int .u8 (q)) := by simp [go_sem]
  have b10 : ((w.alloc (.cells #[.int .i64 (x), .int .i64 (y), .int .u8 (q)] 23)).alloc (.cells #[.int .i64 (a), .int .i64 (b), .int .u8 (c)] 23)).cell? ⟨w.heap.size + 1, 0, none⟩ = some (.int .i64 (a)) := by simp [go_sem]
  have b11 : ((w.alloc (.cells #[.int .i64 (x), .int .i64 (y), .int .u8 (q)] 23)).alloc (.cells #[.int .i64 (a), .int .i64 (b), .int .u8 (c)] 23)).cell? ⟨w.heap.size + 1, 1, none⟩ = some (.int .i64 (b)) := by simp [go_sem]
  have b12 : ((w.alloc (.cells #[.int .i64 (x), .int .i64 (y), .int .u8 (q)] 23)).alloc (.cells #[.int .i64 (a), .int .i64 (b), .int .u8 (c)] 23)).cell? ⟨w.heap.size + 1, 2, none⟩ = some (.int .u8 (c)) := by simp [go_sem]
  generalize ((w.alloc (.cells #[.int .i64 (x), .int .i64 (y), .int .u8 (q)] 23)).alloc (.cells #[.int .i64 (a), .int .i64 (b), .int .u8 (c)] 23)) = W0 at *
  go_wp2_with (first | (go_at_call 14; with_reducible refine (ccheck_ok x y q _ c1 c2 c3 c4 c5 c6).mono ?_; rintro e wx ⟨rfl, hx⟩; obtain ⟨ux, rfl⟩ := after hx; clear hx) | fail)
  have hR : Below (W0).heap.size (W0) (on ux) := by repeat first | (with_reducible exact Below.refl _ _) | (with_reducible refine below_on ?_ _) | (with_reducible refine below_alloc ?_ _)
  have cR : ∀ {b i : Nat} {v : Value}, (W0).cell? ⟨b, i, none⟩ = some v → (on ux).cell? ⟨b, i, none⟩ = some v := fun h => (hR.cell (World.block_lt_of_cell? _ _ h)).trans h
  have b00' := cR b00
  have b01' := cR b01
  have b02' := cR b02
  have b10' := cR b10
  have b11' := cR b11
  have b12' := cR b12
  have hB1 : Below w.heap.size w (on ux) := by repeat first | (with_reducible exact hB0) | (with_reducible refine below_on ?_ _) | (with_reducible refine below_alloc ?_ _)
  clear hR cR b00 b01 b02 b10 b11 b12  hB0
  generalize (on ux) = W1 at *
  clear ux
  go_wp2_with (first | (go_at_call 14; with_reducible refine (ccheck_ok a b c _ d1 d2 d3 d4 d5 d6).mono ?_; rintro e wx ⟨rfl, hx⟩; obtain ⟨ux, rfl⟩ := after hx; clear hx) | fail)
  have hR : Below (W1).heap.size (W1) (on ux) := by repeat first | (with_reducible exact Below.refl _ _) | (with_reducible refine below_on ?_ _) | (with_reducible refine below_alloc ?_ _)
  have cR : ∀ {b i : Nat} {v : Value}, (W1).cell? ⟨b, i, none⟩ = some v → (on ux).cell? ⟨b, i, none⟩ = some v := fun h => (hR.cell (World.block_lt_of_cell? _ _ h)).trans h
  have b00'' := cR b00'
  have b01'' := cR b01'
  have b02'' := cR b02'
  have b10'' := cR b10'
  have b11'' := cR b11'
  have b12'' := cR b12'
  have hB2 : Below w.heap.size w (on ux) := by repeat first | (with_reducible exact hB1) | (with_reducible refine below_on ?_ _) | (with_reducible refine below_alloc ?_ _)
  clear hR cR b00' b01' b02' b10' b11' b12'  hB1
  generalize (on ux) = W2 at *
  clear ux
  go_loopw [15] (fun iv wr => ∃ i : Int, iv = .int .u8 i ∧ (i = 0) ∧ ∃ u : Later W2, wr = on u) (fun iv _ => (3 - intOf iv).toNat)
  case atStart => exact ⟨0, rfl, by omega, ⟨_, Below.refl _ _⟩, rfl⟩
  case round =>
    obtain ⟨i, rfl, hi, u0, rfl⟩ := hrel
    have hq : Below w.heap.size w (on u0) := below_on hB2 u0
    obtain rfl := hi
    · go_wp2_with fail
      refine region_later (by kernel_rfl) (by kernel_rfl) ?_
      repeat (go_big_quiet_step ((first | (go_at_call 48; with_reducible exact Calls.later (nof_any x y q 0 _ (hL' _ (below_on hq _)) (by omega) (by omega) (by omega) (by omega) c5 c6 (by omega) (by omega))) | fail)))
      refine wpQuiet_nil ?_
      rintro _ ⟨u9, rfl⟩
      go_wp2_with fail
      go_ret2
      exact ⟨rfl, (by repeat first | (with_reducible exact hq) | (with_reducible refine below_on ?_ _) | (with_reducible refine below_alloc ?_ _) | (with_reducible refine below_set ?_ (by simp; try omega) _))⟩

set_option maxRecDepth 100000 in
set_option maxHeartbeats 2000000 in
theorem ctouch_t1 (x y q a b c : Int) (w : World) (hL : Lay w) (c1 : -4096 ≤ x) (c2 : x ≤ 4096) (c3 : -4096 ≤ y) (c4 : y ≤ 4096) (c5 : 0 ≤ q) (c6 : q ≤ 3)(d1 : -4096 ≤ a) (d2 : a ≤ 4096) (d3 : -4096 ≤ b) (d4 : b ≤ 4096) (d5 : 0 ≤ c) (d6 : c ≤ 3)(n0 : ∀ R1 R2 : Result Next, (if nbX q 0 x = a then if nbY q 0 y = b then if nbQ q 0 = c then R1 else R2 else R2 else R2) = R2) (n1 : ∀ R1 R2 : Result Next, (if nbX q 1 x = a then if nbY q 1 y = b then if nbQ q 1 = c then R1 else R2 else R2 else R2) = R1) : Calls Tryd.prog 20 #[cl x y q, cl a b c] w fun r w' => r = .returned (.tuple #[.int .u8 1, .int .i64 0]) ∧ Below w.heap.size w w' := by
  have hL' : ∀ W, Below w.heap.size w W → Lay W := fun W h => lay_below hL h
  go_enter Tryd.func20, Tryd.ntmps20
  go_wp2_with fail
  have hB0 : Below w.heap.size w ((w.alloc (.cells #[.int .i64 (x), .int .i64 (y), .int .u8 (q)] 23)).alloc (.cells #[.int .i64 (a), .int .i64 (b), .int .u8 (c)] 23)) := (by repeat first | (with_reducible exact Below.refl _ _) | (with_reducible refine below_on ?_ _) | (with_reducible refine below_alloc ?_ _) | (with_reducible refine below_set ?_ (by simp; try omega) _))
  have b00 : ((w.alloc (.cells #[.int .i64 (x), .int .i64 (y), .int .u8 (q)] 23)).alloc (.cells #[.int .i64 (a), .int .i64 (b), .int .u8 (c)] 23)).cell? ⟨w.heap.size, 0, none⟩ = some (.int .i64 (x)) := by simp [go_sem]
  have b01 : ((w.alloc (.cells #[.int .i64 (x), .int .i64 (y), .int .u8 (q)] 23)).alloc (.cells #[.int .i64 (a), .int .i64 (b), .int .u8 (c)] 23)).cell? ⟨w.heap.size, 1, none⟩ = some (.int .i64 (y)) := by simp [go_sem]
  have b02 : ((w.alloc (.cells #[.int .i64 (x), .int .i64 (y), .int .u8 (q)] 23)).alloc (.cells #[.int .i64 (a), .int .i64 (b), .int .u8 (c)] 23)).cell? ⟨w.heap.size, 2, none⟩ = some (.int .u8 (q)) := by simp [go_sem]
  have b10 : ((w.alloc (.cells #[.int .i64 (x), .int .i64 (y), .int .u8 (q)] 23)).alloc (.cells #[.int .i64 (a), .int .i64 (b), .int .u8 (c)] 23)).cell? ⟨w.heap.size + 1, 0, none⟩ = some (.int .i64 (a)) := by simp [go_sem]
  have b11 : ((w.alloc (.cells #[.int .i64 (x), .int .i64 (y), .int .u8 (q)] 23)).alloc (.cells #[.int .i64 (a), .int .i64 (b), .int .u8 (c)] 23)).cell? ⟨w.heap.size + 1, 1, none⟩ = some (.int .i64 (b)) := by simp [go_sem]
  have b12 : ((w.alloc (.cells #[.int .i64 (x), .int .i64 (y), .int .u8 (q)] 23)).alloc (.cells #[.int .i64 (a), .int .i64 (b), .int .u8 (c)] 23)).cell? ⟨w.heap.size + 1, 2, none⟩ = some (.int .u8 (c)) := by simp [go_sem]
  generalize ((w.alloc (.cells #[.int .i64 (x), .int .i64 (y), .int .u8 (q)] 23)).alloc (.cells #[.int .i64 (a), .int .i64 (b), .int .u8 (c)] 23)) = W0 at *
  go_wp2_with (first | (go_at_call 14; with_reducible refine (ccheck_ok x y q _ c1 c2 c3 c4 c5 c6).mono ?_; rintro e wx ⟨rfl, hx⟩; obtain ⟨ux, rfl⟩ := after hx; clear hx) | fail)
  have hR : Below (W0).heap.size (W0) (on ux) := by repeat first | (with_reducible exact Below.refl _ _) | (with_reducible refine below_on ?_ _) | (with_reducible refine below_alloc ?_ _)
  have cR : ∀ {b i : Nat} {v : Value}, (W0).cell? ⟨b, i, none⟩ = some v → (on ux).cell? ⟨b, i, none⟩ = some v := fun h => (hR.cell (World.block_lt_of_cell? _ _ h)).trans h
  have b00' := cR b00
  have b01' := cR b01
  have b02' := cR b02
  have b10' := cR b10
  have b11' := cR b11
  have b12' := cR b12
  have hB1 : Below w.heap.size w (on ux) := by repeat first | (with_reducible exact hB0) | (with_reducible refine below_on ?_ _) | (with_reducible refine below_alloc ?_ _)
  clear hR cR b00 b01 b02 b10 b11 b12  hB0
  generalize (on ux) = W1 at *
  clear ux
  go_wp2_with (first | (go_at_call 14; with_reducible refine (ccheck_ok a b c _ d1 d2 d3 d4 d5 d6).mono ?_; rintro e wx ⟨rfl, hx⟩; obtain ⟨ux, rfl⟩ := after hx; clear hx) | fail)
  have hR : Below (W1).heap.size (W1) (on ux) := by repeat first | (with_reducible exact Below.refl _ _) | (with_reducible refine below_on ?_ _) | (with_reducible refine below_alloc ?_ _)
  have cR : ∀ {b i : Nat} {v : Value}, (W1).cell? ⟨b, i, none⟩ = some v → (on ux).cell? ⟨b, i, none⟩ = some v := fun h => (hR.cell (World.block_lt_of_cell? _ _ h)).trans h
  have b00'' := cR b00'
  have b01'' := cR b01'
  have b02'' := cR b02'
  have b10'' := cR b10'
  have b11'' := cR b11'
  have b12'' := cR b12'
  have hB2 : Below w.heap.size w (on ux) := by repeat first | (with_reducible exact hB1) | (with_reducible refine below_on ?_ _) | (with_reducible refine below_alloc ?_ _)
  clear hR cR b00' b01' b02' b10' b11' b12'  hB1
  generalize (on ux) = W2 at *
  clear ux
  go_loopw [15] (fun iv wr => ∃ i : Int, iv = .int .u8 i ∧ (i = 0 ∨ i = 1) ∧ ∃ u : Later W2, wr = on u) (fun iv _ => (3 - intOf iv).toNat)
  case atStart => exact ⟨0, rfl, by omega, ⟨_, Below.refl _ _⟩, rfl⟩
  case round =>
    obtain ⟨i, rfl, hi, u0, rfl⟩ := hrel
    have hq : Below w.heap.size w (on u0) := below_on hB2 u0
    obtain rfl | rfl := hi
    · go_wp2_with fail
      refine region_later (by kernel_rfl) (by kernel_rfl) ?_
      repeat (go_big_quiet_step ((first | (go_at_call 48; with_reducible exact Calls.later (nof_any x y q 0 _ (hL' _ (below_on hq _)) (by omega) (by omega) (by omega) (by omega) c5 c6 (by omega) (by omega))) | fail)))
      refine wpQuiet_nil ?_
      rintro _ ⟨u9, rfl⟩
      go_wp2_with fail
      exact ⟨⟨0 + 1, rfl, by omega, after (below_on (below_on (Below.refl _ _) u0) u9)⟩, by simp [intOf]⟩
    · go_wp2_with fail
      refine region_later (by kernel_rfl) (by kernel_rfl) ?_
      repeat (go_big_quiet_step ((first | (go_at_call 48; with_reducible exact Calls.later (nof_any x y q 1 _ (hL' _ (below_on hq _)) (by omega) (by omega) (by omega) (by omega) c5 c6 (by omega) (by omega))) | fail)))
      refine wpQuiet_nil ?_
      rintro _ ⟨u9, rfl⟩
      go_wp2_with fail
      go_ret2
      exact ⟨rfl, (by repeat first | (with_reducible exact hq) | (with_reducible refine below_on ?_ _) | (with_reducible refine below_alloc ?_ _) | (with_reducible refine below_set ?_ (by simp; try omega) _))⟩

set_option maxRecDepth 100000 in
set_option maxHeartbeats 2000000 in
theorem ctouch_t2 (x y q a b c : Int) (w : World) (hL : Lay w) (c1 : -4096 ≤ x) (c2 : x ≤ 4096) (c3 : -4096 ≤ y) (c4 : y ≤ 4096) (c5 : 0 ≤ q) (c6 : q ≤ 3)(d1 : -4096 ≤ a) (d2 : a ≤ 4096) (d3 : -4096 ≤ b) (d4 : b ≤ 4096) (d5 : 0 ≤ c) (d6 : c ≤ 3)(n0 : ∀ R1 R2 : Result Next, (if nbX q 0 x = a then if nbY q 0 y = b then if nbQ q 0 = c then R1 else R2 else R2 else R2) = R2) (n1 : ∀ R1 R2 : Result Next, (if nbX q 1 x = a then if nbY q 1 y = b then if nbQ q 1 = c then R1 else R2 else R2 else R2) = R2) (n2 : ∀ R1 R2 : Result Next, (if nbX q 2 x = a then if nbY q 2 y = b then if nbQ q 2 = c then R1 else R2 else R2 else R2) = R1) : Calls Tryd.prog 20 #[cl x y q, cl a b c] w fun r w' => r = .returned (.tuple #[.int .u8 2, .int .i64 0]) ∧ Below w.heap.size w w' := by
  have hL' : ∀ W, Below w.heap.size w W → Lay W := fun W h => lay_below hL h
  go_enter Tryd.func20, Tryd.ntmps20
  go_wp2_with fail
  have hB0 : Below w.heap.size w ((w.alloc (.cells #[.int .i64 (x), .int .i64 (y), .int .u8 (q)] 23)).alloc (.cells #[.int .i64 (a), .int .i64 (b), .int .u8 (c)] 23)) := (by repeat first | (with_reducible exact Below.refl _ _) | (with_reducible refine below_on ?_ _) | (with_reducible refine below_alloc ?_ _) | (with_reducible refine below_set ?_ (by simp; try omega) _))
  have b00 : ((w.alloc (.cells #[.int .i64 (x), .int .i64 (y), .int .u8 (q)] 23)).alloc (.cells #[.int .i64 (a), .int .i64 (b), .int .u8 (c)] 23)).cell? ⟨w.heap.size, 0, none⟩ = some (.int .i64 (x)) := by simp [go_sem]
  have b01 : ((w.alloc (.cells #[.int .i64 (x), .int .i64 (y), .int .u8 (q)] 23)).alloc (.cells #[.int .i64 (a), .int .i64 (b), .int .u8 (c)] 23)).cell? ⟨w.heap.size, 1, none⟩ = some (.int .i64 (y)) := by simp [go_sem]
  have b02 : ((w.alloc (.cells #[.int .i64 (x), .int .i64 (y), .int .u8 (q)] 23)).alloc (.cells #[.int .i64 (a), .int .i64 (b), .int .u8 (c)] 23)).cell? ⟨w.heap.size, 2, none⟩ = some (.int .u8 (q)) := by simp [go_sem]
  have b10 : ((w.alloc (.cells #[.int .i64 (x), .int .i64 (y), .int .u8 (q)] 23)).alloc (.cells #[.int .i64 (a), .int .i64 (b), .int .u8 (c)] 23)).cell? ⟨w.heap.size + 1, 0, none⟩ = some (.int .i64 (a)) := by simp [go_sem]
  have b11 : ((w.alloc (.cells #[.int .i64 (x), .int .i64 (y), .int .u8 (q)] 23)).alloc (.cells #[.int .i64 (a), .int .i64 (b), .int .u8 (c)] 23)).cell? ⟨w.heap.size + 1, 1, none⟩ = some (.int .i64 (b)) := by simp [go_sem]
  have b12 : ((w.alloc (.cells #[.int .i64 (x), .int .i64 (y), .int .u8 (q)] 23)).alloc (.cells #[.int .i64 (a), .int .i64 (b), .int .u8 (c)] 23)).cell? ⟨w.heap.size + 1, 2, none⟩ = some (.int .u8 (c)) := by simp [go_sem]
  generalize ((w.alloc (.cells #[.int .i64 (x), .int .i64 (y), .int .u8 (q)] 23)).alloc (.cells #[.int .i64 (a), .int .i64 (b), .int .u8 (c)] 23)) = W0 at *
  go_wp2_with (first | (go_at_call 14; with_reducible refine (ccheck_ok x y q _ c1 c2 c3 c4 c5 c6).mono ?_; rintro e wx ⟨rfl, hx⟩; obtain ⟨ux, rfl⟩ := after hx; clear hx) | fail)
  have hR : Below (W0).heap.size (W0) (on ux) := by repeat first | (with_reducible exact Below.refl _ _) | (with_reducible refine below_on ?_ _) | (with_reducible refine below_alloc ?_ _)
  have cR : ∀ {b i : Nat} {v : Value}, (W0).cell? ⟨b, i, none⟩ = some v → (on ux).cell? ⟨b, i, none⟩ = some v := fun h => (hR.cell (World.block_lt_of_cell? _ _ h)).trans h
  have b00' := cR b00
  have b01' := cR b01
  have b02' := cR b02
  have b10' := cR b10
  have b11' := cR b11
  have b12' := cR b12
  have hB1 : Below w.heap.size w (on ux) := by repeat first | (with_reducible exact hB0) | (with_reducible refine below_on ?_ _) | (with_reducible refine below_alloc ?_ _)
  clear hR cR b00 b01 b02 b10 b11 b12  hB0
  generalize (on ux) = W1 at *
  clear ux
  go_wp2_with (first | (go_at_call 14; with_reducible refine (ccheck_ok a b c _ d1 d2 d3 d4 d5 d6).mono ?_; rintro e wx ⟨rfl, hx⟩; obtain ⟨ux, rfl⟩ := after hx; clear hx) | fail)
  have hR : Below (W1).heap.size (W1) (on ux) := by repeat first | (with_reducible exact Below.refl _ _) | (with_reducible refine below_on ?_ _) | (with_reducible refine below_alloc ?_ _)
  have cR : ∀ {b i : Nat} {v : Value}, (W1).cell? ⟨b, i, none⟩ = some v → (on ux).cell? ⟨b, i, none⟩ = some v := fun h => (hR.cell (World.block_lt_of_cell? _ _ h)).trans h
  have b00'' := cR b00'
  have b01'' := cR b01'
  have b02'' := cR b02'
  have b10'' := cR b10'
  have b11'' := cR b11'
  have b12'' := cR b12'
  have hB2 : Below w.heap.size w (on ux) := by repeat first | (with_reducible exact hB1) | (with_reducible refine below_on ?_ _) | (with_reducible refine below_alloc ?_ _)
  clear hR cR b00' b01' b02' b10' b11' b12'  hB1
  generalize (on ux) = W2 at *
  clear ux
  go_loopw [15] (fun iv wr => ∃ i : Int, iv = .int .u8 i ∧ (i = 0 ∨ i = 1 ∨ i = 2) ∧ ∃ u : Later W2, wr = on u) (fun iv _ => (3 - intOf iv).toNat)
  case atStart => exact ⟨0, rfl, by omega, ⟨_, Below.refl _ _⟩, rfl⟩
  case round =>
    obtain ⟨i, rfl, hi, u0, rfl⟩ := hrel
    have hq : Below w.heap.size w (on u0) := below_on hB2 u0
    obtain rfl | rfl | rfl := hi
    · go_wp2_with fail
      refine region_later (by kernel_rfl) (by kernel_rfl) ?_
      repeat (go_big_quiet_step ((first | (go_at_call 48; with_reducible exact Calls.later (nof_any x y q 0 _ (hL' _ (below_on hq _)) (by omega) (by omega) (by omega) (by omega) c5 c6 (by omega) (by omega))) | fail)))
      refine wpQuiet_nil ?_
      rintro _ ⟨u9, rfl⟩
      go_wp2_with fail
      exact ⟨⟨0 + 1, rfl, by omega, after (below_on (below_on (Below.refl _ _) u0) u9)⟩, by simp [intOf]⟩
    · go_wp2_with fail
      refine region_later (by kernel_rfl) (by kernel_rfl) ?_
      repeat (go_big_quiet_step ((first | (go_at_call 48; with_reducible exact Calls.later (nof_any x y q 1 _ (hL' _ (below_on hq _)) (by omega) (by omega) (by omega) (by omega) c5 c6 (by omega) (by omega))) | fail)))
      refine wpQuiet_nil ?_
      rintro _ ⟨u9, rfl⟩
      go_wp2_with fail
      exact ⟨⟨1 + 1, rfl, by omega, after (below_on (below_on (Below.refl _ _) u0) u9)⟩, by simp [intOf]⟩
    · go_wp2_with fail
      refine region_later (by kernel_rfl) (by kernel_rfl) ?_
      repeat (go_big_quiet_step ((first | (go_at_call 48; with_reducible exact Calls.later (nof_any x y q 2 _ (hL' _ (below_on hq _)) (by omega) (by omega) (by omega) (by omega) c5 c6 (by omega) (by omega))) | fail)))
      refine wpQuiet_nil ?_
      rintro _ ⟨u9, rfl⟩
      go_wp2_with fail
      go_ret2
      exact ⟨rfl, (by repeat first | (with_reducible exact hq) | (with_reducible refine below_on ?_ _) | (with_reducible refine below_alloc ?_ _) | (with_reducible refine below_set ?_ (by simp; try omega) _))⟩

set_option maxRecDepth 100000 in
set_option maxHeartbeats 2000000 in
theorem ctouch_tn (x y q a b c : Int) (w : World) (hL : Lay w) (c1 : -4096 ≤ x) (c2 : x ≤ 4096) (c3 : -4096 ≤ y) (c4 : y ≤ 4096) (c5 : 0 ≤ q) (c6 : q ≤ 3)(d1 : -4096 ≤ a) (d2 : a ≤ 4096) (d3 : -4096 ≤ b) (d4 : b ≤ 4096) (d5 : 0 ≤ c) (d6 : c ≤ 3)(n0 : ∀ R1 R2 : Result Next, (if nbX q 0 x = a then if nbY q 0 y = b then if nbQ q 0 = c then R1 else R2 else R2 else R2) = R2) (n1 : ∀ R1 R2 : Result Next, (if nbX q 1 x = a then if nbY q 1 y = b then if nbQ q 1 = c then R1 else R2 else R2 else R2) = R2) (n2 : ∀ R1 R2 : Result Next, (if nbX q 2 x = a then if nbY q 2 y = b then if nbQ q 2 = c then R1 else R2 else R2 else R2) = R2) : Calls Tryd.prog 20 #[cl x y q, cl a b c] w fun r w' => r = .returned (.tuple #[.int .u8 0, .int .i64 7]) ∧ Below w.heap.size w w' := by
  have hL' : ∀ W, Below w.heap.size w W → Lay W := fun W h => lay_below hL h
  go_enter Tryd.func20, Tryd.ntmps20
  go_wp2_with fail
  have hB0 : Below w.heap.size w ((w.alloc (.cells #[.int .i64 (x), .int .i64 (y), .int .u8 (q)] 23)).alloc (.cells #[.int .i64 (a), .int .i64 (b), .int .u8 (c)] 23)) := (by repeat first | (with_reducible exact Below.refl _ _) | (with_reducible refine below_on ?_ _) | (with_reducible refine below_alloc ?_ _) | (with_reducible refine below_set ?_ (by simp; try omega) _))
  have b00 : ((w.alloc (.cells #[.int .i64 (x), .int .i64 (y), .int .u8 (q)] 23)).alloc (.cells #[.int .i64 (a), .int .i64 (b), .int .u8 (c)] 23)).cell? ⟨w.heap.size, 0, none⟩ = some (.int .i64 (x)) := by simp [go_sem]
  have b01 : ((w.alloc (.cells #[.int .i64 (x), .int .i64 (y), .int .u8 (q)] 23)).alloc (.cells #[.int .i64 (a), .int .i64 (b), .int .u8 (c)] 23)).cell? ⟨w.heap.size, 1, none⟩ = some (.int .i64 (y)) := by simp [go_sem]
  have b02 : ((w.alloc (.cells #[.int .i64 (x), .int .i64 (y), .int .u8 (q)] 23)).alloc (.cells #[.int .i64 (a), .int .i64 (b), .int .u8 (c)] 23)).cell? ⟨w.heap.size, 2, none⟩ = some (.int .u8 (q)) := by simp [go_sem]
  have b10 : ((w.alloc (.cells #[.int .i64 (x), .int .i64 (y), .int .u8 (q)] 23)).alloc (.cells #[.int .i64 (a), .int .i64 (b), .int .u8 (c)] 23)).cell? ⟨w.heap.size + 1, 0, none⟩ = some (.int .i64 (a)) := by simp [go_sem]
  have b11 : ((w.alloc (.cells #[.int .i64 (x), .int .i64 (y), .int .u8 (q)] 23)).alloc (.cells #[.int .i64 (a), .int .i64 (b), .int .u8 (c)] 23)).cell? ⟨w.heap.size + 1, 1, none⟩ = some (.int .i64 (b)) := by simp [go_sem]
  have b12 : ((w.alloc (.cells #[.int .i64 (x), .int .i64 (y), .int .u8 (q)] 23)).alloc (.cells #[.int .i64 (a), .int .i64 (b), .int .u8 (c)] 23)).cell? ⟨w.heap.size + 1, 2, none⟩ = some (.int .u8 (c)) := by simp [go_sem]
  generalize ((w.alloc (.cells #[.int .i64 (x), .int .i64 (y), .int .u8 (q)] 23)).alloc (.cells #[.int .i64 (a), .int .i64 (b), .int .u8 (c)] 23)) = W0 at *
  go_wp2_with (first | (go_at_call 14; with_reducible refine (ccheck_ok x y q _ c1 c2 c3 c4 c5 c6).mono ?_; rintro e wx ⟨rfl, hx⟩; obtain ⟨ux, rfl⟩ := after hx; clear hx) | fail)
  have hR : Below (W0).heap.size (W0) (on ux) := by repeat first | (with_reducible exact Below.refl _ _) | (with_reducible refine below_on ?_ _) | (with_reducible refine below_alloc ?_ _)
  have cR : ∀ {b i : Nat} {v : Value}, (W0).cell? ⟨b, i, none⟩ = some v → (on ux).cell? ⟨b, i, none⟩ = some v := fun h => (hR.cell (World.block_lt_of_cell? _ _ h)).trans h
  have b00' := cR b00
  have b01' := cR b01
  have b02' := cR b02
  have b10' := cR b10
  have b11' := cR b11
  have b12' := cR b12
  have hB1 : Below w.heap.size w (on ux) := by repeat first | (with_reducible exact hB0) | (with_reducible refine below_on ?_ _) | (with_reducible refine below_alloc ?_ _)
  clear hR cR b00 b01 b02 b10 b11 b12  hB0
  generalize (on ux) = W1 at *
  clear ux
  go_wp2_with (first | (go_at_call 14; with_reducible refine (ccheck_ok a b c _ d1 d2 d3 d4 d5 d6).mono ?_; rintro e wx ⟨rfl, hx⟩; obtain ⟨ux, rfl⟩ := after hx; clear hx) | fail)
  have hR : Below (W1).heap.size (W1) (on ux) := by repeat first | (with_reducible exact Below.refl _ _) | (with_reducible refine below_on ?_ _) | (with_reducible refine below_alloc ?_ _)
  have cR : ∀ {b i : Nat} {v : Value}, (W1).cell? ⟨b, i, none⟩ = some v → (on ux).cell? ⟨b, i, none⟩ = some v := fun h => (hR.cell (World.block_lt_of_cell? _ _ h)).trans h
  have b00'' := cR b00'
  have b01'' := cR b01'
  have b02'' := cR b02'
  have b10'' := cR b10'
  have b11'' := cR b11'
  have b12'' := cR b12'
  have hB2 : Below w.heap.size w (on ux) := by repeat first | (with_reducible exact hB1) | (with_reducible refine below_on ?_ _) | (with_reducible refine below_alloc ?_ _)
  clear hR cR b00' b01' b02' b10' b11' b12'  hB1
  generalize (on ux) = W2 at *
  clear ux
  go_loopw [15] (fun iv wr => ∃ i : Int, iv = .int .u8 i ∧ (i = 0 ∨ i = 1 ∨ i = 2 ∨ i = 3) ∧ ∃ u : Later W2, wr = on u) (fun iv _ => (3 - intOf iv).toNat)
  case atStart => exact ⟨0, rfl, by omega, ⟨_, Below.refl _ _⟩, rfl⟩
  case round =>
    obtain ⟨i, rfl, hi, u0, rfl⟩ := hrel
    have hq : Below w.heap.size w (on u0) := below_on hB2 u0
    obtain rfl | rfl | rfl | rfl := hi
    · go_wp2_with fail
      refine region_later (by kernel_rfl) (by kernel_rfl) ?_
      repeat (go_big_quiet_step ((first | (go_at_call 48; with_reducible exact Calls.later (nof_any x y q 0 _ (hL' _ (below_on hq _)) (by omega) (by omega) (by omega) (by omega) c5 c6 (by omega) (by omega))) | fail)))
      refine wpQuiet_nil ?_
      rintro _ ⟨u9, rfl⟩
      go_wp2_with fail
      exact ⟨⟨0 + 1, rfl, by omega, after (below_on (below_on (Below.refl _ _) u0) u9)⟩, by simp [intOf]⟩
    · go_wp2_with fail
      refine region_later (by kernel_rfl) (by kernel_rfl) ?_
      repeat (go_big_quiet_step ((first | (go_at_call 48; with_reducible exact Calls.later (nof_any x y q 1 _ (hL' _ (below_on hq _)) (by omega) (by omega) (by omega) (by omega) c5 c6 (by omega) (by omega))) | fail)))
      refine wpQuiet_nil ?_
      rintro _ ⟨u9, rfl⟩
      go_wp2_with fail
      exact ⟨⟨1 + 1, rfl, by omega, after (below_on (below_on (Below.refl _ _) u0) u9)⟩, by simp [intOf]⟩
    · go_wp2_with fail
      refine region_later (by kernel_rfl) (by kernel_rfl) ?_
      repeat (go_big_quiet_step ((first | (go_at_call 48; with_reducible exact Calls.later (nof_any x y q 2 _ (hL' _ (below_on hq _)) (by omega) (by omega) (by omega) (by omega) c5 c6 (by omega) (by omega))) | fail)))
      refine wpQuiet_nil ?_
      rintro _ ⟨u9, rfl⟩
      go_wp2_with fail
      exact ⟨⟨2 + 1, rfl, by omega, after (below_on (below_on (Below.refl _ _) u0) u9)⟩, by simp [intOf]⟩
    · go_wp2_with fail
      go_ret2
      exact ⟨rfl, (by repeat first | (with_reducible exact hq) | (with_reducible refine below_on ?_ _) | (with_reducible refine below_alloc ?_ _) | (with_reducible refine below_set ?_ (by simp; try omega) _))⟩

set_option maxRecDepth 100000 in
set_option maxHeartbeats 2000000 in
theorem ctouch_bad1 (x y q a b c : Int) (w : World) (h : 3 < q ∨ x < -4096 ∨ 4096 < x ∨ y < -4096 ∨ 4096 < y) : Calls Tryd.prog 20 #[cl x y q, cl a b c] w fun r w' => r = .returned (.tuple #[.int .u8 0, .int .i64 1]) ∧ Below w.heap.size w w' := by
  have H : Hid (3 < q ∨ x < -4096 ∨ 4096 < x ∨ y < -4096 ∨ 4096 < y) := h
  clear h
  go_enter Tryd.func20, Tryd.ntmps20
  go_wp2_with fail
  have hB0 : Below w.heap.size w ((w.alloc (.cells #[.int .i64 (x), .int .i64 (y), .int .u8 (q)] 23)).alloc (.cells #[.int .i64 (a), .int .i64 (b), .int .u8 (c)] 23)) := (by repeat first | (with_reducible exact Below.refl _ _) | (with_reducible refine below_on ?_ _) | (with_reducible refine below_alloc ?_ _) | (with_reducible refine below_set ?_ (by simp; try omega) _))
  have b00 : ((w.alloc (.cells #[.int .i64 (x), .int .i64 (y), .int .u8 (q)] 23)).alloc (.cells #[.int .i64 (a), .int .i64 (b), .int .u8 (c)] 23)).cell? ⟨w.heap.size, 0, none⟩ = some (.int .i64 (x)) := by simp [go_sem]
  have b01 : ((w.alloc (.cells #[.int .i64 (x), .int .i64 (y), .int .u8 (q)] 23)).alloc (.cells #[.int .i64 (a), .int .i64 (b), .int .u8 (c)] 23)).cell? ⟨w.heap.size, 1, none⟩ = some (.int .i64 (y)) := by simp [go_sem]
  have b02 : ((w.alloc (.cells #[.int .i64 (x), .int .i64 (y), .int .u8 (q)] 23)).alloc (.cells #[.int .i64 (a), .int .i64 (b), .int .u8 (c)] 23)).cell? ⟨w.heap.size, 2, none⟩ = some (.int .u8 (q)) := by simp [go_sem]
  have b10 : ((w.alloc (.cells #[.int .i64 (x), .int .i64 (y), .int .u8 (q)] 23)).alloc (.cells #[.int .i64 (a), .int .i64 (b), .int .u8 (c)] 23)).cell? ⟨w.heap.size + 1, 0, none⟩ = some (.int .i64 (a)) := by simp [go_sem]
  have b11 : ((w.alloc (.cells #[.int .i64 (x), .int .i64 (y), .int .u8 (q)] 23)).alloc (.cells #[.int .i64 (a), .int .i64 (b), .int .u8 (c)] 23)).cell? ⟨w.heap.size + 1, 1, none⟩ = some (.int .i64 (b)) := by simp [go_sem]
  have b12 : ((w.alloc (.cells #[.int .i64 (x), .int .i64 (y), .int .u8 (q)] 23)).alloc (.cells #[.int .i64 (a), .int .i64 (b), .int .u8 (c)] 23)).cell? ⟨w.heap.size + 1, 2, none⟩ = some (.int .u8 (c)) := by simp [go_sem]
  generalize ((w.alloc (.cells #[.int .i64 (x), .int .i64 (y), .int .u8 (q)] 23)).alloc (.cells #[.int .i64 (a), .int .i64 (b), .int .u8 (c)] 23)) = W0 at *
  go_wp2_with (first | (go_at_call 14; with_reducible refine (ccheck_bad x y q _ H.out).mono ?_; rintro e wx ⟨rfl, hx⟩; obtain ⟨ux, rfl⟩ := after hx; clear hx) | fail)
  go_ret2
  exact ⟨rfl, (by repeat first | (with_reducible exact hB0) | (with_reducible refine below_on ?_ _) | (with_reducible refine below_alloc ?_ _) | (with_reducible refine below_set ?_ (by simp; try omega) _))⟩

set_option maxRecDepth 100000 in
set_option maxHeartbeats 2000000 in
theorem ctouch_bad2 (x y q a b c : Int) (w : World) (c1 : -4096 ≤ x) (c2 : x ≤ 4096) (c3 : -4096 ≤ y) (c4 : y ≤ 4096) (c5 : 0 ≤ q) (c6 : q ≤ 3) (h : 3 < c ∨ a < -4096 ∨ 4096 < a ∨ b < -4096 ∨ 4096 < b) : Calls Tryd.prog 20 #[cl x y q, cl a b c] w fun r w' => r = .returned (.tuple #[.int .u8 0, .int .i64 1]) ∧ Below w.heap.size w w' := by
  have H : Hid (3 < c ∨ a < -4096 ∨ 4096 < a ∨ b < -4096 ∨ 4096 < b) := h
  clear h
  go_enter Tryd.func20, Tryd.ntmps20
  go_wp2_with fail
  have hB0 : Below w.heap.size w ((w.alloc (.cells #[.int .i64 (x), .int .i64 (y), .int .u8 (q)] 23)).alloc (.cells #[.int .i64 (a), .int .i64 (b), .int .u8 (c)] 23)) := (by repeat first | (with_reducible exact Below.refl _ _) | (with_reducible refine below_on ?_ _) | (with_reducible refine below_alloc ?_ _) | (with_reducible refine below_set ?_ (by simp; try omega) _))
  have b00 : ((w.alloc (.cells #[.int .i64 (x), .int .i64 (y), .int .u8 (q)] 23)).alloc (.cells #[.int .i64 (a), .int .i64 (b), .int .u8 (c)] 23)).cell? ⟨w.heap.size, 0, none⟩ = some (.int .i64 (x)) := by simp [go_sem]
  have b01 : ((w.alloc (.cells #[.int .i64 (x), .int .i64 (y), .int .u8 (q)] 23)).alloc (.cells #[.int .i64 (a), .int .i64 (b), .int .u8 (c)] 23)).cell? ⟨w.heap.size, 1, none⟩ = some (.int .i64 (y)) := by simp [go_sem]
  have b02 : ((w.alloc (.cells #[.int .i64 (x), .int .i64 (y), .int .u8 (q)] 23)).alloc (.cells #[.int .i64 (a), .int .i64 (b), .int .u8 (c)] 23)).cell? ⟨w.heap.size, 2, none⟩ = some (.int .u8 (q)) := by simp [go_sem]
  have b10 : ((w.alloc (.cells #[.int .i64 (x), .int .i64 (y), .int .u8 (q)] 23)).alloc (.cells #[.int .i64 (a), .int .i64 (b), .int .u8 (c)] 23)).cell? ⟨w.heap.size + 1, 0, none⟩ = some (.int .i64 (a)) := by simp [go_sem]
  have b11 : ((w.alloc (.cells #[.int .i64 (x), .int .i64 (y), .int .u8 (q)] 23)).alloc (.cells #[.int .i64 (a), .int .i64 (b), .int .u8 (c)] 23)).cell? ⟨w.heap.size + 1, 1, none⟩ = some (.int .i64 (b)) := by simp [go_sem]
  have b12 : ((w.alloc (.cells #[.int .i64 (x), .int .i64 (y), .int .u8 (q)] 23)).alloc (.cells #[.int .i64 (a), .int .i64 (b), .int .u8 (c)] 23)).cell? ⟨w.heap.size + 1, 2, none⟩ = some (.int .u8 (c)) := by simp [go_sem]
  generalize ((w.alloc (.cells #[.int .i64 (x), .int .i64 (y), .int .u8 (q)] 23)).alloc (.cells #[.int .i64 (a), .int .i64 (b), .int .u8 (c)] 23)) = W0 at *
  go_wp2_with (first | (go_at_call 14; with_reducible refine (ccheck_ok x y q _ c1 c2 c3 c4 c5 c6).mono ?_; rintro e wx ⟨rfl, hx⟩; obtain ⟨ux, rfl⟩ := after hx; clear hx) | fail)
  have hR : Below (W0).heap.size (W0) (on ux) := by repeat first | (with_reducible exact Below.refl _ _) | (with_reducible refine below_on ?_ _) | (with_reducible refine below_alloc ?_ _)
  have cR : ∀ {b i : Nat} {v : Value}, (W0).cell? ⟨b, i, none⟩ = some v → (on ux).cell? ⟨b, i, none⟩ = some v := fun h => (hR.cell (World.block_lt_of_cell? _ _ h)).trans h
  have b00' := cR b00
  have b01' := cR b01
  have b02' := cR b02
  have b10' := cR b10
  have b11' := cR b11
  have b12' := cR b12
  have hB1 : Below w.heap.size w (on ux) := by repeat first | (with_reducible exact hB0) | (with_reducible refine below_on ?_ _) | (with_reducible refine below_alloc ?_ _)
  clear hR cR b00 b01 b02 b10 b11 b12  hB0
  generalize (on ux) = W1 at *
  clear ux
  go_wp2_with (first | (go_at_call 14; with_reducible refine (ccheck_bad a b c _ H.out).mono ?_; rintro e wx ⟨rfl, hx⟩; obtain ⟨ux, rfl⟩ := after hx; clear hx) | fail)
  go_ret2
  exact ⟨rfl, (by repeat first | (with_reducible exact hB1) | (with_reducible refine below_on ?_ _) | (with_reducible refine below_alloc ?_ _) | (with_reducible refine below_set ?_ (by simp; try omega) _))⟩

end Go.Proofs.YtgkiliijefkcaaaDoor
