/-
  Says: what Side of package cells gives.
-/
import Derived.Test.YtgkiliijefkcaaaDoorCf2
set_option linter.unusedVariables false
set_option linter.unusedSimpArgs false
namespace Go.Proofs.YtgkiliijefkcaaaDoor
open Go Go.RowKit

attribute [local go_sem] World.cell?_alloc_some frozen?_alloc_cells fz0 fz1 fz2 fz3 fz4 fz5
theorem pt_at0 (a b c d e f : Value) : ∀ w, (Instr.index 32 (.agg #[a, b, c, d, e, f]) (.int .i64 0)).run Tryd.prog w = .ok (.agg #[a, b]) w := fun _ => by kernel_rfl
theorem pt_at1 (a b c d e f : Value) : ∀ w, (Instr.index 32 (.agg #[a, b, c, d, e, f]) (.int .i64 1)).run Tryd.prog w = .ok (.agg #[c, d]) w := fun _ => by kernel_rfl
theorem pt_at2 (a b c d e f : Value) : ∀ w, (Instr.index 32 (.agg #[a, b, c, d, e, f]) (.int .i64 2)).run Tryd.prog w = .ok (.agg #[e, f]) w := fun _ => by kernel_rfl
attribute [local go_sem] pt_at0 pt_at1 pt_at2

set_option maxRecDepth 100000 in
set_option maxHeartbeats 2000000 in
theorem cside_0 (k c x y q px0 py0 px1 py1 px2 py2 s0 s1 s2 : Int) (w : World) (hL : Lay w) (h1 : 1 ≤ k) (h2 : k ≤ 4) (h3 : -4096 ≤ c) (h4 : c ≤ 4096) (d1 : -4096 ≤ x) (d2 : x ≤ 4096) (d3 : -4096 ≤ y) (d4 : y ≤ 4096) (d5 : 0 ≤ q) (d6 : q ≤ 3) (CO : ∀ W, Lay W → Calls Tryd.prog 43 #[cl x y q] W fun e w' => e = .returned (.agg #[.int .i64 px0, .int .i64 py0, .int .i64 px1, .int .i64 py1, .int .i64 px2, .int .i64 py2]) ∧ Below W.heap.size W w') (S0 : ∀ W, Calls Tryd.prog 51 #[ln k c, pt px0 py0] W fun e w' => e = .returned (.int .i64 s0) ∧ Below W.heap.size W w') (S1 : ∀ W, Calls Tryd.prog 51 #[ln k c, pt px1 py1] W fun e w' => e = .returned (.int .i64 s1) ∧ Below W.heap.size W w') (S2 : ∀ W, Calls Tryd.prog 51 #[ln k c, pt px2 py2] W fun e w' => e = .returned (.int .i64 s2) ∧ Below W.heap.size W w') (g0 : 0 < s0) : Calls Tryd.prog 22 #[ln k c, cl x y q] w fun e w' => e = .returned (.tuple #[.int .i64 1, .int .i64 0]) ∧ Below w.heap.size w w' := by
  have hL' : ∀ W, Below w.heap.size w W → Lay W := fun W h => lay_below hL h
  go_enter Tryd.func22, Tryd.ntmps22
  go_wp2_with fail
  have hB0 : Below w.heap.size w ((w.alloc (.cells #[.int .u8 (k), .int .i64 (c)] 26)).alloc (.cells #[.int .i64 (x), .int .i64 (y), .int .u8 (q)] 23)) := (by repeat first | (with_reducible exact Below.refl _ _) | (with_reducible refine below_on ?_ _) | (with_reducible refine below_alloc ?_ _) | (with_reducible refine below_set ?_ (by simp; try omega) _))
  have b00 : ((w.alloc (.cells #[.int .u8 (k), .int .i64 (c)] 26)).alloc (.cells #[.int .i64 (x), .int .i64 (y), .int .u8 (q)] 23)).cell? ⟨w.heap.size, 0, none⟩ = some (.int .u8 (k)) := by simp [go_sem]
  have b01 : ((w.alloc (.cells #[.int .u8 (k), .int .i64 (c)] 26)).alloc (.cells #[.int .i64 (x), .int .i64 (y), .int .u8 (q)] 23)).cell? ⟨w.heap.size, 1, none⟩ = some (.int .i64 (c)) := by simp [go_sem]
  have b10 : ((w.alloc (.cells #[.int .u8 (k), .int .i64 (c)] 26)).alloc (.cells #[.int .i64 (x), .int .i64 (y), .int .u8 (q)] 23)).cell? ⟨w.heap.size + 1, 0, none⟩ = some (.int .i64 (x)) := by simp [go_sem]
  have b11 : ((w.alloc (.cells #[.int .u8 (k), .int .i64 (c)] 26)).alloc (.cells #[.int .i64 (x), .int .i64 (y), .int .u8 (q)] 23)).cell? ⟨w.heap.size + 1, 1, none⟩ = some (.int .i64 (y)) := by simp [go_sem]
  have b12 : ((w.alloc (.cells #[.int .u8 (k), .int .i64 (c)] 26)).alloc (.cells #[.int .i64 (x), .int .i64 (y), .int .u8 (q)] 23)).cell? ⟨w.heap.size + 1, 2, none⟩ = some (.int .u8 (q)) := by simp [go_sem]
  generalize ((w.alloc (.cells #[.int .u8 (k), .int .i64 (c)] 26)).alloc (.cells #[.int .i64 (x), .int .i64 (y), .int .u8 (q)] 23)) = W0 at *
  go_wp2_with (first | (go_at_call 42; with_reducible refine (check_ok k c _ h1 h2 h3 h4).mono ?_; rintro e wx ⟨rfl, hx⟩; obtain ⟨ux, rfl⟩ := after hx; clear hx) | fail)
  have hR : Below (W0).heap.size (W0) (on ux) := by repeat first | (with_reducible exact Below.refl _ _) | (with_reducible refine below_on ?_ _) | (with_reducible refine below_alloc ?_ _)
  have cR : ∀ {b i : Nat} {v : Value}, (W0).cell? ⟨b, i, none⟩ = some v → (on ux).cell? ⟨b, i, none⟩ = some v := fun h => (hR.cell (World.block_lt_of_cell? _ _ h)).trans h
  have b00' := cR b00
  have b01' := cR b01
  have b10' := cR b10
  have b11' := cR b11
  have b12' := cR b12
  have hB1 : Below w.heap.size w (on ux) := by repeat first | (with_reducible exact hB0) | (with_reducible refine below_on ?_ _) | (with_reducible refine below_alloc ?_ _)
  clear hR cR b00 b01 b10 b11 b12  hB0
  generalize (on ux) = W1 at *
  clear ux
  go_wp2_with (first | (go_at_call 14; with_reducible refine (ccheck_ok x y q _ d1 d2 d3 d4 d5 d6).mono ?_; rintro e wx ⟨rfl, hx⟩; obtain ⟨ux, rfl⟩ := after hx; clear hx) | fail)
  have hR : Below (W1).heap.size (W1) (on ux) := by repeat first | (with_reducible exact Below.refl _ _) | (with_reducible refine below_on ?_ _) | (with_reducible refine below_alloc ?_ _)
  have cR : ∀ {b i : Nat} {v : Value}, (W1).cell? ⟨b, i, none⟩ = some v → (on ux).cell? ⟨b, i, none⟩ = some v := fun h => (hR.cell (World.block_lt_of_cell? _ _ h)).trans h
  have b00'' := cR b00'
  have b01'' := cR b01'
  have b10'' := cR b10'
  have b11'' := cR b11'
  have b12'' := cR b12'
  have hB2 : Below w.heap.size w (on ux) := by repeat first | (with_reducible exact hB1) | (with_reducible refine below_on ?_ _) | (with_reducible refine below_alloc ?_ _)
  clear hR cR b00' b01' b10' b11' b12'  hB1
  generalize (on ux) = W2 at *
  clear ux
  go_wp2_with (first | (go_at_call 43; with_reducible refine (CO _ (hL' _ (by repeat first | (with_reducible exact hB2) | (with_reducible refine below_on ?_ _) | (with_reducible refine below_alloc ?_ _) | (with_reducible refine below_set ?_ (by simp; try omega) _)))).mono ?_; rintro e wx ⟨rfl, hx⟩; obtain ⟨ux, rfl⟩ := after hx; clear hx) | fail)
  have hR : Below (W2).heap.size (W2) (on ux) := by repeat first | (with_reducible exact Below.refl _ _) | (with_reducible refine below_on ?_ _) | (with_reducible refine below_alloc ?_ _)
  have cR : ∀ {b i : Nat} {v : Value}, (W2).cell? ⟨b, i, none⟩ = some v → (on ux).cell? ⟨b, i, none⟩ = some v := fun h => (hR.cell (World.block_lt_of_cell? _ _ h)).trans h
  have b00''' := cR b00''
  have b01''' := cR b01''
  have b10''' := cR b10''
  have b11''' := cR b11''
  have b12''' := cR b12''
  have hB3 : Below w.heap.size w (on ux) := by repeat first | (with_reducible exact hB2) | (with_reducible refine below_on ?_ _) | (with_reducible refine below_alloc ?_ _)
  clear hR cR b00'' b01'' b10'' b11'' b12''  hB2
  generalize (on ux) = W3 at *
  clear ux
  go_loopw [18] (fun iv wr => ∃ i : Int, iv = .int .i64 i ∧ (i = 0) ∧ ∃ u : Later W3, wr = on u) (fun iv _ => (3 - intOf iv).toNat)
  case atStart => exact ⟨0, rfl, by omega, ⟨_, Below.refl _ _⟩, rfl⟩
  case round =>
    obtain ⟨i, rfl, hi, u0, rfl⟩ := hrel
    have hq : Below w.heap.size w (on u0) := below_on hB3 u0
    obtain rfl := hi
    · go_wp2_with (first | (go_at_call 51; with_reducible refine (S0 _).mono ?_; rintro e wx ⟨rfl, hx⟩; obtain ⟨ux, rfl⟩ := after hx; clear hx) | fail)
      go_ret2
      exact ⟨rfl, (by repeat first | (with_reducible exact hq) | (with_reducible refine below_on ?_ _) | (with_reducible refine below_alloc ?_ _) | (with_reducible refine below_set ?_ (by simp; try omega) _))⟩

set_option maxRecDepth 100000 in
set_option maxHeartbeats 2000000 in
theorem cside_1 (k c x y q px0 py0 px1 py1 px2 py2 s0 s1 s2 : Int) (w : World) (hL : Lay w) (h1 : 1 ≤ k) (h2 : k ≤ 4) (h3 : -4096 ≤ c) (h4 : c ≤ 4096) (d1 : -4096 ≤ x) (d2 : x ≤ 4096) (d3 : -4096 ≤ y) (d4 : y ≤ 4096) (d5 : 0 ≤ q) (d6 : q ≤ 3) (CO : ∀ W, Lay W → Calls Tryd.prog 43 #[cl x y q] W fun e w' => e = .returned (.agg #[.int .i64 px0, .int .i64 py0, .int .i64 px1, .int .i64 py1, .int .i64 px2, .int .i64 py2]) ∧ Below W.heap.size W w') (S0 : ∀ W, Calls Tryd.prog 51 #[ln k c, pt px0 py0] W fun e w' => e = .returned (.int .i64 s0) ∧ Below W.heap.size W w') (S1 : ∀ W, Calls Tryd.prog 51 #[ln k c, pt px1 py1] W fun e w' => e = .returned (.int .i64 s1) ∧ Below W.heap.size W w') (S2 : ∀ W, Calls Tryd.prog 51 #[ln k c, pt px2 py2] W fun e w' => e = .returned (.int .i64 s2) ∧ Below W.heap.size W w') (g0 : ¬ 0 < s0) (g1 : 0 < s1) : Calls Tryd.prog 22 #[ln k c, cl x y q] w fun e w' => e = .returned (.tuple #[.int .i64 1, .int .i64 0]) ∧ Below w.heap.size w w' := by
  have hL' : ∀ W, Below w.heap.size w W → Lay W := fun W h => lay_below hL h
  go_enter Tryd.func22, Tryd.ntmps22
  go_wp2_with fail
  have hB0 : Below w.heap.size w ((w.alloc (.cells #[.int .u8 (k), .int .i64 (c)] 26)).alloc (.cells #[.int .i64 (x), .int .i64 (y), .int .u8 (q)] 23)) := (by repeat first | (with_reducible exact Below.refl _ _) | (with_reducible refine below_on ?_ _) | (with_reducible refine below_alloc ?_ _) | (with_reducible refine below_set ?_ (by simp; try omega) _))
  have b00 : ((w.alloc (.cells #[.int .u8 (k), .int .i64 (c)] 26)).alloc (.cells #[.int .i64 (x), .int .i64 (y), .int .u8 (q)] 23)).cell? ⟨w.heap.size, 0, none⟩ = some (.int .u8 (k)) := by simp [go_sem]
  have b01 : ((w.alloc (.cells #[.int .u8 (k), .int .i64 (c)] 26)).alloc (.cells #[.int .i64 (x), .int .i64 (y), .int .u8 (q)] 23)).cell? ⟨w.heap.size, 1, none⟩ = some (.int .i64 (c)) := by simp [go_sem]
  have b10 : ((w.alloc (.cells #[.int .u8 (k), .int .i64 (c)] 26)).alloc (.cells #[.int .i64 (x), .int .i64 (y), .int .u8 (q)] 23)).cell? ⟨w.heap.size + 1, 0, none⟩ = some (.int .i64 (x)) := by simp [go_sem]
  have b11 : ((w.alloc (.cells #[.int .u8 (k), .int .i64 (c)] 26)).alloc (.cells #[.int .i64 (x), .int .i64 (y), .int .u8 (q)] 23)).cell? ⟨w.heap.size + 1, 1, none⟩ = some (.int .i64 (y)) := by simp [go_sem]
  have b12 : ((w.alloc (.cells #[.int .u8 (k), .int .i64 (c)] 26)).alloc (.cells #[.int .i64 (x), .int .i64 (y), .int .u8 (q)] 23)).cell? ⟨w.heap.size + 1, 2, none⟩ = some (.int .u8 (q)) := by simp [go_sem]
  generalize ((w.alloc (.cells #[.int .u8 (k), .int .i64 (c)] 26)).alloc (.cells #[.int .i64 (x), .int .i64 (y), .int .u8 (q)] 23)) = W0 at *
  go_wp2_with (first | (go_at_call 42; with_reducible refine (check_ok k c _ h1 h2 h3 h4).mono ?_; rintro e wx ⟨rfl, hx⟩; obtain ⟨ux, rfl⟩ := after hx; clear hx) | fail)
  have hR : Below (W0).heap.size (W0) (on ux) := by repeat first | (with_reducible exact Below.refl _ _) | (with_reducible refine below_on ?_ _) | (with_reducible refine below_alloc ?_ _)
  have cR : ∀ {b i : Nat} {v : Value}, (W0).cell? ⟨b, i, none⟩ = some v → (on ux).cell? ⟨b, i, none⟩ = some v := fun h => (hR.cell (World.block_lt_of_cell? _ _ h)).trans h
  have b00' := cR b00
  have b01' := cR b01
  have b10' := cR b10
  have b11' := cR b11
  have b12' := cR b12
  have hB1 : Below w.heap.size w (on ux) := by repeat first | (with_reducible exact hB0) | (with_reducible refine below_on ?_ _) | (with_reducible refine below_alloc ?_ _)
  clear hR cR b00 b01 b10 b11 b12  hB0
  generalize (on ux) = W1 at *
  clear ux
  go_wp2_with (first | (go_at_call 14; with_reducible refine (ccheck_ok x y q _ d1 d2 d3 d4 d5 d6).mono ?_; rintro e wx ⟨rfl, hx⟩; obtain ⟨ux, rfl⟩ := after hx; clear hx) | fail)
  have hR : Below (W1).heap.size (W1) (on ux) := by repeat first | (with_reducible exact Below.refl _ _) | (with_reducible refine below_on ?_ _) | (with_reducible refine below_alloc ?_ _)
  have cR : ∀ {b i : Nat} {v : Value}, (W1).cell? ⟨b, i, none⟩ = some v → (on ux).cell? ⟨b, i, none⟩ = some v := fun h => (hR.cell (World.block_lt_of_cell? _ _ h)).trans h
  have b00'' := cR b00'
  have b01'' := cR b01'
  have b10'' := cR b10'
  have b11'' := cR b11'
  have b12'' := cR b12'
  have hB2 : Below w.heap.size w (on ux) := by repeat first | (with_reducible exact hB1) | (with_reducible refine below_on ?_ _) | (with_reducible refine below_alloc ?_ _)
  clear hR cR b00' b01' b10' b11' b12'  hB1
  generalize (on ux) = W2 at *
  clear ux
  go_wp2_with (first | (go_at_call 43; with_reducible refine (CO _ (hL' _ (by repeat first | (with_reducible exact hB2) | (with_reducible refine below_on ?_ _) | (with_reducible refine below_alloc ?_ _) | (with_reducible refine below_set ?_ (by simp; try omega) _)))).mono ?_; rintro e wx ⟨rfl, hx⟩; obtain ⟨ux, rfl⟩ := after hx; clear hx) | fail)
  have hR : Below (W2).heap.size (W2) (on ux) := by repeat first | (with_reducible exact Below.refl _ _) | (with_reducible refine below_on ?_ _) | (with_reducible refine below_alloc ?_ _)
  have cR : ∀ {b i : Nat} {v : Value}, (W2).cell? ⟨b, i, none⟩ = some v → (on ux).cell? ⟨b, i, none⟩ = some v := fun h => (hR.cell (World.block_lt_of_cell? _ _ h)).trans h
  have b00''' := cR b00''
  have b01''' := cR b01''
  have b10''' := cR b10''
  have b11''' := cR b11''
  have b12''' := cR b12''
  have hB3 : Below w.heap.size w (on ux) := by repeat first | (with_reducible exact hB2) | (with_reducible refine below_on ?_ _) | (with_reducible refine below_alloc ?_ _)
  clear hR cR b00'' b01'' b10'' b11'' b12''  hB2
  generalize (on ux) = W3 at *
  clear ux
  go_loopw [18] (fun iv wr => ∃ i : Int, iv = .int .i64 i ∧ (i = 0 ∨ i = 1) ∧ ∃ u : Later W3, wr = on u) (fun iv _ => (3 - intOf iv).toNat)
  case atStart => exact ⟨0, rfl, by omega, ⟨_, Below.refl _ _⟩, rfl⟩
  case round =>
    obtain ⟨i, rfl, hi, u0, rfl⟩ := hrel
    have hq : Below w.heap.size w (on u0) := below_on hB3 u0
    obtain rfl | rfl := hi
    · go_wp2_with (first | (go_at_call 51; with_reducible refine (S0 _).mono ?_; rintro e wx ⟨rfl, hx⟩; obtain ⟨ux, rfl⟩ := after hx; clear hx) | fail)
      exact ⟨⟨0 + 1, rfl, by omega, after (by repeat first | (with_reducible exact Below.refl _ _) | (with_reducible refine below_on ?_ _) | (with_reducible refine below_alloc ?_ _) | (with_reducible refine below_set ?_ (by simp; try omega) _))⟩, by simp [intOf]⟩
    · go_wp2_with (first | (go_at_call 51; with_reducible refine (S1 _).mono ?_; rintro e wx ⟨rfl, hx⟩; obtain ⟨ux, rfl⟩ := after hx; clear hx) | fail)
      go_ret2
      exact ⟨rfl, (by repeat first | (with_reducible exact hq) | (with_reducible refine below_on ?_ _) | (with_reducible refine below_alloc ?_ _) | (with_reducible refine below_set ?_ (by simp; try omega) _))⟩

set_option maxRecDepth 100000 in
set_option maxHeartbeats 2000000 in
theorem cside_2 (k c x y q px0 py0 px1 py1 px2 py2 s0 s1 s2 : Int) (w : World) (hL : Lay w) (h1 : 1 ≤ k) (h2 : k ≤ 4) (h3 : -4096 ≤ c) (h4 : c ≤ 4096) (d1 : -4096 ≤ x) (d2 : x ≤ 4096) (d3 : -4096 ≤ y) (d4 : y ≤ 4096) (d5 : 0 ≤ q) (d6 : q ≤ 3) (CO : ∀ W, Lay W → Calls Tryd.prog 43 #[cl x y q] W fun e w' => e = .returned (.agg #[.int .i64 px0, .int .i64 py0, .int .i64 px1, .int .i64 py1, .int .i64 px2, .int .i64 py2]) ∧ Below W.heap.size W w') (S0 : ∀ W, Calls Tryd.prog 51 #[ln k c, pt px0 py0] W fun e w' => e = .returned (.int .i64 s0) ∧ Below W.heap.size W w') (S1 : ∀ W, Calls Tryd.prog 51 #[ln k c, pt px1 py1] W fun e w' => e = .returned (.int .i64 s1) ∧ Below W.heap.size W w') (S2 : ∀ W, Calls Tryd.prog 51 #[ln k c, pt px2 py2] W fun e w' => e = .returned (.int .i64 s2) ∧ Below W.heap.size W w') (g0 : ¬ 0 < s0) (g1 : ¬ 0 < s1) (g2 : 0 < s2) : Calls Tryd.prog 22 #[ln k c, cl x y q] w fun e w' => e = .returned (.tuple #[.int .i64 1, .int .i64 0]) ∧ Below w.heap.size w w' := by
  have hL' : ∀ W, Below w.heap.size w W → Lay W := fun W h => lay_below hL h
  go_enter Tryd.func22, Tryd.ntmps22
  go_wp2_with fail
  have hB0 : Below w.heap.size w ((w.alloc (.cells #[.int .u8 (k), .int .i64 (c)] 26)).alloc (.cells #[.int .i64 (x), .int .i64 (y), .int .u8 (q)] 23)) := (by repeat first | (with_reducible exact Below.refl _ _) | (with_reducible refine below_on ?_ _) | (with_reducible refine below_alloc ?_ _) | (with_reducible refine below_set ?_ (by simp; try omega) _))
  have b00 : ((w.alloc (.cells #[.int .u8 (k), .int .i64 (c)] 26)).alloc (.cells #[.int .i64 (x), .int .i64 (y), .int .u8 (q)] 23)).cell? ⟨w.heap.size, 0, none⟩ = some (.int .u8 (k)) := by simp [go_sem]
  have b01 : ((w.alloc (.cells #[.int .u8 (k), .int .i64 (c)] 26)).alloc (.cells #[.int .i64 (x), .int .i64 (y), .int .u8 (q)] 23)).cell? ⟨w.heap.size, 1, none⟩ = some (.int .i64 (c)) := by simp [go_sem]
  have b10 : ((w.alloc (.cells #[.int .u8 (k), .int .i64 (c)] 26)).alloc (.cells #[.int .i64 (x), .int .i64 (y), .int .u8 (q)] 23)).cell? ⟨w.heap.size + 1, 0, none⟩ = some (.int .i64 (x)) := by simp [go_sem]
  have b11 : ((w.alloc (.cells #[.int .u8 (k), .int .i64 (c)] 26)).alloc (.cells #[.int .i64 (x), .int .i64 (y), .int .u8 (q)] 23)).cell? ⟨w.heap.size + 1, 1, none⟩ = some (.int .i64 (y)) := by simp [go_sem]
  have b12 : ((w.alloc (.cells #[.int .u8 (k), .int .i64 (c)] 26)).alloc (.cells #[.int .i64 (x), .int .i64 (y), .int .u8 (q)] 23)).cell? ⟨w.heap.size + 1, 2, none⟩ = some (.int .u8 (q)) := by simp [go_sem]
  generalize ((w.alloc (.cells #[.int .u8 (k), .int .i64 (c)] 26)).alloc (.cells #[.int .i64 (x), .int .i64 (y), .int .u8 (q)] 23)) = W0 at *
  go_wp2_with (first | (go_at_call 42; with_reducible refine (check_ok k c _ h1 h2 h3 h4).mono ?_; rintro e wx ⟨rfl, hx⟩; obtain ⟨ux, rfl⟩ := after hx; clear hx) | fail)
  have hR : Below (W0).heap.size (W0) (on ux) := by repeat first | (with_reducible exact Below.refl _ _) | (with_reducible refine below_on ?_ _) | (with_reducible refine below_alloc ?_ _)
  have cR : ∀ {b i : Nat} {v : Value}, (W0).cell? ⟨b, i, none⟩ = some v → (on ux).cell? ⟨b, i, none⟩ = some v := fun h => (hR.cell (World.block_lt_of_cell? _ _ h)).trans h
  have b00' := cR b00
  have b01' := cR b01
  have b10' := cR b10
  have b11' := cR b11
  have b12' := cR b12
  have hB1 : Below w.heap.size w (on ux) := by repeat first | (with_reducible exact hB0) | (with_reducible refine below_on ?_ _) | (with_reducible refine below_alloc ?_ _)
  clear hR cR b00 b01 b10 b11 b12  hB0
  generalize (on ux) = W1 at *
  clear ux
  go_wp2_with (first | (go_at_call 14; with_reducible refine (ccheck_ok x y q _ d1 d2 d3 d4 d5 d6).mono ?_; rintro e wx ⟨rfl, hx⟩; obtain ⟨ux, rfl⟩ := after hx; clear hx) | fail)
  have hR : Below (W1).heap.size (W1) (on ux) := by repeat first | (with_reducible exact Below.refl _ _) | (with_reducible refine below_on ?_ _) | (with_reducible refine below_alloc ?_ _)
  have cR : ∀ {b i : Nat} {v : Value}, (W1).cell? ⟨b, i, none⟩ = some v → (on ux).cell? ⟨b, i, none⟩ = some v := fun h => (hR.cell (World.block_lt_of_cell? _ _ h)).trans h
  have b00'' := cR b00'
  have b01'' := cR b01'
  have b10'' := cR b10'
  have b11'' := cR b11'
  have b12'' := cR b12'
  have hB2 : Below w.heap.size w (on ux) := by repeat first | (with_reducible exact hB1) | (with_reducible refine below_on ?_ _) | (with_reducible refine below_alloc ?_ _)
  clear hR cR b00' b01' b10' b11' b12'  hB1
  generalize (on ux) = W2 at *
  clear ux
  go_wp2_with (first | (go_at_call 43; with_reducible refine (CO _ (hL' _ (by repeat first | (with_reducible exact hB2) | (with_reducible refine below_on ?_ _) | (with_reducible refine below_alloc ?_ _) | (with_reducible refine below_set ?_ (by simp; try omega) _)))).mono ?_; rintro e wx ⟨rfl, hx⟩; obtain ⟨ux, rfl⟩ := after hx; clear hx) | fail)
  have hR : Below (W2).heap.size (W2) (on ux) := by repeat first | (with_reducible exact Below.refl _ _) | (with_reducible refine below_on ?_ _) | (with_reducible refine below_alloc ?_ _)
  have cR : ∀ {b i : Nat} {v : Value}, (W2).cell? ⟨b, i, none⟩ = some v → (on ux).cell? ⟨b, i, none⟩ = some v := fun h => (hR.cell (World.block_lt_of_cell? _ _ h)).trans h
  have b00''' := cR b00''
  have b01''' := cR b01''
  have b10''' := cR b10''
  have b11''' := cR b11''
  have b12''' := cR b12''
  have hB3 : Below w.heap.size w (on ux) := by repeat first | (with_reducible exact hB2) | (with_reducible refine below_on ?_ _) | (with_reducible refine below_alloc ?_ _)
  clear hR cR b00'' b01'' b10'' b11'' b12''  hB2
  generalize (on ux) = W3 at *
  clear ux
  go_loopw [18] (fun iv wr => ∃ i : Int, iv = .int .i64 i ∧ (i = 0 ∨ i = 1 ∨ i = 2) ∧ ∃ u : Later W3, wr = on u) (fun iv _ => (3 - intOf iv).toNat)
  case atStart => exact ⟨0, rfl, by omega, ⟨_, Below.refl _ _⟩, rfl⟩
  case round =>
    obtain ⟨i, rfl, hi, u0, rfl⟩ := hrel
    have hq : Below w.heap.size w (on u0) := below_on hB3 u0
    obtain rfl | rfl | rfl := hi
    · go_wp2_with (first | (go_at_call 51; with_reducible refine (S0 _).mono ?_; rintro e wx ⟨rfl, hx⟩; obtain ⟨ux, rfl⟩ := after hx; clear hx) | fail)
      exact ⟨⟨0 + 1, rfl, by omega, after (by repeat first | (with_reducible exact Below.refl _ _) | (with_reducible refine below_on ?_ _) | (with_reducible refine below_alloc ?_ _) | (with_reducible refine below_set ?_ (by simp; try omega) _))⟩, by simp [intOf]⟩
    · go_wp2_with (first | (go_at_call 51; with_reducible refine (S1 _).mono ?_; rintro e wx ⟨rfl, hx⟩; obtain ⟨ux, rfl⟩ := after hx; clear hx) | fail)
      exact ⟨⟨1 + 1, rfl, by omega, after (by repeat first | (with_reducible exact Below.refl _ _) | (with_reducible refine below_on ?_ _) | (with_reducible refine below_alloc ?_ _) | (with_reducible refine below_set ?_ (by simp; try omega) _))⟩, by simp [intOf]⟩
    · go_wp2_with (first | (go_at_call 51; with_reducible refine (S2 _).mono ?_; rintro e wx ⟨rfl, hx⟩; obtain ⟨ux, rfl⟩ := after hx; clear hx) | fail)
      go_ret2
      exact ⟨rfl, (by repeat first | (with_reducible exact hq) | (with_reducible refine below_on ?_ _) | (with_reducible refine below_alloc ?_ _) | (with_reducible refine below_set ?_ (by simp; try omega) _))⟩

set_option maxRecDepth 100000 in
set_option maxHeartbeats 2000000 in
theorem cside_3 (k c x y q px0 py0 px1 py1 px2 py2 s0 s1 s2 : Int) (w : World) (hL : Lay w) (h1 : 1 ≤ k) (h2 : k ≤ 4) (h3 : -4096 ≤ c) (h4 : c ≤ 4096) (d1 : -4096 ≤ x) (d2 : x ≤ 4096) (d3 : -4096 ≤ y) (d4 : y ≤ 4096) (d5 : 0 ≤ q) (d6 : q ≤ 3) (CO : ∀ W, Lay W → Calls Tryd.prog 43 #[cl x y q] W fun e w' => e = .returned (.agg #[.int .i64 px0, .int .i64 py0, .int .i64 px1, .int .i64 py1, .int .i64 px2, .int .i64 py2]) ∧ Below W.heap.size W w') (S0 : ∀ W, Calls Tryd.prog 51 #[ln k c, pt px0 py0] W fun e w' => e = .returned (.int .i64 s0) ∧ Below W.heap.size W w') (S1 : ∀ W, Calls Tryd.prog 51 #[ln k c, pt px1 py1] W fun e w' => e = .returned (.int .i64 s1) ∧ Below W.heap.size W w') (S2 : ∀ W, Calls Tryd.prog 51 #[ln k c, pt px2 py2] W fun e w' => e = .returned (.int .i64 s2) ∧ Below W.heap.size W w') (g0 : ¬ 0 < s0) (g1 : ¬ 0 < s1) (g2 : ¬ 0 < s2) : Calls Tryd.prog 22 #[ln k c, cl x y q] w fun e w' => e = .returned (.tuple #[.int .i64 0, .int .i64 0]) ∧ Below w.heap.size w w' := by
  have hL' : ∀ W, Below w.heap.size w W → Lay W := fun W h => lay_below hL h
  go_enter Tryd.func22, Tryd.ntmps22
  go_wp2_with fail
  have hB0 : Below w.heap.size w ((w.alloc (.cells #[.int .u8 (k), .int .i64 (c)] 26)).alloc (.cells #[.int .i64 (x), .int .i64 (y), .int .u8 (q)] 23)) := (by repeat first | (with_reducible exact Below.refl _ _) | (with_reducible refine below_on ?_ _) | (with_reducible refine below_alloc ?_ _) | (with_reducible refine below_set ?_ (by simp; try omega) _))
  have b00 : ((w.alloc (.cells #[.int .u8 (k), .int .i64 (c)] 26)).alloc (.cells #[.int .i64 (x), .int .i64 (y), .int .u8 (q)] 23)).cell? ⟨w.heap.size, 0, none⟩ = some (.int .u8 (k)) := by simp [go_sem]
  have b01 : ((w.alloc (.cells #[.int .u8 (k), .int .i64 (c)] 26)).alloc (.cells #[.int .i64 (x), .int .i64 (y), .int .u8 (q)] 23)).cell? ⟨w.heap.size, 1, none⟩ = some (.int .i64 (c)) := by simp [go_sem]
  have b10 : ((w.alloc (.cells #[.int .u8 (k), .int .i64 (c)] 26)).alloc (.cells #[.int .i64 (x), .int .i64 (y), .int .u8 (q)] 23)).cell? ⟨w.heap.size + 1, 0, none⟩ = some (.int .i64 (x)) := by simp [go_sem]
  have b11 : ((w.alloc (.cells #[.int .u8 (k), .int .i64 (c)] 26)).alloc (.cells #[.int .i64 (x), .int .i64 (y), .int .u8 (q)] 23)).cell? ⟨w.heap.size + 1, 1, none⟩ = some (.int .i64 (y)) := by simp [go_sem]
  have b12 : ((w.alloc (.cells #[.int .u8 (k), .int .i64 (c)] 26)).alloc (.cells #[.int .i64 (x), .int .i64 (y), .int .u8 (q)] 23)).cell? ⟨w.heap.size + 1, 2, none⟩ = some (.int .u8 (q)) := by simp [go_sem]
  generalize ((w.alloc (.cells #[.int .u8 (k), .int .i64 (c)] 26)).alloc (.cells #[.int .i64 (x), .int .i64 (y), .int .u8 (q)] 23)) = W0 at *
  go_wp2_with (first | (go_at_call 42; with_reducible refine (check_ok k c _ h1 h2 h3 h4).mono ?_; rintro e wx ⟨rfl, hx⟩; obtain ⟨ux, rfl⟩ := after hx; clear hx) | fail)
  have hR : Below (W0).heap.size (W0) (on ux) := by repeat first | (with_reducible exact Below.refl _ _) | (with_reducible refine below_on ?_ _) | (with_reducible refine below_alloc ?_ _)
  have cR : ∀ {b i : Nat} {v : Value}, (W0).cell? ⟨b, i, none⟩ = some v → (on ux).cell? ⟨b, i, none⟩ = some v := fun h => (hR.cell (World.block_lt_of_cell? _ _ h)).trans h
  have b00' := cR b00
  have b01' := cR b01
  have b10' := cR b10
  have b11' := cR b11
  have b12' := cR b12
  have hB1 : Below w.heap.size w (on ux) := by repeat first | (with_reducible exact hB0) | (with_reducible refine below_on ?_ _) | (with_reducible refine below_alloc ?_ _)
  clear hR cR b00 b01 b10 b11 b12  hB0
  generalize (on ux) = W1 at *
  clear ux
  go_wp2_with (first | (go_at_call 14; with_reducible refine (ccheck_ok x y q _ d1 d2 d3 d4 d5 d6).mono ?_; rintro e wx ⟨rfl, hx⟩; obtain ⟨ux, rfl⟩ := after hx; clear hx) | fail)
  have hR : Below (W1).heap.size (W1) (on ux) := by repeat first | (with_reducible exact Below.refl _ _) | (with_reducible refine below_on ?_ _) | (with_reducible refine below_alloc ?_ _)
  have cR : ∀ {b i : Nat} {v : Value}, (W1).cell? ⟨b, i, none⟩ = some v → (on ux).cell? ⟨b, i, none⟩ = some v := fun h => (hR.cell (World.block_lt_of_cell? _ _ h)).trans h
  have b00'' := cR b00'
  have b01'' := cR b01'
  have b10'' := cR b10'
  have b11'' := cR b11'
  have b12'' := cR b12'
  have hB2 : Below w.heap.size w (on ux) := by repeat first | (with_reducible exact hB1) | (with_reducible refine below_on ?_ _) | (with_reducible refine below_alloc ?_ _)
  clear hR cR b00' b01' b10' b11' b12'  hB1
  generalize (on ux) = W2 at *
  clear ux
  go_wp2_with (first | (go_at_call 43; with_reducible refine (CO _ (hL' _ (by repeat first | (with_reducible exact hB2) | (with_reducible refine below_on ?_ _) | (with_reducible refine below_alloc ?_ _) | (with_reducible refine below_set ?_ (by simp; try omega) _)))).mono ?_; rintro e wx ⟨rfl, hx⟩; obtain ⟨ux, rfl⟩ := after hx; clear hx) | fail)
  have hR : Below (W2).heap.size (W2) (on ux) := by repeat first | (with_reducible exact Below.refl _ _) | (with_reducible refine below_on ?_ _) | (with_reducible refine below_alloc ?_ _)
  have cR : ∀ {b i : Nat} {v : Value}, (W2).cell? ⟨b, i, none⟩ = some v → (on ux).cell? ⟨b, i, none⟩ = some v := fun h => (hR.cell (World.block_lt_of_cell? _ _ h)).trans h
  have b00''' := cR b00''
  have b01''' := cR b01''
  have b10''' := cR b10''
  have b11''' := cR b11''
  have b12''' := cR b12''
  have hB3 : Below w.heap.size w (on ux) := by repeat first | (with_reducible exact hB2) | (with_reducible refine below_on ?_ _) | (with_reducible refine below_alloc ?_ _)
  clear hR cR b00'' b01'' b10'' b11'' b12''  hB2
  generalize (on ux) = W3 at *
  clear ux
  go_loopw [18] (fun iv wr => ∃ i : Int, iv = .int .i64 i ∧ (i = 0 ∨ i = 1 ∨ i = 2 ∨ i = 3) ∧ ∃ u : Later W3, wr = on u) (fun iv _ => (3 - intOf iv).toNat)
  case atStart => exact ⟨0, rfl, by omega, ⟨_, Below.refl _ _⟩, rfl⟩
  case round =>
    obtain ⟨i, rfl, hi, u0, rfl⟩ := hrel
    have hq : Below w.heap.size w (on u0) := below_on hB3 u0
    obtain rfl | rfl | rfl | rfl := hi
    · go_wp2_with (first | (go_at_call 51; with_reducible refine (S0 _).mono ?_; rintro e wx ⟨rfl, hx⟩; obtain ⟨ux, rfl⟩ := after hx; clear hx) | fail)
      exact ⟨⟨0 + 1, rfl, by omega, after (by repeat first | (with_reducible exact Below.refl _ _) | (with_reducible refine below_on ?_ _) | (with_reducible refine below_alloc ?_ _) | (with_reducible refine below_set ?_ (by simp; try omega) _))⟩, by simp [intOf]⟩
    · go_wp2_with (first | (go_at_call 51; with_reducible refine (S1 _).mono ?_; rintro e wx ⟨rfl, hx⟩; obtain ⟨ux, rfl⟩ := after hx; clear hx) | fail)
      exact ⟨⟨1 + 1, rfl, by omega, after (by repeat first | (with_reducible exact Below.refl _ _) | (with_reducible refine below_on ?_ _) | (with_reducible refine below_alloc ?_ _) | (with_reducible refine below_set ?_ (by simp; try omega) _))⟩, by simp [intOf]⟩
    · go_wp2_with (first | (go_at_call 51; with_reducible refine (S2 _).mono ?_; rintro e wx ⟨rfl, hx⟩; obtain ⟨ux, rfl⟩ := after hx; clear hx) | fail)
      exact ⟨⟨2 + 1, rfl, by omega, after (by repeat first | (with_reducible exact Below.refl _ _) | (with_reducible refine below_on ?_ _) | (with_reducible refine below_alloc ?_ _) | (with_reducible refine below_set ?_ (by simp; try omega) _))⟩, by simp [intOf]⟩
    · go_wp2_with fail
      go_ret2
      exact ⟨rfl, (by repeat first | (with_reducible exact hq) | (with_reducible refine below_on ?_ _) | (with_reducible refine below_alloc ?_ _) | (with_reducible refine below_set ?_ (by simp; try omega) _))⟩

set_option maxRecDepth 100000 in
set_option maxHeartbeats 2000000 in
theorem cside_bad1 (k c x y q : Int) (w : World) (h : k < 1 ∨ 4 < k ∨ c < -4096 ∨ 4096 < c) : Calls Tryd.prog 22 #[ln k c, cl x y q] w fun e w' => e = .returned (.tuple #[.int .i64 0, .int .i64 1]) ∧ Below w.heap.size w w' := by
  have H : Hid (k < 1 ∨ 4 < k ∨ c < -4096 ∨ 4096 < c) := h
  clear h
  go_enter Tryd.func22, Tryd.ntmps22
  go_wp2_with fail
  have hB0 : Below w.heap.size w ((w.alloc (.cells #[.int .u8 (k), .int .i64 (c)] 26)).alloc (.cells #[.int .i64 (x), .int .i64 (y), .int .u8 (q)] 23)) := (by repeat first | (with_reducible exact Below.refl _ _) | (with_reducible refine below_on ?_ _) | (with_reducible refine below_alloc ?_ _) | (with_reducible refine below_set ?_ (by simp; try omega) _))
  have b00 : ((w.alloc (.cells #[.int .u8 (k), .int .i64 (c)] 26)).alloc (.cells #[.int .i64 (x), .int .i64 (y), .int .u8 (q)] 23)).cell? ⟨w.heap.size, 0, none⟩ = some (.int .u8 (k)) := by simp [go_sem]
  have b01 : ((w.alloc (.cells #[.int .u8 (k), .int .i64 (c)] 26)).alloc (.cells #[.int .i64 (x), .int .i64 (y), .int .u8 (q)] 23)).cell? ⟨w.heap.size, 1, none⟩ = some (.int .i64 (c)) := by simp [go_sem]
  have b10 : ((w.alloc (.cells #[.int .u8 (k), .int .i64 (c)] 26)).alloc (.cells #[.int .i64 (x), .int .i64 (y), .int .u8 (q)] 23)).cell? ⟨w.heap.size + 1, 0, none⟩ = some (.int .i64 (x)) := by simp [go_sem]
  have b11 : ((w.alloc (.cells #[.int .u8 (k), .int .i64 (c)] 26)).alloc (.cells #[.int .i64 (x), .int .i64 (y), .int .u8 (q)] 23)).cell? ⟨w.heap.size + 1, 1, none⟩ = some (.int .i64 (y)) := by simp [go_sem]
  have b12 : ((w.alloc (.cells #[.int .u8 (k), .int .i64 (c)] 26)).alloc (.cells #[.int .i64 (x), .int .i64 (y), .int .u8 (q)] 23)).cell? ⟨w.heap.size + 1, 2, none⟩ = some (.int .u8 (q)) := by simp [go_sem]
  generalize ((w.alloc (.cells #[.int .u8 (k), .int .i64 (c)] 26)).alloc (.cells #[.int .i64 (x), .int .i64 (y), .int .u8 (q)] 23)) = W0 at *
  go_wp2_with (first | (go_at_call 42; with_reducible refine (check_bad k c _ H.out).mono ?_; rintro e wx ⟨rfl, hx⟩; obtain ⟨ux, rfl⟩ := after hx; clear hx) | fail)
  go_ret2
  exact ⟨rfl, (by repeat first | (with_reducible exact hB0) | (with_reducible refine below_on ?_ _) | (with_reducible refine below_alloc ?_ _) | (with_reducible refine below_set ?_ (by simp; try omega) _))⟩

set_option maxRecDepth 100000 in
set_option maxHeartbeats 2000000 in
theorem cside_bad2 (k c x y q : Int) (w : World) (h1 : 1 ≤ k) (h2 : k ≤ 4) (h3 : -4096 ≤ c) (h4 : c ≤ 4096) (h : 3 < q ∨ x < -4096 ∨ 4096 < x ∨ y < -4096 ∨ 4096 < y) : Calls Tryd.prog 22 #[ln k c, cl x y q] w fun e w' => e = .returned (.tuple #[.int .i64 0, .int .i64 1]) ∧ Below w.heap.size w w' := by
  have H : Hid (3 < q ∨ x < -4096 ∨ 4096 < x ∨ y < -4096 ∨ 4096 < y) := h
  clear h
  go_enter Tryd.func22, Tryd.ntmps22
  go_wp2_with fail
  have hB0 : Below w.heap.size w ((w.alloc (.cells #[.int .u8 (k), .int .i64 (c)] 26)).alloc (.cells #[.int .i64 (x), .int .i64 (y), .int .u8 (q)] 23)) := (by repeat first | (with_reducible exact Below.refl _ _) | (with_reducible refine below_on ?_ _) | (with_reducible refine below_alloc ?_ _) | (with_reducible refine below_set ?_ (by simp; try omega) _))
  have b00 : ((w.alloc (.cells #[.int .u8 (k), .int .i64 (c)] 26)).alloc (.cells #[.int .i64 (x), .int .i64 (y), .int .u8 (q)] 23)).cell? ⟨w.heap.size, 0, none⟩ = some (.int .u8 (k)) := by simp [go_sem]
  have b01 : ((w.alloc (.cells #[.int .u8 (k), .int .i64 (c)] 26)).alloc (.cells #[.int .i64 (x), .int .i64 (y), .int .u8 (q)] 23)).cell? ⟨w.heap.size, 1, none⟩ = some (.int .i64 (c)) := by simp [go_sem]
  have b10 : ((w.alloc (.cells #[.int .u8 (k), .int .i64 (c)] 26)).alloc (.cells #[.int .i64 (x), .int .i64 (y), .int .u8 (q)] 23)).cell? ⟨w.heap.size + 1, 0, none⟩ = some (.int .i64 (x)) := by simp [go_sem]
  have b11 : ((w.alloc (.cells #[.int .u8 (k), .int .i64 (c)] 26)).alloc (.cells #[.int .i64 (x), .int .i64 (y), .int .u8 (q)] 23)).cell? ⟨w.heap.size + 1, 1, none⟩ = some (.int .i64 (y)) := by simp [go_sem]
  have b12 : ((w.alloc (.cells #[.int .u8 (k), .int .i64 (c)] 26)).alloc (.cells #[.int .i64 (x), .int .i64 (y), .int .u8 (q)] 23)).cell? ⟨w.heap.size + 1, 2, none⟩ = some (.int .u8 (q)) := by simp [go_sem]
  generalize ((w.alloc (.cells #[.int .u8 (k), .int .i64 (c)] 26)).alloc (.cells #[.int .i64 (x), .int .i64 (y), .int .u8 (q)] 23)) = W0 at *
  go_wp2_with (first | (go_at_call 42; with_reducible refine (check_ok k c _ h1 h2 h3 h4).mono ?_; rintro e wx ⟨rfl, hx⟩; obtain ⟨ux, rfl⟩ := after hx; clear hx) | fail)
  have hR : Below (W0).heap.size (W0) (on ux) := by repeat first | (with_reducible exact Below.refl _ _) | (with_reducible refine below_on ?_ _) | (with_reducible refine below_alloc ?_ _)
  have cR : ∀ {b i : Nat} {v : Value}, (W0).cell? ⟨b, i, none⟩ = some v → (on ux).cell? ⟨b, i, none⟩ = some v := fun h => (hR.cell (World.block_lt_of_cell? _ _ h)).trans h
  have b00' := cR b00
  have b01' := cR b01
  have b10' := cR b10
  have b11' := cR b11
  have b12' := cR b12
  have hB1 : Below w.heap.size w (on ux) := by repeat first | (with_reducible exact hB0) | (with_reducible refine below_on ?_ _) | (with_reducible refine below_alloc ?_ _)
  clear hR cR b00 b01 b10 b11 b12  hB0
  generalize (on ux) = W1 at *
  clear ux
  go_wp2_with (first | (go_at_call 14; with_reducible refine (ccheck_bad x y q _ H.out).mono ?_; rintro e wx ⟨rfl, hx⟩; obtain ⟨ux, rfl⟩ := after hx; clear hx) | fail)
  go_ret2
  exact ⟨rfl, (by repeat first | (with_reducible exact hB1) | (with_reducible refine below_on ?_ _) | (with_reducible refine below_alloc ?_ _) | (with_reducible refine below_set ?_ (by simp; try omega) _))⟩

end Go.Proofs.YtgkiliijefkcaaaDoor
