/-
  Says: which line Line of the reference finds.
-/
import Derived.Test.YtgkiliijefkcaaaDoorCr1
import Derived.Test.YtgkiliijefkcaaaDoorRfA
import Derived.BigRegion
import Derived.Deep.CutRange
set_option linter.unusedVariables false
set_option linter.unusedSimpArgs false
namespace Go.Proofs.YtgkiliijefkcaaaDoor
open Go Go.RowKit

attribute [local go_sem] World.cell?_alloc_some frozen?_alloc_cells fz0 fz1 fz2 fz3 fz4 fz5

set_option maxRecDepth 100000 in
set_option maxHeartbeats 2000000 in
theorem rline_01 (x y q px0 py0 px1 py1 px2 py2 C : Int) (w : World) (CO : ∀ W, Calls Tryd.prog 16 #[cl x y q] W fun e w' => e = .returned (.agg #[.int .i64 px0, .int .i64 py0, .int .i64 px1, .int .i64 py1, .int .i64 px2, .int .i64 py2]) ∧ Below W.heap.size W w') (px1l : -300000 ≤ px1) (px1h : px1 ≤ 300000) (py1l : -300000 ≤ py1) (py1h : py1 ≤ 300000) (px2l : -300000 ≤ px2) (px2h : px2 ≤ 300000) (py2l : -300000 ≤ py2) (py2h : py2 ≤ 300000) (n1 : (px1 == px2) = true) (n2 : (py1 == py2) = false) (n3 : (px1 + py1 == px2 + py2) = false) (n4 : (-px1 + py1 == -px2 + py2) = false) (nc : (px1).tdiv 2 = C) (C1 : -300000 ≤ C) (C2 : C ≤ 300000) : Calls Tryd.prog 17 #[cl x y q, .int .i64 0] w fun e w' => e = .returned (ln 1 C) ∧ Below w.heap.size w w' := by
  go_enter Tryd.func17, Tryd.ntmps17
  go_wp2_with fail
  have hB0 : Below w.heap.size w ((w.alloc (.cells #[.int .i64 (x), .int .i64 (y), .int .u8 (q)] 23)).alloc (.cells #[.int .u8 (0), .int .i64 (0)] 26)) := (by repeat first | (with_reducible exact Below.refl _ _) | (with_reducible refine below_on ?_ _) | (with_reducible refine below_alloc ?_ _) | (with_reducible refine below_set ?_ (by simp; try omega) _))
  have b00 : ((w.alloc (.cells #[.int .i64 (x), .int .i64 (y), .int .u8 (q)] 23)).alloc (.cells #[.int .u8 (0), .int .i64 (0)] 26)).cell? ⟨w.heap.size, 0, none⟩ = some (.int .i64 (x)) := by simp [go_sem]
  have b01 : ((w.alloc (.cells #[.int .i64 (x), .int .i64 (y), .int .u8 (q)] 23)).alloc (.cells #[.int .u8 (0), .int .i64 (0)] 26)).cell? ⟨w.heap.size, 1, none⟩ = some (.int .i64 (y)) := by simp [go_sem]
  have b02 : ((w.alloc (.cells #[.int .i64 (x), .int .i64 (y), .int .u8 (q)] 23)).alloc (.cells #[.int .u8 (0), .int .i64 (0)] 26)).cell? ⟨w.heap.size, 2, none⟩ = some (.int .u8 (q)) := by simp [go_sem]
  have b10 : ((w.alloc (.cells #[.int .i64 (x), .int .i64 (y), .int .u8 (q)] 23)).alloc (.cells #[.int .u8 (0), .int .i64 (0)] 26)).cell? ⟨w.heap.size + 1, 0, none⟩ = some (.int .u8 (0)) := by simp [go_sem]
  have fb10 : ((w.alloc (.cells #[.int .i64 (x), .int .i64 (y), .int .u8 (q)] 23)).alloc (.cells #[.int .u8 (0), .int .i64 (0)] 26)).frozen? ⟨w.heap.size + 1, 0, none⟩ = false := by simp [go_sem]
  have b11 : ((w.alloc (.cells #[.int .i64 (x), .int .i64 (y), .int .u8 (q)] 23)).alloc (.cells #[.int .u8 (0), .int .i64 (0)] 26)).cell? ⟨w.heap.size + 1, 1, none⟩ = some (.int .i64 (0)) := by simp [go_sem]
  have fb11 : ((w.alloc (.cells #[.int .i64 (x), .int .i64 (y), .int .u8 (q)] 23)).alloc (.cells #[.int .u8 (0), .int .i64 (0)] 26)).frozen? ⟨w.heap.size + 1, 1, none⟩ = false := by simp [go_sem]
  generalize ((w.alloc (.cells #[.int .i64 (x), .int .i64 (y), .int .u8 (q)] 23)).alloc (.cells #[.int .u8 (0), .int .i64 (0)] 26)) = W0 at *
  go_wp2_with (first | (go_at_call 16; with_reducible refine (CO _).mono ?_; rintro e wx ⟨rfl, hx⟩; obtain ⟨ux, rfl⟩ := after hx; clear hx) | fail)
  have hR : Below (W0).heap.size (W0) ((on ux).alloc (.cells #[.int .i64 px0, .int .i64 py0, .int .i64 px1, .int .i64 py1, .int .i64 px2, .int .i64 py2] 32)) := by repeat first | (with_reducible exact Below.refl _ _) | (with_reducible refine below_on ?_ _) | (with_reducible refine below_alloc ?_ _)
  have cR : ∀ {b i : Nat} {v : Value}, (W0).cell? ⟨b, i, none⟩ = some v → ((on ux).alloc (.cells #[.int .i64 px0, .int .i64 py0, .int .i64 px1, .int .i64 py1, .int .i64 px2, .int .i64 py2] 32)).cell? ⟨b, i, none⟩ = some v := fun h => (hR.cell (World.block_lt_of_cell? _ _ h)).trans h
  have fR : ∀ {b i : Nat} {v : Value}, (W0).cell? ⟨b, i, none⟩ = some v → (W0).frozen? ⟨b, i, none⟩ = false → ((on ux).alloc (.cells #[.int .i64 px0, .int .i64 py0, .int .i64 px1, .int .i64 py1, .int .i64 px2, .int .i64 py2] 32)).frozen? ⟨b, i, none⟩ = false := fun h g => (hR.frozen (World.block_lt_of_cell? _ _ h)).trans g
  have b00' := cR b00
  have b01' := cR b01
  have b02' := cR b02
  have b10' := cR b10
  have fb10' := fR b10 fb10
  have b11' := cR b11
  have fb11' := fR b11 fb11
  have B100 : ((on ux).alloc (.cells #[.int .i64 px0, .int .i64 py0, .int .i64 px1, .int .i64 py1, .int .i64 px2, .int .i64 py2] 32)).cell? ⟨(on ux).heap.size, 0, none⟩ = some (.int .i64 px0) := by simp [go_sem]
  have B101 : ((on ux).alloc (.cells #[.int .i64 px0, .int .i64 py0, .int .i64 px1, .int .i64 py1, .int .i64 px2, .int .i64 py2] 32)).cell? ⟨(on ux).heap.size, 1, none⟩ = some (.int .i64 py0) := by simp [go_sem]
  have B102 : ((on ux).alloc (.cells #[.int .i64 px0, .int .i64 py0, .int .i64 px1, .int .i64 py1, .int .i64 px2, .int .i64 py2] 32)).cell? ⟨(on ux).heap.size, 2, none⟩ = some (.int .i64 px1) := by simp [go_sem]
  have B103 : ((on ux).alloc (.cells #[.int .i64 px0, .int .i64 py0, .int .i64 px1, .int .i64 py1, .int .i64 px2, .int .i64 py2] 32)).cell? ⟨(on ux).heap.size, 3, none⟩ = some (.int .i64 py1) := by simp [go_sem]
  have B104 : ((on ux).alloc (.cells #[.int .i64 px0, .int .i64 py0, .int .i64 px1, .int .i64 py1, .int .i64 px2, .int .i64 py2] 32)).cell? ⟨(on ux).heap.size, 4, none⟩ = some (.int .i64 px2) := by simp [go_sem]
  have B105 : ((on ux).alloc (.cells #[.int .i64 px0, .int .i64 py0, .int .i64 px1, .int .i64 py1, .int .i64 px2, .int .i64 py2] 32)).cell? ⟨(on ux).heap.size, 5, none⟩ = some (.int .i64 py2) := by simp [go_sem]
  have hB1 : Below w.heap.size w ((on ux).alloc (.cells #[.int .i64 px0, .int .i64 py0, .int .i64 px1, .int .i64 py1, .int .i64 px2, .int .i64 py2] 32)) := by repeat first | (with_reducible exact hB0) | (with_reducible refine below_on ?_ _) | (with_reducible refine below_alloc ?_ _)
  clear hR cR fR b00 b01 b02 b10 b11 fb10 fb11 hB0
  generalize ((on ux).alloc (.cells #[.int .i64 px0, .int .i64 py0, .int .i64 px1, .int .i64 py1, .int .i64 px2, .int .i64 py2] 32)) = W1 at *
  generalize (on ux).heap.size = B1 at *
  clear ux
  have hlt : B1 < W1.heap.size := World.block_lt_of_cell? _ _ B100
  have hlr : w.heap.size + 1 < W1.heap.size := World.block_lt_of_cell? _ _ b10'
  have m1 : ¬ B1 = W1.heap.size := by omega
  have m2 : ¬ B1 = W1.heap.size + 1 := by omega
  have m3 : ¬ W1.heap.size = B1 := by omega
  have m4 : ¬ W1.heap.size + 1 = B1 := by omega
  have m5 : ¬ w.heap.size + 1 = W1.heap.size := by omega
  have m6 : ¬ w.heap.size + 1 = W1.heap.size + 1 := by omega
  have HN : Hid ((px1 == px2) = true ∧ (py1 == py2) = false ∧ (px1 + py1 == px2 + py2) = false ∧ (-px1 + py1 == -px2 + py2) = false ∧ (px1).tdiv 2 = C) := ⟨n1, n2, n3, n4, nc⟩
  clear n1 n2 n3 n4 nc hlt hlr
  go_upto_region 2 with fail
  go_cut [6, 7] from 8 (fun s6 s7 wx => ∃ b0 b1 : Nat, s6 = .pointer (some ⟨b0, 0, none⟩) ∧ s7 = .pointer (some ⟨b1, 0, none⟩) ∧ Below w.heap.size w wx ∧ wx.cell? ⟨b0, 0, none⟩ = some (.int .i64 px1) ∧ wx.cell? ⟨b0, 1, none⟩ = some (.int .i64 py1) ∧ wx.cell? ⟨b1, 0, none⟩ = some (.int .i64 px2) ∧ wx.cell? ⟨b1, 1, none⟩ = some (.int .i64 py2) ∧ wx.cell? ⟨w.heap.size + 1, 0, none⟩ = some (.int .u8 (0)) ∧ wx.cell? ⟨w.heap.size + 1, 1, none⟩ = some (.int .i64 (0)) ∧ wx.frozen? ⟨w.heap.size + 1, 0, none⟩ = false ∧ wx.frozen? ⟨w.heap.size + 1, 1, none⟩ = false)
  case first =>
    go_region
    all_goals (go_wp2_with fail; go_meet)
    all_goals exact ⟨_, _, rfl, rfl, (by repeat first | (with_reducible exact hB1) | (with_reducible refine below_drew ?_) | (with_reducible refine below_on ?_ _) | (with_reducible refine below_alloc ?_ _) | (with_reducible refine below_set ?_ (by simp; try omega) _)), by simp [go_sem, *], by simp [go_sem, *], by simp [go_sem, *], by simp [go_sem, *], by simp [go_sem, *], by simp [go_sem, *], by simp [go_sem, *], by simp [go_sem, *]⟩
  case rest =>
    obtain ⟨b0, b1, rfl, rfl, hBx, g0, g1, g2, g3, r0, r1, z0, z1⟩ := hcut
    have hn := HN.out
    clear HN b00' b01' b02' b10' fb10' b11' fb11' B100 B101 B102 B103 B104 B105 hB1 m1 m2 m3 m4 m5 m6
    obtain ⟨n1, n2, n3, n4, nc⟩ := hn
    generalize wc = Wc at *
    go_wp2_with fail
    have hQ : (Wc.alloc (.cells #[.int .u8 0, .int .i64 0] 26)).heap[Wc.heap.size]? = some (.cells #[.int .u8 0, .int .i64 0] 26) := heap_alloc_new _ _
    have hz0 : b0 < Wc.heap.size := World.block_lt_of_cell? _ _ g0
    have hz1 : b1 < Wc.heap.size := World.block_lt_of_cell? _ _ g2
    have hzr : w.heap.size + 1 < Wc.heap.size := World.block_lt_of_cell? _ _ r0
    go_loopw [9] (fun kv wr => ∃ k : Int, kv = .int .u8 k ∧ ∃ u : Later Wc, wr = on u ∧ ((k = 1 ∧ (on u).heap[Wc.heap.size]? = some (.cells #[.int .u8 0, .int .i64 0] 26)) ∨ (k = 2 ∧ (on u).heap[Wc.heap.size]? = some (.cells #[.int .u8 1, .int .i64 C] 26)) ∨ (k = 3 ∧ (on u).heap[Wc.heap.size]? = some (.cells #[.int .u8 1, .int .i64 C] 26)) ∨ (k = 4 ∧ (on u).heap[Wc.heap.size]? = some (.cells #[.int .u8 1, .int .i64 C] 26)) ∨ (k = 5 ∧ (on u).heap[Wc.heap.size]? = some (.cells #[.int .u8 1, .int .i64 C] 26)))) (fun kv _ => (5 - intOf kv).toNat)
    case atStart => exact ⟨1, rfl, ⟨_, below_alloc (Below.refl _ _) _⟩, rfl, .inl ⟨rfl, hQ⟩⟩
    case round =>
      obtain ⟨k, rfl, u0, rfl, hk⟩ := hrel
      have hq : Below w.heap.size w (on u0) := below_on hBx u0
      clear hQ
      obtain ⟨rfl, hh⟩ | ⟨rfl, hh⟩ | ⟨rfl, hh⟩ | ⟨rfl, hh⟩ | ⟨rfl, hh⟩ := hk
      · have e0 : (on u0).cell? ⟨Wc.heap.size, 0, none⟩ = some (.int .u8 0) := held_cell hh 0
        have e1 : (on u0).cell? ⟨Wc.heap.size, 1, none⟩ = some (.int .i64 0) := held_cell hh 1
        have f0 : (on u0).frozen? ⟨Wc.heap.size, 0, none⟩ = false := held_free hh 0
        have f1 : (on u0).frozen? ⟨Wc.heap.size, 1, none⟩ = false := held_free hh 1
        have f2 : ∀ v, ((on u0).setCell ⟨Wc.heap.size, 0, none⟩ v).frozen? ⟨Wc.heap.size, 1, none⟩ = false := fun v => held_free (held_set hh 0 v) 1
        go_wp2_with (first | (go_at_call 46; with_reducible refine (across_1 _).mono ?_; rintro e wx ⟨rfl, rfl⟩) | fail)
        exact ⟨⟨1 + 1, rfl, ⟨_, below_set (below_set (below_on (Below.refl _ _) u0) (Nat.le_refl _) _) (Nat.le_refl _) _⟩, rfl, .inr (.inl ⟨rfl, held_set (held_set hh 0 _) 1 _⟩)⟩, by simp [intOf]⟩
      · have e0 : (on u0).cell? ⟨Wc.heap.size, 0, none⟩ = some (.int .u8 1) := held_cell hh 0
        have e1 : (on u0).cell? ⟨Wc.heap.size, 1, none⟩ = some (.int .i64 C) := held_cell hh 1
        have f0 : (on u0).frozen? ⟨Wc.heap.size, 0, none⟩ = false := held_free hh 0
        have f1 : (on u0).frozen? ⟨Wc.heap.size, 1, none⟩ = false := held_free hh 1
        have f2 : ∀ v, ((on u0).setCell ⟨Wc.heap.size, 0, none⟩ v).frozen? ⟨Wc.heap.size, 1, none⟩ = false := fun v => held_free (held_set hh 0 v) 1
        go_wp2_with (first | (go_at_call 46; with_reducible refine (across_2 _).mono ?_; rintro e wx ⟨rfl, rfl⟩) | fail)
        exact ⟨⟨2 + 1, rfl, u0, rfl, .inr (.inr (.inl ⟨rfl, hh⟩))⟩, by simp [intOf]⟩
      · have e0 : (on u0).cell? ⟨Wc.heap.size, 0, none⟩ = some (.int .u8 1) := held_cell hh 0
        have e1 : (on u0).cell? ⟨Wc.heap.size, 1, none⟩ = some (.int .i64 C) := held_cell hh 1
        have f0 : (on u0).frozen? ⟨Wc.heap.size, 0, none⟩ = false := held_free hh 0
        have f1 : (on u0).frozen? ⟨Wc.heap.size, 1, none⟩ = false := held_free hh 1
        have f2 : ∀ v, ((on u0).setCell ⟨Wc.heap.size, 0, none⟩ v).frozen? ⟨Wc.heap.size, 1, none⟩ = false := fun v => held_free (held_set hh 0 v) 1
        go_wp2_with (first | (go_at_call 46; with_reducible refine (across_3 _).mono ?_; rintro e wx ⟨rfl, rfl⟩) | fail)
        exact ⟨⟨3 + 1, rfl, u0, rfl, .inr (.inr (.inr (.inl ⟨rfl, hh⟩)))⟩, by simp [intOf]⟩
      · have e0 : (on u0).cell? ⟨Wc.heap.size, 0, none⟩ = some (.int .u8 1) := held_cell hh 0
        have e1 : (on u0).cell? ⟨Wc.heap.size, 1, none⟩ = some (.int .i64 C) := held_cell hh 1
        have f0 : (on u0).frozen? ⟨Wc.heap.size, 0, none⟩ = false := held_free hh 0
        have f1 : (on u0).frozen? ⟨Wc.heap.size, 1, none⟩ = false := held_free hh 1
        have f2 : ∀ v, ((on u0).setCell ⟨Wc.heap.size, 0, none⟩ v).frozen? ⟨Wc.heap.size, 1, none⟩ = false := fun v => held_free (held_set hh 0 v) 1
        go_wp2_with (first | (go_at_call 46; with_reducible refine (across_4 _).mono ?_; rintro e wx ⟨rfl, rfl⟩) | fail)
        exact ⟨⟨4 + 1, rfl, u0, rfl, .inr (.inr (.inr (.inr (⟨rfl, hh⟩))))⟩, by simp [intOf]⟩
      · have e0 : (on u0).cell? ⟨Wc.heap.size, 0, none⟩ = some (.int .u8 1) := held_cell hh 0
        have e1 : (on u0).cell? ⟨Wc.heap.size, 1, none⟩ = some (.int .i64 C) := held_cell hh 1
        have f0 : (on u0).frozen? ⟨Wc.heap.size, 0, none⟩ = false := held_free hh 0
        have f1 : (on u0).frozen? ⟨Wc.heap.size, 1, none⟩ = false := held_free hh 1
        have f2 : ∀ v, ((on u0).setCell ⟨Wc.heap.size, 0, none⟩ v).frozen? ⟨Wc.heap.size, 1, none⟩ = false := fun v => held_free (held_set hh 0 v) 1
        have y0 := held_c u0 r0
        have y1 := held_c u0 r1
        go_wp2_with fail
        exact bodyPost_ret (v := ln 1 C) (by simp [results, Tryd.results17, go_sem, y0, y1]) rfl ⟨rfl, (by repeat first | (with_reducible exact hq) | (with_reducible refine below_on ?_ _) | (with_reducible refine below_alloc ?_ _) | (with_reducible refine below_set ?_ (by simp; try omega) _))⟩

set_option maxRecDepth 100000 in
set_option maxHeartbeats 2000000 in
theorem rline_02 (x y q px0 py0 px1 py1 px2 py2 C : Int) (w : World) (CO : ∀ W, Calls Tryd.prog 16 #[cl x y q] W fun e w' => e = .returned (.agg #[.int .i64 px0, .int .i64 py0, .int .i64 px1, .int .i64 py1, .int .i64 px2, .int .i64 py2]) ∧ Below W.heap.size W w') (px1l : -300000 ≤ px1) (px1h : px1 ≤ 300000) (py1l : -300000 ≤ py1) (py1h : py1 ≤ 300000) (px2l : -300000 ≤ px2) (px2h : px2 ≤ 300000) (py2l : -300000 ≤ py2) (py2h : py2 ≤ 300000) (n1 : (px1 == px2) = false) (n2 : (py1 == py2) = true) (n3 : (px1 + py1 == px2 + py2) = false) (n4 : (-px1 + py1 == -px2 + py2) = false) (nc : (py1).tdiv 2 = C) (C1 : -300000 ≤ C) (C2 : C ≤ 300000) : Calls Tryd.prog 17 #[cl x y q, .int .i64 0] w fun e w' => e = .returned (ln 2 C) ∧ Below w.heap.size w w' := by
  go_enter Tryd.func17, Tryd.ntmps17
  go_wp2_with fail
  have hB0 : Below w.heap.size w ((w.alloc (.cells #[.int .i64 (x), .int .i64 (y), .int .u8 (q)] 23)).alloc (.cells #[.int .u8 (0), .int .i64 (0)] 26)) := (by repeat first | (with_reducible exact Below.refl _ _) | (with_reducible refine below_on ?_ _) | (with_reducible refine below_alloc ?_ _) | (with_reducible refine below_set ?_ (by simp; try omega) _))
  have b00 : ((w.alloc (.cells #[.int .i64 (x), .int .i64 (y), .int .u8 (q)] 23)).alloc (.cells #[.int .u8 (0), .int .i64 (0)] 26)).cell? ⟨w.heap.size, 0, none⟩ = some (.int .i64 (x)) := by simp [go_sem]
  have b01 : ((w.alloc (.cells #[.int .i64 (x), .int .i64 (y), .int .u8 (q)] 23)).alloc (.cells #[.int .u8 (0), .int .i64 (0)] 26)).cell? ⟨w.heap.size, 1, none⟩ = some (.int .i64 (y)) := by simp [go_sem]
  have b02 : ((w.alloc (.cells #[.int .i64 (x), .int .i64 (y), .int .u8 (q)] 23)).alloc (.cells #[.int .u8 (0), .int .i64 (0)] 26)).cell? ⟨w.heap.size, 2, none⟩ = some (.int .u8 (q)) := by simp [go_sem]
  have b10 : ((w.alloc (.cells #[.int .i64 (x), .int .i64 (y), .int .u8 (q)] 23)).alloc (.cells #[.int .u8 (0), .int .i64 (0)] 26)).cell? ⟨w.heap.size + 1, 0, none⟩ = some (.int .u8 (0)) := by simp [go_sem]
  have fb10 : ((w.alloc (.cells #[.int .i64 (x), .int .i64 (y), .int .u8 (q)] 23)).alloc (.cells #[.int .u8 (0), .int .i64 (0)] 26)).frozen? ⟨w.heap.size + 1, 0, none⟩ = false := by simp [go_sem]
  have b11 : ((w.alloc (.cells #[.int .i64 (x), .int .i64 (y), .int .u8 (q)] 23)).alloc (.cells #[.int .u8 (0), .int .i64 (0)] 26)).cell? ⟨w.heap.size + 1, 1, none⟩ = some (.int .i64 (0)) := by simp [go_sem]
  have fb11 : ((w.alloc (.cells #[.int .i64 (x), .int .i64 (y), .int .u8 (q)] 23)).alloc (.cells #[.int .u8 (0), .int .i64 (0)] 26)).frozen? ⟨w.heap.size + 1, 1, none⟩ = false := by simp [go_sem]
  generalize ((w.alloc (.cells #[.int .i64 (x), .int .i64 (y), .int .u8 (q)] 23)).alloc (.cells #[.int .u8 (0), .int .i64 (0)] 26)) = W0 at *
  go_wp2_with (first | (go_at_call 16; with_reducible refine (CO _).mono ?_; rintro e wx ⟨rfl, hx⟩; obtain ⟨ux, rfl⟩ := after hx; clear hx) | fail)
  have hR : Below (W0).heap.size (W0) ((on ux).alloc (.cells #[.int .i64 px0, .int .i64 py0, .int .i64 px1, .int .i64 py1, .int .i64 px2, .int .i64 py2] 32)) := by repeat first | (with_reducible exact Below.refl _ _) | (with_reducible refine below_on ?_ _) | (with_reducible refine below_alloc ?_ _)
  have cR : ∀ {b i : Nat} {v : Value}, (W0).cell? ⟨b, i, none⟩ = some v → ((on ux).alloc (.cells #[.int .i64 px0, .int .i64 py0, .int .i64 px1, .int .i64 py1, .int .i64 px2, .int .i64 py2] 32)).cell? ⟨b, i, none⟩ = some v := fun h => (hR.cell (World.block_lt_of_cell? _ _ h)).trans h
  have fR : ∀ {b i : Nat} {v : Value}, (W0).cell? ⟨b, i, none⟩ = some v → (W0).frozen? ⟨b, i, none⟩ = false → ((on ux).alloc (.cells #[.int .i64 px0, .int .i64 py0, .int .i64 px1, .int .i64 py1, .int .i64 px2, .int .i64 py2] 32)).frozen? ⟨b, i, none⟩ = false := fun h g => (hR.frozen (World.block_lt_of_cell? _ _ h)).trans g
  have b00' := cR b00
  have b01' := cR b01
  have b02' := cR b02
  have b10' := cR b10
  have fb10' := fR b10 fb10
  have b11' := cR b11
  have fb11' := fR b11 fb11
  have B100 : ((on ux).alloc (.cells #[.int .i64 px0, .int .i64 py0, .int .i64 px1, .int .i64 py1, .int .i64 px2, .int .i64 py2] 32)).cell? ⟨(on ux).heap.size, 0, none⟩ = some (.int .i64 px0) := by simp [go_sem]
  have B101 : ((on ux).alloc (.cells #[.int .i64 px0, .int .i64 py0, .int .i64 px1, .int .i64 py1, .int .i64 px2, .int .i64 py2] 32)).cell? ⟨(on ux).heap.size, 1, none⟩ = some (.int .i64 py0) := by simp [go_sem]
  have B102 : ((on ux).alloc (.cells #[.int .i64 px0, .int .i64 py0, .int .i64 px1, .int .i64 py1, .int .i64 px2, .int .i64 py2] 32)).cell? ⟨(on ux).heap.size, 2, none⟩ = some (.int .i64 px1) := by simp [go_sem]
  have B103 : ((on ux).alloc (.cells #[.int .i64 px0, .int .i64 py0, .int .i64 px1, .int .i64 py1, .int .i64 px2, .int .i64 py2] 32)).cell? ⟨(on ux).heap.size, 3, none⟩ = some (.int .i64 py1) := by simp [go_sem]
  have B104 : ((on ux).alloc (.cells #[.int .i64 px0, .int .i64 py0, .int .i64 px1, .int .i64 py1, .int .i64 px2, .int .i64 py2] 32)).cell? ⟨(on ux).heap.size, 4, none⟩ = some (.int .i64 px2) := by simp [go_sem]
  have B105 : ((on ux).alloc (.cells #[.int .i64 px0, .int .i64 py0, .int .i64 px1, .int .i64 py1, .int .i64 px2, .int .i64 py2] 32)).cell? ⟨(on ux).heap.size, 5, none⟩ = some (.int .i64 py2) := by simp [go_sem]
  have hB1 : Below w.heap.size w ((on ux).alloc (.cells #[.int .i64 px0, .int .i64 py0, .int .i64 px1, .int .i64 py1, .int .i64 px2, .int .i64 py2] 32)) := by repeat first | (with_reducible exact hB0) | (with_reducible refine below_on ?_ _) | (with_reducible refine below_alloc ?_ _)
  clear hR cR fR b00 b01 b02 b10 b11 fb10 fb11 hB0
  generalize ((on ux).alloc (.cells #[.int .i64 px0, .int .i64 py0, .int .i64 px1, .int .i64 py1, .int .i64 px2, .int .i64 py2] 32)) = W1 at *
  generalize (on ux).heap.size = B1 at *
  clear ux
  have hlt : B1 < W1.heap.size := World.block_lt_of_cell? _ _ B100
  have hlr : w.heap.size + 1 < W1.heap.size := World.block_lt_of_cell? _ _ b10'
  have m1 : ¬ B1 = W1.heap.size := by omega
  have m2 : ¬ B1 = W1.heap.size + 1 := by omega
  have m3 : ¬ W1.heap.size = B1 := by omega
  have m4 : ¬ W1.heap.size + 1 = B1 := by omega
  have m5 : ¬ w.heap.size + 1 = W1.heap.size := by omega
  have m6 : ¬ w.heap.size + 1 = W1.heap.size + 1 := by omega
  have HN : Hid ((px1 == px2) = false ∧ (py1 == py2) = true ∧ (px1 + py1 == px2 + py2) = false ∧ (-px1 + py1 == -px2 + py2) = false ∧ (py1).tdiv 2 = C) := ⟨n1, n2, n3, n4, nc⟩
  clear n1 n2 n3 n4 nc hlt hlr
  go_upto_region 2 with fail
  go_cut [6, 7] from 8 (fun s6 s7 wx => ∃ b0 b1 : Nat, s6 = .pointer (some ⟨b0, 0, none⟩) ∧ s7 = .pointer (some ⟨b1, 0, none⟩) ∧ Below w.heap.size w wx ∧ wx.cell? ⟨b0, 0, none⟩ = some (.int .i64 px1) ∧ wx.cell? ⟨b0, 1, none⟩ = some (.int .i64 py1) ∧ wx.cell? ⟨b1, 0, none⟩ = some (.int .i64 px2) ∧ wx.cell? ⟨b1, 1, none⟩ = some (.int .i64 py2) ∧ wx.cell? ⟨w.heap.size + 1, 0, none⟩ = some (.int .u8 (0)) ∧ wx.cell? ⟨w.heap.size + 1, 1, none⟩ = some (.int .i64 (0)) ∧ wx.frozen? ⟨w.heap.size + 1, 0, none⟩ = false ∧ wx.frozen? ⟨w.heap.size + 1, 1, none⟩ = false)
  case first =>
    go_region
    all_goals (go_wp2_with fail; go_meet)
    all_goals exact ⟨_, _, rfl, rfl, (by repeat first | (with_reducible exact hB1) | (with_reducible refine below_drew ?_) | (with_reducible refine below_on ?_ _) | (with_reducible refine below_alloc ?_ _) | (with_reducible refine below_set ?_ (by simp; try omega) _)), by simp [go_sem, *], by simp [go_sem, *], by simp [go_sem, *], by simp [go_sem, *], by simp [go_sem, *], by simp [go_sem, *], by simp [go_sem, *], by simp [go_sem, *]⟩
  case rest =>
    obtain ⟨b0, b1, rfl, rfl, hBx, g0, g1, g2, g3, r0, r1, z0, z1⟩ := hcut
    have hn := HN.out
    clear HN b00' b01' b02' b10' fb10' b11' fb11' B100 B101 B102 B103 B104 B105 hB1 m1 m2 m3 m4 m5 m6
    obtain ⟨n1, n2, n3, n4, nc⟩ := hn
    generalize wc = Wc at *
    go_wp2_with fail
    have hQ : (Wc.alloc (.cells #[.int .u8 0, .int .i64 0] 26)).heap[Wc.heap.size]? = some (.cells #[.int .u8 0, .int .i64 0] 26) := heap_alloc_new _ _
    have hz0 : b0 < Wc.heap.size := World.block_lt_of_cell? _ _ g0
    have hz1 : b1 < Wc.heap.size := World.block_lt_of_cell? _ _ g2
    have hzr : w.heap.size + 1 < Wc.heap.size := World.block_lt_of_cell? _ _ r0
    go_loopw [9] (fun kv wr => ∃ k : Int, kv = .int .u8 k ∧ ∃ u : Later Wc, wr = on u ∧ ((k = 1 ∧ (on u).heap[Wc.heap.size]? = some (.cells #[.int .u8 0, .int .i64 0] 26)) ∨ (k = 2 ∧ (on u).heap[Wc.heap.size]? = some (.cells #[.int .u8 0, .int .i64 0] 26)) ∨ (k = 3 ∧ (on u).heap[Wc.heap.size]? = some (.cells #[.int .u8 2, .int .i64 C] 26)) ∨ (k = 4 ∧ (on u).heap[Wc.heap.size]? = some (.cells #[.int .u8 2, .int .i64 C] 26)) ∨ (k = 5 ∧ (on u).heap[Wc.heap.size]? = some (.cells #[.int .u8 2, .int .i64 C] 26)))) (fun kv _ => (5 - intOf kv).toNat)
    case atStart => exact ⟨1, rfl, ⟨_, below_alloc (Below.refl _ _) _⟩, rfl, .inl ⟨rfl, hQ⟩⟩
    case round =>
      obtain ⟨k, rfl, u0, rfl, hk⟩ := hrel
      have hq : Below w.heap.size w (on u0) := below_on hBx u0
      clear hQ
      obtain ⟨rfl, hh⟩ | ⟨rfl, hh⟩ | ⟨rfl, hh⟩ | ⟨rfl, hh⟩ | ⟨rfl, hh⟩ := hk
      · have e0 : (on u0).cell? ⟨Wc.heap.size, 0, none⟩ = some (.int .u8 0) := held_cell hh 0
        have e1 : (on u0).cell? ⟨Wc.heap.size, 1, none⟩ = some (.int .i64 0) := held_cell hh 1
        have f0 : (on u0).frozen? ⟨Wc.heap.size, 0, none⟩ = false := held_free hh 0
        have f1 : (on u0).frozen? ⟨Wc.heap.size, 1, none⟩ = false := held_free hh 1
        have f2 : ∀ v, ((on u0).setCell ⟨Wc.heap.size, 0, none⟩ v).frozen? ⟨Wc.heap.size, 1, none⟩ = false := fun v => held_free (held_set hh 0 v) 1
        go_wp2_with (first | (go_at_call 46; with_reducible refine (across_1 _).mono ?_; rintro e wx ⟨rfl, rfl⟩) | fail)
        exact ⟨⟨1 + 1, rfl, u0, rfl, .inr (.inl ⟨rfl, hh⟩)⟩, by simp [intOf]⟩
      · have e0 : (on u0).cell? ⟨Wc.heap.size, 0, none⟩ = some (.int .u8 0) := held_cell hh 0
        have e1 : (on u0).cell? ⟨Wc.heap.size, 1, none⟩ = some (.int .i64 0) := held_cell hh 1
        have f0 : (on u0).frozen? ⟨Wc.heap.size, 0, none⟩ = false := held_free hh 0
        have f1 : (on u0).frozen? ⟨Wc.heap.size, 1, none⟩ = false := held_free hh 1
        have f2 : ∀ v, ((on u0).setCell ⟨Wc.heap.size, 0, none⟩ v).frozen? ⟨Wc.heap.size, 1, none⟩ = false := fun v => held_free (held_set hh 0 v) 1
        go_wp2_with (first | (go_at_call 46; with_reducible refine (across_2 _).mono ?_; rintro e wx ⟨rfl, rfl⟩) | fail)
        exact ⟨⟨2 + 1, rfl, ⟨_, below_set (below_set (below_on (Below.refl _ _) u0) (Nat.le_refl _) _) (Nat.le_refl _) _⟩, rfl, .inr (.inr (.inl ⟨rfl, held_set (held_set hh 0 _) 1 _⟩))⟩, by simp [intOf]⟩
      · have e0 : (on u0).cell? ⟨Wc.heap.size, 0, none⟩ = some (.int .u8 2) := held_cell hh 0
        have e1 : (on u0).cell? ⟨Wc.heap.size, 1, none⟩ = some (.int .i64 C) := held_cell hh 1
        have f0 : (on u0).frozen? ⟨Wc.heap.size, 0, none⟩ = false := held_free hh 0
        have f1 : (on u0).frozen? ⟨Wc.heap.size, 1, none⟩ = false := held_free hh 1
        have f2 : ∀ v, ((on u0).setCell ⟨Wc.heap.size, 0, none⟩ v).frozen? ⟨Wc.heap.size, 1, none⟩ = false := fun v => held_free (held_set hh 0 v) 1
        go_wp2_with (first | (go_at_call 46; with_reducible refine (across_3 _).mono ?_; rintro e wx ⟨rfl, rfl⟩) | fail)
        exact ⟨⟨3 + 1, rfl, u0, rfl, .inr (.inr (.inr (.inl ⟨rfl, hh⟩)))⟩, by simp [intOf]⟩
      · have e0 : (on u0).cell? ⟨Wc.heap.size, 0, none⟩ = some (.int .u8 2) := held_cell hh 0
        have e1 : (on u0).cell? ⟨Wc.heap.size, 1, none⟩ = some (.int .i64 C) := held_cell hh 1
        have f0 : (on u0).frozen? ⟨Wc.heap.size, 0, none⟩ = false := held_free hh 0
        have f1 : (on u0).frozen? ⟨Wc.heap.size, 1, none⟩ = false := held_free hh 1
        have f2 : ∀ v, ((on u0).setCell ⟨Wc.heap.size, 0, none⟩ v).frozen? ⟨Wc.heap.size, 1, none⟩ = false := fun v => held_free (held_set hh 0 v) 1
        go_wp2_with (first | (go_at_call 46; with_reducible refine (across_4 _).mono ?_; rintro e wx ⟨rfl, rfl⟩) | fail)
        exact ⟨⟨4 + 1, rfl, u0, rfl, .inr (.inr (.inr (.inr (⟨rfl, hh⟩))))⟩, by simp [intOf]⟩
      · have e0 : (on u0).cell? ⟨Wc.heap.size, 0, none⟩ = some (.int .u8 2) := held_cell hh 0
        have e1 : (on u0).cell? ⟨Wc.heap.size, 1, none⟩ = some (.int .i64 C) := held_cell hh 1
        have f0 : (on u0).frozen? ⟨Wc.heap.size, 0, none⟩ = false := held_free hh 0
        have f1 : (on u0).frozen? ⟨Wc.heap.size, 1, none⟩ = false := held_free hh 1
        have f2 : ∀ v, ((on u0).setCell ⟨Wc.heap.size, 0, none⟩ v).frozen? ⟨Wc.heap.size, 1, none⟩ = false := fun v => held_free (held_set hh 0 v) 1
        have y0 := held_c u0 r0
        have y1 := held_c u0 r1
        go_wp2_with fail
        exact bodyPost_ret (v := ln 2 C) (by simp [results, Tryd.results17, go_sem, y0, y1]) rfl ⟨rfl, (by repeat first | (with_reducible exact hq) | (with_reducible refine below_on ?_ _) | (with_reducible refine below_alloc ?_ _) | (with_reducible refine below_set ?_ (by simp; try omega) _))⟩

set_option maxRecDepth 100000 in
set_option maxHeartbeats 2000000 in
theorem rline_13 (x y q px0 py0 px1 py1 px2 py2 C : Int) (w : World) (CO : ∀ W, Calls Tryd.prog 16 #[cl x y q] W fun e w' => e = .returned (.agg #[.int .i64 px0, .int .i64 py0, .int .i64 px1, .int .i64 py1, .int .i64 px2, .int .i64 py2]) ∧ Below W.heap.size W w') (px2l : -300000 ≤ px2) (px2h : px2 ≤ 300000) (py2l : -300000 ≤ py2) (py2h : py2 ≤ 300000) (px0l : -300000 ≤ px0) (px0h : px0 ≤ 300000) (py0l : -300000 ≤ py0) (py0h : py0 ≤ 300000) (n1 : (px2 == px0) = false) (n2 : (py2 == py0) = false) (n3 : (px2 + py2 == px0 + py0) = true) (n4 : (-px2 + py2 == -px0 + py0) = false) (nc : (px2 + py2).tdiv 2 = C) (C1 : -300000 ≤ C) (C2 : C ≤ 300000) : Calls Tryd.prog 17 #[cl x y q, .int .i64 1] w fun e w' => e = .returned (ln 3 C) ∧ Below w.heap.size w w' := by
  go_enter Tryd.func17, Tryd.ntmps17
  go_wp2_with fail
  have hB0 : Below w.heap.size w ((w.alloc (.cells #[.int .i64 (x), .int .i64 (y), .int .u8 (q)] 23)).alloc (.cells #[.int .u8 (0), .int .i64 (0)] 26)) := (by repeat first | (with_reducible exact Below.refl _ _) | (with_reducible refine below_on ?_ _) | (with_reducible refine below_alloc ?_ _) | (with_reducible refine below_set ?_ (by simp; try omega) _))
  have b00 : ((w.alloc (.cells #[.int .i64 (x), .int .i64 (y), .int .u8 (q)] 23)).alloc (.cells #[.int .u8 (0), .int .i64 (0)] 26)).cell? ⟨w.heap.size, 0, none⟩ = some (.int .i64 (x)) := by simp [go_sem]
  have b01 : ((w.alloc (.cells #[.int .i64 (x), .int .i64 (y), .int .u8 (q)] 23)).alloc (.cells #[.int .u8 (0), .int .i64 (0)] 26)).cell? ⟨w.heap.size, 1, none⟩ = some (.int .i64 (y)) := by simp [go_sem]
  have b02 : ((w.alloc (.cells #[.int .i64 (x), .int .i64 (y), .int .u8 (q)] 23)).alloc (.cells #[.int .u8 (0), .int .i64 (0)] 26)).cell? ⟨w.heap.size, 2, none⟩ = some (.int .u8 (q)) := by simp [go_sem]
  have b10 : ((w.alloc (.cells #[.int .i64 (x), .int .i64 (y), .int .u8 (q)] 23)).alloc (.cells #[.int .u8 (0), .int .i64 (0)] 26)).cell? ⟨w.heap.size + 1, 0, none⟩ = some (.int .u8 (0)) := by simp [go_sem]
  have fb10 : ((w.alloc (.cells #[.int .i64 (x), .int .i64 (y), .int .u8 (q)] 23)).alloc (.cells #[.int .u8 (0), .int .i64 (0)] 26)).frozen? ⟨w.heap.size + 1, 0, none⟩ = false := by simp [go_sem]
  have b11 : ((w.alloc (.cells #[.int .i64 (x), .int .i64 (y), .int .u8 (q)] 23)).alloc (.cells #[.int .u8 (0), .int .i64 (0)] 26)).cell? ⟨w.heap.size + 1, 1, none⟩ = some (.int .i64 (0)) := by simp [go_sem]
  have fb11 : ((w.alloc (.cells #[.int .i64 (x), .int .i64 (y), .int .u8 (q)] 23)).alloc (.cells #[.int .u8 (0), .int .i64 (0)] 26)).frozen? ⟨w.heap.size + 1, 1, none⟩ = false := by simp [go_sem]
  generalize ((w.alloc (.cells #[.int .i64 (x), .int .i64 (y), .int .u8 (q)] 23)).alloc (.cells #[.int .u8 (0), .int .i64 (0)] 26)) = W0 at *
  go_wp2_with (first | (go_at_call 16; with_reducible refine (CO _).mono ?_; rintro e wx ⟨rfl, hx⟩; obtain ⟨ux, rfl⟩ := after hx; clear hx) | fail)
  have hR : Below (W0).heap.size (W0) ((on ux).alloc (.cells #[.int .i64 px0, .int .i64 py0, .int .i64 px1, .int .i64 py1, .int .i64 px2, .int .i64 py2] 32)) := by repeat first | (with_reducible exact Below.refl _ _) | (with_reducible refine below_on ?_ _) | (with_reducible refine below_alloc ?_ _)
  have cR : ∀ {b i : Nat} {v : Value}, (W0).cell? ⟨b, i, none⟩ = some v → ((on ux).alloc (.cells #[.int .i64 px0, .int .i64 py0, .int .i64 px1, .int .i64 py1, .int .i64 px2, .int .i64 py2] 32)).cell? ⟨b, i, none⟩ = some v := fun h => (hR.cell (World.block_lt_of_cell? _ _ h)).trans h
  have fR : ∀ {b i : Nat} {v : Value}, (W0).cell? ⟨b, i, none⟩ = some v → (W0).frozen? ⟨b, i, none⟩ = false → ((on ux).alloc (.cells #[.int .i64 px0, .int .i64 py0, .int .i64 px1, .int .i64 py1, .int .i64 px2, .int .i64 py2] 32)).frozen? ⟨b, i, none⟩ = false := fun h g => (hR.frozen (World.block_lt_of_cell? _ _ h)).trans g
  have b00' := cR b00
  have b01' := cR b01
  have b02' := cR b02
  have b10' := cR b10
  have fb10' := fR b10 fb10
  have b11' := cR b11
  have fb11' := fR b11 fb11
  have B100 : ((on ux).alloc (.cells #[.int .i64 px0, .int .i64 py0, .int .i64 px1, .int .i64 py1, .int .i64 px2, .int .i64 py2] 32)).cell? ⟨(on ux).heap.size, 0, none⟩ = some (.int .i64 px0) := by simp [go_sem]
  have B101 : ((on ux).alloc (.cells #[.int .i64 px0, .int .i64 py0, .int .i64 px1, .int .i64 py1, .int .i64 px2, .int .i64 py2] 32)).cell? ⟨(on ux).heap.size, 1, none⟩ = some (.int .i64 py0) := by simp [go_sem]
  have B102 : ((on ux).alloc (.cells #[.int .i64 px0, .int .i64 py0, .int .i64 px1, .int .i64 py1, .int .i64 px2, .int .i64 py2] 32)).cell? ⟨(on ux).heap.size, 2, none⟩ = some (.int .i64 px1) := by simp [go_sem]
  have B103 : ((on ux).alloc (.cells #[.int .i64 px0, .int .i64 py0, .int .i64 px1, .int .i64 py1, .int .i64 px2, .int .i64 py2] 32)).cell? ⟨(on ux).heap.size, 3, none⟩ = some (.int .i64 py1) := by simp [go_sem]
  have B104 : ((on ux).alloc (.cells #[.int .i64 px0, .int .i64 py0, .int .i64 px1, .int .i64 py1, .int .i64 px2, .int .i64 py2] 32)).cell? ⟨(on ux).heap.size, 4, none⟩ = some (.int .i64 px2) := by simp [go_sem]
  have B105 : ((on ux).alloc (.cells #[.int .i64 px0, .int .i64 py0, .int .i64 px1, .int .i64 py1, .int .i64 px2, .int .i64 py2] 32)).cell? ⟨(on ux).heap.size, 5, none⟩ = some (.int .i64 py2) := by simp [go_sem]
  have hB1 : Below w.heap.size w ((on ux).alloc (.cells #[.int .i64 px0, .int .i64 py0, .int .i64 px1, .int .i64 py1, .int .i64 px2, .int .i64 py2] 32)) := by repeat first | (with_reducible exact hB0) | (with_reducible refine below_on ?_ _) | (with_reducible refine below_alloc ?_ _)
  clear hR cR fR b00 b01 b02 b10 b11 fb10 fb11 hB0
  generalize ((on ux).alloc (.cells #[.int .i64 px0, .int .i64 py0, .int .i64 px1, .int .i64 py1, .int .i64 px2, .int .i64 py2] 32)) = W1 at *
  generalize (on ux).heap.size = B1 at *
  clear ux
  have hlt : B1 < W1.heap.size := World.block_lt_of_cell? _ _ B100
  have hlr : w.heap.size + 1 < W1.heap.size := World.block_lt_of_cell? _ _ b10'
  have m1 : ¬ B1 = W1.heap.size := by omega
  have m2 : ¬ B1 = W1.heap.size + 1 := by omega
  have m3 : ¬ W1.heap.size = B1 := by omega
  have m4 : ¬ W1.heap.size + 1 = B1 := by omega
  have m5 : ¬ w.heap.size + 1 = W1.heap.size := by omega
  have m6 : ¬ w.heap.size + 1 = W1.heap.size + 1 := by omega
  have HN : Hid ((px2 == px0) = false ∧ (py2 == py0) = false ∧ (px2 + py2 == px0 + py0) = true ∧ (-px2 + py2 == -px0 + py0) = false ∧ (px2 + py2).tdiv 2 = C) := ⟨n1, n2, n3, n4, nc⟩
  clear n1 n2 n3 n4 nc hlt hlr
  go_upto_region 2 with fail
  go_cut [6, 7] from 8 (fun s6 s7 wx => ∃ b0 b1 : Nat, s6 = .pointer (some ⟨b0, 0, none⟩) ∧ s7 = .pointer (some ⟨b1, 0, none⟩) ∧ Below w.heap.size w wx ∧ wx.cell? ⟨b0, 0, none⟩ = some (.int .i64 px2) ∧ wx.cell? ⟨b0, 1, none⟩ = some (.int .i64 py2) ∧ wx.cell? ⟨b1, 0, none⟩ = some (.int .i64 px0) ∧ wx.cell? ⟨b1, 1, none⟩ = some (.int .i64 py0) ∧ wx.cell? ⟨w.heap.size + 1, 0, none⟩ = some (.int .u8 (0)) ∧ wx.cell? ⟨w.heap.size + 1, 1, none⟩ = some (.int .i64 (0)) ∧ wx.frozen? ⟨w.heap.size + 1, 0, none⟩ = false ∧ wx.frozen? ⟨w.heap.size + 1, 1, none⟩ = false)
  case first =>
    go_region
    all_goals (go_wp2_with fail; go_meet)
    all_goals exact ⟨_, _, rfl, rfl, (by repeat first | (with_reducible exact hB1) | (with_reducible refine below_drew ?_) | (with_reducible refine below_on ?_ _) | (with_reducible refine below_alloc ?_ _) | (with_reducible refine below_set ?_ (by simp; try omega) _)), by simp [go_sem, *], by simp [go_sem, *], by simp [go_sem, *], by simp [go_sem, *], by simp [go_sem, *], by simp [go_sem, *], by simp [go_sem, *], by simp [go_sem, *]⟩
  case rest =>
    obtain ⟨b0, b1, rfl, rfl, hBx, g0, g1, g2, g3, r0, r1, z0, z1⟩ := hcut
    have hn := HN.out
    clear HN b00' b01' b02' b10' fb10' b11' fb11' B100 B101 B102 B103 B104 B105 hB1 m1 m2 m3 m4 m5 m6
    obtain ⟨n1, n2, n3, n4, nc⟩ := hn
    generalize wc = Wc at *
    go_wp2_with fail
    have hQ : (Wc.alloc (.cells #[.int .u8 0, .int .i64 0] 26)).heap[Wc.heap.size]? = some (.cells #[.int .u8 0, .int .i64 0] 26) := heap_alloc_new _ _
    have hz0 : b0 < Wc.heap.size := World.block_lt_of_cell? _ _ g0
    have hz1 : b1 < Wc.heap.size := World.block_lt_of_cell? _ _ g2
    have hzr : w.heap.size + 1 < Wc.heap.size := World.block_lt_of_cell? _ _ r0
    go_loopw [9] (fun kv wr => ∃ k : Int, kv = .int .u8 k ∧ ∃ u : Later Wc, wr = on u ∧ ((k = 1 ∧ (on u).heap[Wc.heap.size]? = some (.cells #[.int .u8 0, .int .i64 0] 26)) ∨ (k = 2 ∧ (on u).heap[Wc.heap.size]? = some (.cells #[.int .u8 0, .int .i64 0] 26)) ∨ (k = 3 ∧ (on u).heap[Wc.heap.size]? = some (.cells #[.int .u8 0, .int .i64 0] 26)) ∨ (k = 4 ∧ (on u).heap[Wc.heap.size]? = some (.cells #[.int .u8 3, .int .i64 C] 26)) ∨ (k = 5 ∧ (on u).heap[Wc.heap.size]? = some (.cells #[.int .u8 3, .int .i64 C] 26)))) (fun kv _ => (5 - intOf kv).toNat)
    case atStart => exact ⟨1, rfl, ⟨_, below_alloc (Below.refl _ _) _⟩, rfl, .inl ⟨rfl, hQ⟩⟩
    case round =>
      obtain ⟨k, rfl, u0, rfl, hk⟩ := hrel
      have hq : Below w.heap.size w (on u0) := below_on hBx u0
      clear hQ
      obtain ⟨rfl, hh⟩ | ⟨rfl, hh⟩ | ⟨rfl, hh⟩ | ⟨rfl, hh⟩ | ⟨rfl, hh⟩ := hk
      · have e0 : (on u0).cell? ⟨Wc.heap.size, 0, none⟩ = some (.int .u8 0) := held_cell hh 0
        have e1 : (on u0).cell? ⟨Wc.heap.size, 1, none⟩ = some (.int .i64 0) := held_cell hh 1
        have f0 : (on u0).frozen? ⟨Wc.heap.size, 0, none⟩ = false := held_free hh 0
        have f1 : (on u0).frozen? ⟨Wc.heap.size, 1, none⟩ = false := held_free hh 1
        have f2 : ∀ v, ((on u0).setCell ⟨Wc.heap.size, 0, none⟩ v).frozen? ⟨Wc.heap.size, 1, none⟩ = false := fun v => held_free (held_set hh 0 v) 1
        go_wp2_with (first | (go_at_call 46; with_reducible refine (across_1 _).mono ?_; rintro e wx ⟨rfl, rfl⟩) | fail)
        exact ⟨⟨1 + 1, rfl, u0, rfl, .inr (.inl ⟨rfl, hh⟩)⟩, by simp [intOf]⟩
      · have e0 : (on u0).cell? ⟨Wc.heap.size, 0, none⟩ = some (.int .u8 0) := held_cell hh 0
        have e1 : (on u0).cell? ⟨Wc.heap.size, 1, none⟩ = some (.int .i64 0) := held_cell hh 1
        have f0 : (on u0).frozen? ⟨Wc.heap.size, 0, none⟩ = false := held_free hh 0
        have f1 : (on u0).frozen? ⟨Wc.heap.size, 1, none⟩ = false := held_free hh 1
        have f2 : ∀ v, ((on u0).setCell ⟨Wc.heap.size, 0, none⟩ v).frozen? ⟨Wc.heap.size, 1, none⟩ = false := fun v => held_free (held_set hh 0 v) 1
        go_wp2_with (first | (go_at_call 46; with_reducible refine (across_2 _).mono ?_; rintro e wx ⟨rfl, rfl⟩) | fail)
        exact ⟨⟨2 + 1, rfl, u0, rfl, .inr (.inr (.inl ⟨rfl, hh⟩))⟩, by simp [intOf]⟩
      · have e0 : (on u0).cell? ⟨Wc.heap.size, 0, none⟩ = some (.int .u8 0) := held_cell hh 0
        have e1 : (on u0).cell? ⟨Wc.heap.size, 1, none⟩ = some (.int .i64 0) := held_cell hh 1
        have f0 : (on u0).frozen? ⟨Wc.heap.size, 0, none⟩ = false := held_free hh 0
        have f1 : (on u0).frozen? ⟨Wc.heap.size, 1, none⟩ = false := held_free hh 1
        have f2 : ∀ v, ((on u0).setCell ⟨Wc.heap.size, 0, none⟩ v).frozen? ⟨Wc.heap.size, 1, none⟩ = false := fun v => held_free (held_set hh 0 v) 1
        go_wp2_with (first | (go_at_call 46; with_reducible refine (across_3 _).mono ?_; rintro e wx ⟨rfl, rfl⟩) | fail)
        exact ⟨⟨3 + 1, rfl, ⟨_, below_set (below_set (below_on (Below.refl _ _) u0) (Nat.le_refl _) _) (Nat.le_refl _) _⟩, rfl, .inr (.inr (.inr (.inl ⟨rfl, held_set (held_set hh 0 _) 1 _⟩)))⟩, by simp [intOf]⟩
      · have e0 : (on u0).cell? ⟨Wc.heap.size, 0, none⟩ = some (.int .u8 3) := held_cell hh 0
        have e1 : (on u0).cell? ⟨Wc.heap.size, 1, none⟩ = some (.int .i64 C) := held_cell hh 1
        have f0 : (on u0).frozen? ⟨Wc.heap.size, 0, none⟩ = false := held_free hh 0
        have f1 : (on u0).frozen? ⟨Wc.heap.size, 1, none⟩ = false := held_free hh 1
        have f2 : ∀ v, ((on u0).setCell ⟨Wc.heap.size, 0, none⟩ v).frozen? ⟨Wc.heap.size, 1, none⟩ = false := fun v => held_free (held_set hh 0 v) 1
        go_wp2_with (first | (go_at_call 46; with_reducible refine (across_4 _).mono ?_; rintro e wx ⟨rfl, rfl⟩) | fail)
        exact ⟨⟨4 + 1, rfl, u0, rfl, .inr (.inr (.inr (.inr (⟨rfl, hh⟩))))⟩, by simp [intOf]⟩
      · have e0 : (on u0).cell? ⟨Wc.heap.size, 0, none⟩ = some (.int .u8 3) := held_cell hh 0
        have e1 : (on u0).cell? ⟨Wc.heap.size, 1, none⟩ = some (.int .i64 C) := held_cell hh 1
        have f0 : (on u0).frozen? ⟨Wc.heap.size, 0, none⟩ = false := held_free hh 0
        have f1 : (on u0).frozen? ⟨Wc.heap.size, 1, none⟩ = false := held_free hh 1
        have f2 : ∀ v, ((on u0).setCell ⟨Wc.heap.size, 0, none⟩ v).frozen? ⟨Wc.heap.size, 1, none⟩ = false := fun v => held_free (held_set hh 0 v) 1
        have y0 := held_c u0 r0
        have y1 := held_c u0 r1
        go_wp2_with fail
        exact bodyPost_ret (v := ln 3 C) (by simp [results, Tryd.results17, go_sem, y0, y1]) rfl ⟨rfl, (by repeat first | (with_reducible exact hq) | (with_reducible refine below_on ?_ _) | (with_reducible refine below_alloc ?_ _) | (with_reducible refine below_set ?_ (by simp; try omega) _))⟩

set_option maxRecDepth 100000 in
set_option maxHeartbeats 2000000 in
theorem rline_24 (x y q px0 py0 px1 py1 px2 py2 C : Int) (w : World) (CO : ∀ W, Calls Tryd.prog 16 #[cl x y q] W fun e w' => e = .returned (.agg #[.int .i64 px0, .int .i64 py0, .int .i64 px1, .int .i64 py1, .int .i64 px2, .int .i64 py2]) ∧ Below W.heap.size W w') (px0l : -300000 ≤ px0) (px0h : px0 ≤ 300000) (py0l : -300000 ≤ py0) (py0h : py0 ≤ 300000) (px1l : -300000 ≤ px1) (px1h : px1 ≤ 300000) (py1l : -300000 ≤ py1) (py1h : py1 ≤ 300000) (n1 : (px0 == px1) = false) (n2 : (py0 == py1) = false) (n3 : (px0 + py0 == px1 + py1) = false) (n4 : (-px0 + py0 == -px1 + py1) = true) (nc : (-px0 + py0).tdiv 2 = C) (C1 : -300000 ≤ C) (C2 : C ≤ 300000) : Calls Tryd.prog 17 #[cl x y q, .int .i64 2] w fun e w' => e = .returned (ln 4 C) ∧ Below w.heap.size w w' := by
  go_enter Tryd.func17, Tryd.ntmps17
  go_wp2_with fail
  have hB0 : Below w.heap.size w ((w.alloc (.cells #[.int .i64 (x), .int .i64 (y), .int .u8 (q)] 23)).alloc (.cells #[.int .u8 (0), .int .i64 (0)] 26)) := (by repeat first | (with_reducible exact Below.refl _ _) | (with_reducible refine below_on ?_ _) | (with_reducible refine below_alloc ?_ _) | (with_reducible refine below_set ?_ (by simp; try omega) _))
  have b00 : ((w.alloc (.cells #[.int .i64 (x), .int .i64 (y), .int .u8 (q)] 23)).alloc (.cells #[.int .u8 (0), .int .i64 (0)] 26)).cell? ⟨w.heap.size, 0, none⟩ = some (.int .i64 (x)) := by simp [go_sem]
  have b01 : ((w.alloc (.cells #[.int .i64 (x), .int .i64 (y), .int .u8 (q)] 23)).alloc (.cells #[.int .u8 (0), .int .i64 (0)] 26)).cell? ⟨w.heap.size, 1, none⟩ = some (.int .i64 (y)) := by simp [go_sem]
  have b02 : ((w.alloc (.cells #[.int .i64 (x), .int .i64 (y), .int .u8 (q)] 23)).alloc (.cells #[.int .u8 (0), .int .i64 (0)] 26)).cell? ⟨w.heap.size, 2, none⟩ = some (.int .u8 (q)) := by simp [go_sem]
  have b10 : ((w.alloc (.cells #[.int .i64 (x), .int .i64 (y), .int .u8 (q)] 23)).alloc (.cells #[.int .u8 (0), .int .i64 (0)] 26)).cell? ⟨w.heap.size + 1, 0, none⟩ = some (.int .u8 (0)) := by simp [go_sem]
  have fb10 : ((w.alloc (.cells #[.int .i64 (x), .int .i64 (y), .int .u8 (q)] 23)).alloc (.cells #[.int .u8 (0), .int .i64 (0)] 26)).frozen? ⟨w.heap.size + 1, 0, none⟩ = false := by simp [go_sem]
  have b11 : ((w.alloc (.cells #[.int .i64 (x), .int .i64 (y), .int .u8 (q)] 23)).alloc (.cells #[.int .u8 (0), .int .i64 (0)] 26)).cell? ⟨w.heap.size + 1, 1, none⟩ = some (.int .i64 (0)) := by simp [go_sem]
  have fb11 : ((w.alloc (.cells #[.int .i64 (x), .int .i64 (y), .int .u8 (q)] 23)).alloc (.cells #[.int .u8 (0), .int .i64 (0)] 26)).frozen? ⟨w.heap.size + 1, 1, none⟩ = false := by simp [go_sem]
  generalize ((w.alloc (.cells #[.int .i64 (x), .int .i64 (y), .int .u8 (q)] 23)).alloc (.cells #[.int .u8 (0), .int .i64 (0)] 26)) = W0 at *
  go_wp2_with (first | (go_at_call 16; with_reducible refine (CO _).mono ?_; rintro e wx ⟨rfl, hx⟩; obtain ⟨ux, rfl⟩ := after hx; clear hx) | fail)
  have hR : Below (W0).heap.size (W0) ((on ux).alloc (.cells #[.int .i64 px0, .int .i64 py0, .int .i64 px1, .int .i64 py1, .int .i64 px2, .int .i64 py2] 32)) := by repeat first | (with_reducible exact Below.refl _ _) | (with_reducible refine below_on ?_ _) | (with_reducible refine below_alloc ?_ _)
  have cR : ∀ {b i : Nat} {v : Value}, (W0).cell? ⟨b, i, none⟩ = some v → ((on ux).alloc (.cells #[.int .i64 px0, .int .i64 py0, .int .i64 px1, .int .i64 py1, .int .i64 px2, .int .i64 py2] 32)).cell? ⟨b, i, none⟩ = some v := fun h => (hR.cell (World.block_lt_of_cell? _ _ h)).trans h
  have fR : ∀ {b i : Nat} {v : Value}, (W0).cell? ⟨b, i, none⟩ = some v → (W0).frozen? ⟨b, i, none⟩ = false → ((on ux).alloc (.cells #[.int .i64 px0, .int .i64 py0, .int .i64 px1, .int .i64 py1, .int .i64 px2, .int .i64 py2] 32)).frozen? ⟨b, i, none⟩ = false := fun h g => (hR.frozen (World.block_lt_of_cell? _ _ h)).trans g
  have b00' := cR b00
  have b01' := cR b01
  have b02' := cR b02
  have b10' := cR b10
  have fb10' := fR b10 fb10
  have b11' := cR b11
  have fb11' := fR b11 fb11
  have B100 : ((on ux).alloc (.cells #[.int .i64 px0, .int .i64 py0, .int .i64 px1, .int .i64 py1, .int .i64 px2, .int .i64 py2] 32)).cell? ⟨(on ux).heap.size, 0, none⟩ = some (.int .i64 px0) := by simp [go_sem]
  have B101 : ((on ux).alloc (.cells #[.int .i64 px0, .int .i64 py0, .int .i64 px1, .int .i64 py1, .int .i64 px2, .int .i64 py2] 32)).cell? ⟨(on ux).heap.size, 1, none⟩ = some (.int .i64 py0) := by simp [go_sem]
  have B102 : ((on ux).alloc (.cells #[.int .i64 px0, .int .i64 py0, .int .i64 px1, .int .i64 py1, .int .i64 px2, .int .i64 py2] 32)).cell? ⟨(on ux).heap.size, 2, none⟩ = some (.int .i64 px1) := by simp [go_sem]
  have B103 : ((on ux).alloc (.cells #[.int .i64 px0, .int .i64 py0, .int .i64 px1, .int .i64 py1, .int .i64 px2, .int .i64 py2] 32)).cell? ⟨(on ux).heap.size, 3, none⟩ = some (.int .i64 py1) := by simp [go_sem]
  have B104 : ((on ux).alloc (.cells #[.int .i64 px0, .int .i64 py0, .int .i64 px1, .int .i64 py1, .int .i64 px2, .int .i64 py2] 32)).cell? ⟨(on ux).heap.size, 4, none⟩ = some (.int .i64 px2) := by simp [go_sem]
  have B105 : ((on ux).alloc (.cells #[.int .i64 px0, .int .i64 py0, .int .i64 px1, .int .i64 py1, .int .i64 px2, .int .i64 py2] 32)).cell? ⟨(on ux).heap.size, 5, none⟩ = some (.int .i64 py2) := by simp [go_sem]
  have hB1 : Below w.heap.size w ((on ux).alloc (.cells #[.int .i64 px0, .int .i64 py0, .int .i64 px1, .int .i64 py1, .int .i64 px2, .int .i64 py2] 32)) := by repeat first | (with_reducible exact hB0) | (with_reducible refine below_on ?_ _) | (with_reducible refine below_alloc ?_ _)
  clear hR cR fR b00 b01 b02 b10 b11 fb10 fb11 hB0
  generalize ((on ux).alloc (.cells #[.int .i64 px0, .int .i64 py0, .int .i64 px1, .int .i64 py1, .int .i64 px2, .int .i64 py2] 32)) = W1 at *
  generalize (on ux).heap.size = B1 at *
  clear ux
  have hlt : B1 < W1.heap.size := World.block_lt_of_cell? _ _ B100
  have hlr : w.heap.size + 1 < W1.heap.size := World.block_lt_of_cell? _ _ b10'
  have m1 : ¬ B1 = W1.heap.size := by omega
  have m2 : ¬ B1 = W1.heap.size + 1 := by omega
  have m3 : ¬ W1.heap.size = B1 := by omega
  have m4 : ¬ W1.heap.size + 1 = B1 := by omega
  have m5 : ¬ w.heap.size + 1 = W1.heap.size := by omega
  have m6 : ¬ w.heap.size + 1 = W1.heap.size + 1 := by omega
  have HN : Hid ((px0 == px1) = false ∧ (py0 == py1) = false ∧ (px0 + py0 == px1 + py1) = false ∧ (-px0 + py0 == -px1 + py1) = true ∧ (-px0 + py0).tdiv 2 = C) := ⟨n1, n2, n3, n4, nc⟩
  clear n1 n2 n3 n4 nc hlt hlr
  go_upto_region 2 with fail
  go_cut [6, 7] from 8 (fun s6 s7 wx => ∃ b0 b1 : Nat, s6 = .pointer (some ⟨b0, 0, none⟩) ∧ s7 = .pointer (some ⟨b1, 0, none⟩) ∧ Below w.heap.size w wx ∧ wx.cell? ⟨b0, 0, none⟩ = some (.int .i64 px0) ∧ wx.cell? ⟨b0, 1, none⟩ = some (.int .i64 py0) ∧ wx.cell? ⟨b1, 0, none⟩ = some (.int .i64 px1) ∧ wx.cell? ⟨b1, 1, none⟩ = some (.int .i64 py1) ∧ wx.cell? ⟨w.heap.size + 1, 0, none⟩ = some (.int .u8 (0)) ∧ wx.cell? ⟨w.heap.size + 1, 1, none⟩ = some (.int .i64 (0)) ∧ wx.frozen? ⟨w.heap.size + 1, 0, none⟩ = false ∧ wx.frozen? ⟨w.heap.size + 1, 1, none⟩ = false)
  case first =>
    go_region
    all_goals (go_wp2_with fail; go_meet)
    all_goals exact ⟨_, _, rfl, rfl, (by repeat first | (with_reducible exact hB1) | (with_reducible refine below_drew ?_) | (with_reducible refine below_on ?_ _) | (with_reducible refine below_alloc ?_ _) | (with_reducible refine below_set ?_ (by simp; try omega) _)), by simp [go_sem, *], by simp [go_sem, *], by simp [go_sem, *], by simp [go_sem, *], by simp [go_sem, *], by simp [go_sem, *], by simp [go_sem, *], by simp [go_sem, *]⟩
  case rest =>
    obtain ⟨b0, b1, rfl, rfl, hBx, g0, g1, g2, g3, r0, r1, z0, z1⟩ := hcut
    have hn := HN.out
    clear HN b00' b01' b02' b10' fb10' b11' fb11' B100 B101 B102 B103 B104 B105 hB1 m1 m2 m3 m4 m5 m6
    obtain ⟨n1, n2, n3, n4, nc⟩ := hn
    generalize wc = Wc at *
    go_wp2_with fail
    have hQ : (Wc.alloc (.cells #[.int .u8 0, .int .i64 0] 26)).heap[Wc.heap.size]? = some (.cells #[.int .u8 0, .int .i64 0] 26) := heap_alloc_new _ _
    have hz0 : b0 < Wc.heap.size := World.block_lt_of_cell? _ _ g0
    have hz1 : b1 < Wc.heap.size := World.block_lt_of_cell? _ _ g2
    have hzr : w.heap.size + 1 < Wc.heap.size := World.block_lt_of_cell? _ _ r0
    go_loopw [9] (fun kv wr => ∃ k : Int, kv = .int .u8 k ∧ ∃ u : Later Wc, wr = on u ∧ ((k = 1 ∧ (on u).heap[Wc.heap.size]? = some (.cells #[.int .u8 0, .int .i64 0] 26)) ∨ (k = 2 ∧ (on u).heap[Wc.heap.size]? = some (.cells #[.int .u8 0, .int .i64 0] 26)) ∨ (k = 3 ∧ (on u).heap[Wc.heap.size]? = some (.cells #[.int .u8 0, .int .i64 0] 26)) ∨ (k = 4 ∧ (on u).heap[Wc.heap.size]? = some (.cells #[.int .u8 0, .int .i64 0] 26)) ∨ (k = 5 ∧ (on u).heap[Wc.heap.size]? = some (.cells #[.int .u8 4, .int .i64 C] 26)))) (fun kv _ => (5 - intOf kv).toNat)
    case atStart => exact ⟨1, rfl, ⟨_, below_alloc (Below.refl _ _) _⟩, rfl, .inl ⟨rfl, hQ⟩⟩
    case round =>
      obtain ⟨k, rfl, u0, rfl, hk⟩ := hrel
      have hq : Below w.heap.size w (on u0) := below_on hBx u0
      clear hQ
      obtain ⟨rfl, hh⟩ | ⟨rfl, hh⟩ | ⟨rfl, hh⟩ | ⟨rfl, hh⟩ | ⟨rfl, hh⟩ := hk
      · have e0 : (on u0).cell? ⟨Wc.heap.size, 0, none⟩ = some (.int .u8 0) := held_cell hh 0
        have e1 : (on u0).cell? ⟨Wc.heap.size, 1, none⟩ = some (.int .i64 0) := held_cell hh 1
        have f0 : (on u0).frozen? ⟨Wc.heap.size, 0, none⟩ = false := held_free hh 0
        have f1 : (on u0).frozen? ⟨Wc.heap.size, 1, none⟩ = false := held_free hh 1
        have f2 : ∀ v, ((on u0).setCell ⟨Wc.heap.size, 0, none⟩ v).frozen? ⟨Wc.heap.size, 1, none⟩ = false := fun v => held_free (held_set hh 0 v) 1
        go_wp2_with (first | (go_at_call 46; with_reducible refine (across_1 _).mono ?_; rintro e wx ⟨rfl, rfl⟩) | fail)
        exact ⟨⟨1 + 1, rfl, u0, rfl, .inr (.inl ⟨rfl, hh⟩)⟩, by simp [intOf]⟩
      · have e0 : (on u0).cell? ⟨Wc.heap.size, 0, none⟩ = some (.int .u8 0) := held_cell hh 0
        have e1 : (on u0).cell? ⟨Wc.heap.size, 1, none⟩ = some (.int .i64 0) := held_cell hh 1
        have f0 : (on u0).frozen? ⟨Wc.heap.size, 0, none⟩ = false := held_free hh 0
        have f1 : (on u0).frozen? ⟨Wc.heap.size, 1, none⟩ = false := held_free hh 1
        have f2 : ∀ v, ((on u0).setCell ⟨Wc.heap.size, 0, none⟩ v).frozen? ⟨Wc.heap.size, 1, none⟩ = false := fun v => held_free (held_set hh 0 v) 1
        go_wp2_with (first | (go_at_call 46; with_reducible refine (across_2 _).mono ?_; rintro e wx ⟨rfl, rfl⟩) | fail)
        exact ⟨⟨2 + 1, rfl, u0, rfl, .inr (.inr (.inl ⟨rfl, hh⟩))⟩, by simp [intOf]⟩
      · have e0 : (on u0).cell? ⟨Wc.heap.size, 0, none⟩ = some (.int .u8 0) := held_cell hh 0
        have e1 : (on u0).cell? ⟨Wc.heap.size, 1, none⟩ = some (.int .i64 0) := held_cell hh 1
        have f0 : (on u0).frozen? ⟨Wc.heap.size, 0, none⟩ = false := held_free hh 0
        have f1 : (on u0).frozen? ⟨Wc.heap.size, 1, none⟩ = false := held_free hh 1
        have f2 : ∀ v, ((on u0).setCell ⟨Wc.heap.size, 0, none⟩ v).frozen? ⟨Wc.heap.size, 1, none⟩ = false := fun v => held_free (held_set hh 0 v) 1
        go_wp2_with (first | (go_at_call 46; with_reducible refine (across_3 _).mono ?_; rintro e wx ⟨rfl, rfl⟩) | fail)
        exact ⟨⟨3 + 1, rfl, u0, rfl, .inr (.inr (.inr (.inl ⟨rfl, hh⟩)))⟩, by simp [intOf]⟩
      · have e0 : (on u0).cell? ⟨Wc.heap.size, 0, none⟩ = some (.int .u8 0) := held_cell hh 0
        have e1 : (on u0).cell? ⟨Wc.heap.size, 1, none⟩ = some (.int .i64 0) := held_cell hh 1
        have f0 : (on u0).frozen? ⟨Wc.heap.size, 0, none⟩ = false := held_free hh 0
        have f1 : (on u0).frozen? ⟨Wc.heap.size, 1, none⟩ = false := held_free hh 1
        have f2 : ∀ v, ((on u0).setCell ⟨Wc.heap.size, 0, none⟩ v).frozen? ⟨Wc.heap.size, 1, none⟩ = false := fun v => held_free (held_set hh 0 v) 1
        go_wp2_with (first | (go_at_call 46; with_reducible refine (across_4 _).mono ?_; rintro e wx ⟨rfl, rfl⟩) | fail)
        exact ⟨⟨4 + 1, rfl, ⟨_, below_set (below_set (below_on (Below.refl _ _) u0) (Nat.le_refl _) _) (Nat.le_refl _) _⟩, rfl, .inr (.inr (.inr (.inr (⟨rfl, held_set (held_set hh 0 _) 1 _⟩))))⟩, by simp [intOf]⟩
      · have e0 : (on u0).cell? ⟨Wc.heap.size, 0, none⟩ = some (.int .u8 4) := held_cell hh 0
        have e1 : (on u0).cell? ⟨Wc.heap.size, 1, none⟩ = some (.int .i64 C) := held_cell hh 1
        have f0 : (on u0).frozen? ⟨Wc.heap.size, 0, none⟩ = false := held_free hh 0
        have f1 : (on u0).frozen? ⟨Wc.heap.size, 1, none⟩ = false := held_free hh 1
        have f2 : ∀ v, ((on u0).setCell ⟨Wc.heap.size, 0, none⟩ v).frozen? ⟨Wc.heap.size, 1, none⟩ = false := fun v => held_free (held_set hh 0 v) 1
        have y0 := held_c u0 r0
        have y1 := held_c u0 r1
        go_wp2_with fail
        exact bodyPost_ret (v := ln 4 C) (by simp [results, Tryd.results17, go_sem, y0, y1]) rfl ⟨rfl, (by repeat first | (with_reducible exact hq) | (with_reducible refine below_on ?_ _) | (with_reducible refine below_alloc ?_ _) | (with_reducible refine below_set ?_ (by simp; try omega) _))⟩

end Go.Proofs.YtgkiliijefkcaaaDoor
