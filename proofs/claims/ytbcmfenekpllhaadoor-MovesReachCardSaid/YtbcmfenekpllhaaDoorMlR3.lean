/-
  Says: MovesReach answers true where the turn of the move is 3.
-/
import Derived.Test.YtbcmfenekpllhaaDoorMlRb
import Derived.Test.YtbcmfenekpllhaaDoorMvz
import Derived.Deep.RegionHeld3
import Derived.RowKit3
import Derived.Laws.AppendOwn
import Derived.Laws.Rows
set_option linter.unusedVariables false
set_option linter.unusedSimpArgs false
namespace Go.Proofs.YtbcmfenekpllhaaDoor
open Go Go.RowKit

attribute [local go_sem] World.cell?_alloc_some frozen?_alloc_cells fz0 fz1 fz2 fz3 fz4 fz5

set_option maxRecDepth 100000 in
set_option maxHeartbeats 8000000 in
theorem reach_3 (a x y X Y A B : Int) (w : World) (hS : Std w) (OF : ∀ W, Calls Tryd.prog 41 #[.agg #[.int .u8 a, .int .i8 x, .int .i8 y]] W fun e w' => e = .returned (mv 3 X Y) ∧ Below W.heap.size W w') (x1 : -128 ≤ X) (x2 : X ≤ 127) (y1 : -128 ≤ Y) (y2 : Y ≤ 128) (hA : X + Y = 2 * A) (hB : X - Y = 2 * B) : Calls Tryd.prog 10 #[.agg #[.int .u8 a, .int .i8 x, .int .i8 y]] w fun e w' => e = .returned (.bool true) ∧ Below w.heap.size w w' := by
  have hS' : ∀ W, Below w.heap.size w W → Std W := fun W h => std_below hS h
  have tA : (X + Y).tdiv 2 = A := td2 hA
  have tB : (X - Y).tdiv 2 = B := td2 hB
  have A1 : -128 ≤ A ∧ A ≤ 128 := by omega
  have B1_ : -128 ≤ B ∧ B ≤ 128 := by omega
  obtain ⟨A1, A2⟩ := A1
  obtain ⟨B1_, B2_⟩ := B1_
  have HA_ : Hid (X + Y = 2 * A) := hA
  have HB_ : Hid (X - Y = 2 * B) := hB
  clear hA hB
  have LO30 : ∀ W, Calls Tryd.prog 27 #[ln 3 0] W fun e w' => e = .returned (.tuple #[mv 5 0 0, .int .i64 0]) ∧ Below W.heap.size W w' := fun W => mof_3 0 W (by omega) (by omega)
  have LO10 : ∀ W, Calls Tryd.prog 27 #[ln 1 0] W fun e w' => e = .returned (.tuple #[mv 4 0 0, .int .i64 0]) ∧ Below W.heap.size W w' := fun W => mof_1 0 W (by omega) (by omega)
  have LO3A : ∀ W, Calls Tryd.prog 27 #[ln 3 A] W fun e w' => e = .returned (.tuple #[mv 5 A A, .int .i64 0]) ∧ Below W.heap.size W w' := fun W => mof_3 A W (by omega) (by omega)
  have LO4B : ∀ W, Calls Tryd.prog 27 #[ln 4 B] W fun e w' => e = .returned (.tuple #[mv 7 (-B) B, .int .i64 0]) ∧ Below W.heap.size W w' := fun W => mof_4 B W (by omega) (by omega)
  have LO40 : ∀ W, Calls Tryd.prog 27 #[ln 4 0] W fun e w' => e = .returned (.tuple #[mv 7 0 0, .int .i64 0]) ∧ Below W.heap.size W w' := fun W => mof_4 0 W (by omega) (by omega)
  have TH0 : ∀ W, Std W → Calls Tryd.prog 30 #[mv 0 0 0, mv 5 0 0] W fun e w' => e = .returned (.tuple #[mv 5 0 0, .int .i64 0]) ∧ Below W.heap.size W w' := fun W h => by
    have hA := HA_.out
    have hB := HB_.out
    refine (then_ok 0 0 0 5 0 0 W h.turns (by omega) (by omega) (by omega) (by omega) (by omega) (by omega) (by omega) (by omega) (by omega) (by omega) (by omega) (by omega) (by omega) (by omega) (by rw [mvx5]; omega) (by rw [mvx5]; omega) (by rw [mvy5]; omega) (by rw [mvy5]; omega)).mono fun e w' h => ⟨h.1.trans ?_, h.2⟩
    rw [mulT05, show mvx 5 0 0 + 0 = 0 by rw [mvx5] <;> omega, show mvy 5 0 0 + 0 = 0 by rw [mvy5] <;> omega]
  have TH1 : ∀ W, Std W → Calls Tryd.prog 30 #[mv 5 0 0, mv 4 0 0] W fun e w' => e = .returned (.tuple #[mv 3 0 0, .int .i64 0]) ∧ Below W.heap.size W w' := fun W h => by
    have hA := HA_.out
    have hB := HB_.out
    refine (then_ok 5 0 0 4 0 0 W h.turns (by omega) (by omega) (by omega) (by omega) (by omega) (by omega) (by omega) (by omega) (by omega) (by omega) (by omega) (by omega) (by omega) (by omega) (by rw [mvx4]; omega) (by rw [mvx4]; omega) (by rw [mvy4]; omega) (by rw [mvy4]; omega)).mono fun e w' h => ⟨h.1.trans ?_, h.2⟩
    rw [mulT54, show mvx 4 0 0 + 0 = 0 by rw [mvx4] <;> omega, show mvy 4 0 0 + 0 = 0 by rw [mvy4] <;> omega]
  have TH2 : ∀ W, Std W → Calls Tryd.prog 30 #[mv 3 0 0, mv 5 0 0] W fun e w' => e = .returned (.tuple #[mv 6 0 0, .int .i64 0]) ∧ Below W.heap.size W w' := fun W h => by
    have hA := HA_.out
    have hB := HB_.out
    refine (then_ok 3 0 0 5 0 0 W h.turns (by omega) (by omega) (by omega) (by omega) (by omega) (by omega) (by omega) (by omega) (by omega) (by omega) (by omega) (by omega) (by omega) (by omega) (by rw [mvx5]; omega) (by rw [mvx5]; omega) (by rw [mvy5]; omega) (by rw [mvy5]; omega)).mono fun e w' h => ⟨h.1.trans ?_, h.2⟩
    rw [mulT35, show mvx 5 0 0 + 0 = 0 by rw [mvx5] <;> omega, show mvy 5 0 0 + 0 = 0 by rw [mvy5] <;> omega]
  have TH3 : ∀ W, Std W → Calls Tryd.prog 30 #[mv 6 0 0, mv 5 A A] W fun e w' => e = .returned (.tuple #[mv 3 A A, .int .i64 0]) ∧ Below W.heap.size W w' := fun W h => by
    have hA := HA_.out
    have hB := HB_.out
    refine (then_ok 6 0 0 5 A A W h.turns (by omega) (by omega) (by omega) (by omega) (by omega) (by omega) (by omega) (by omega) (by omega) (by omega) (by omega) (by omega) (by omega) (by omega) (by rw [mvx5]; omega) (by rw [mvx5]; omega) (by rw [mvy5]; omega) (by rw [mvy5]; omega)).mono fun e w' h => ⟨h.1.trans ?_, h.2⟩
    rw [mulT65, show mvx 5 0 0 + A = A by rw [mvx5] <;> omega, show mvy 5 0 0 + A = A by rw [mvy5] <;> omega]
  have TH4 : ∀ W, Std W → Calls Tryd.prog 30 #[mv 3 A A, mv 7 (-B) B] W fun e w' => e = .returned (.tuple #[mv 4 (A - B) (A + B), .int .i64 0]) ∧ Below W.heap.size W w' := fun W h => by
    have hA := HA_.out
    have hB := HB_.out
    refine (then_ok 3 A A 7 (-B) B W h.turns (by omega) (by omega) (by omega) (by omega) (by omega) (by omega) (by omega) (by omega) (by omega) (by omega) (by omega) (by omega) (by omega) (by omega) (by rw [mvx7]; omega) (by rw [mvx7]; omega) (by rw [mvy7]; omega) (by rw [mvy7]; omega)).mono fun e w' h => ⟨h.1.trans ?_, h.2⟩
    rw [mulT37, show mvx 7 A A + (-B) = (A - B) by rw [mvx7] <;> omega, show mvy 7 A A + B = (A + B) by rw [mvy7] <;> omega]
  have TH5 : ∀ W, Std W → Calls Tryd.prog 30 #[mv 4 (A - B) (A + B), mv 7 0 0] W fun e w' => e = .returned (.tuple #[mv 3 X Y, .int .i64 0]) ∧ Below W.heap.size W w' := fun W h => by
    have hA := HA_.out
    have hB := HB_.out
    refine (then_ok 4 (A - B) (A + B) 7 0 0 W h.turns (by omega) (by omega) (by omega) (by omega) (by omega) (by omega) (by omega) (by omega) (by omega) (by omega) (by omega) (by omega) (by omega) (by omega) (by rw [mvx7]; omega) (by rw [mvx7]; omega) (by rw [mvy7]; omega) (by rw [mvy7]; omega)).mono fun e w' h => ⟨h.1.trans ?_, h.2⟩
    rw [mulT47, show mvx 7 (A - B) (A + B) + 0 = X by rw [mvx7] <;> omega, show mvy 7 (A - B) (A + B) + 0 = Y by rw [mvy7] <;> omega]
  go_enter Tryd.func10, Tryd.ntmps10
  go_wp2_with fail
  have hB0 : Below w.heap.size w (w.alloc (.cells #[.int .u8 a, .int .i8 x, .int .i8 y] 71)) := (by repeat first | (with_reducible exact Below.refl _ _) | (with_reducible refine below_on ?_ _) | (with_reducible refine below_alloc ?_ _) | (with_reducible refine below_set ?_ (by simp; try omega) _))
  have b00 : (w.alloc (.cells #[.int .u8 a, .int .i8 x, .int .i8 y] 71)).cell? ⟨w.heap.size, 0, none⟩ = some (.int .u8 a) := by simp [go_sem]
  have b01 : (w.alloc (.cells #[.int .u8 a, .int .i8 x, .int .i8 y] 71)).cell? ⟨w.heap.size, 1, none⟩ = some (.int .i8 x) := by simp [go_sem]
  have b02 : (w.alloc (.cells #[.int .u8 a, .int .i8 x, .int .i8 y] 71)).cell? ⟨w.heap.size, 2, none⟩ = some (.int .i8 y) := by simp [go_sem]
  generalize (w.alloc (.cells #[.int .u8 a, .int .i8 x, .int .i8 y] 71)) = W0 at *
  go_wp2_with (first | (go_at_call 41; with_reducible refine (OF _).mono ?_; rintro e wx ⟨rfl, hx⟩; obtain ⟨ux, rfl⟩ := after hx; clear hx) | fail)
  have hR : Below (W0).heap.size (W0) ((on ux).alloc (.cells #[.int .u8 3, .int .i64 (X), .int .i64 (Y)] 51)) := by repeat first | (with_reducible exact Below.refl _ _) | (with_reducible refine below_on ?_ _) | (with_reducible refine below_alloc ?_ _)
  have b00' : ((on ux).alloc (.cells #[.int .u8 3, .int .i64 (X), .int .i64 (Y)] 51)).cell? ⟨w.heap.size, 0, none⟩ = some (.int .u8 a) := (hR.cell (World.block_lt_of_cell? _ _ b00)).trans b00
  have b01' : ((on ux).alloc (.cells #[.int .u8 3, .int .i64 (X), .int .i64 (Y)] 51)).cell? ⟨w.heap.size, 1, none⟩ = some (.int .i8 x) := (hR.cell (World.block_lt_of_cell? _ _ b01)).trans b01
  have b02' : ((on ux).alloc (.cells #[.int .u8 3, .int .i64 (X), .int .i64 (Y)] 51)).cell? ⟨w.heap.size, 2, none⟩ = some (.int .i8 y) := (hR.cell (World.block_lt_of_cell? _ _ b02)).trans b02
  have B100 : ((on ux).alloc (.cells #[.int .u8 3, .int .i64 (X), .int .i64 (Y)] 51)).cell? ⟨(on ux).heap.size, 0, none⟩ = some (.int .u8 3) := by simp [go_sem]
  have B101 : ((on ux).alloc (.cells #[.int .u8 3, .int .i64 (X), .int .i64 (Y)] 51)).cell? ⟨(on ux).heap.size, 1, none⟩ = some (.int .i64 (X)) := by simp [go_sem]
  have B102 : ((on ux).alloc (.cells #[.int .u8 3, .int .i64 (X), .int .i64 (Y)] 51)).cell? ⟨(on ux).heap.size, 2, none⟩ = some (.int .i64 (Y)) := by simp [go_sem]
  have hB1 : Below w.heap.size w ((on ux).alloc (.cells #[.int .u8 3, .int .i64 (X), .int .i64 (Y)] 51)) := by repeat first | (with_reducible exact hB0) | (with_reducible refine below_on ?_ _) | (with_reducible refine below_alloc ?_ _)
  clear hR b00 b01 b02  hB0
  generalize ((on ux).alloc (.cells #[.int .u8 3, .int .i64 (X), .int .i64 (Y)] 51)) = W1 at *
  generalize (on ux).heap.size = B1 at *
  clear ux
  refine region_later (by kernel_rfl) (by kernel_rfl) ?_
  repeat (go_big_quiet_step (fail))
  refine wpQuiet_nil ?_
  rintro _ ⟨u9, rfl⟩
  obtain ⟨inf, zv, hi, hz, hs2, hb16, hzs⟩ := infoLn
  have h90 : (on u9).cell? ⟨B1, 0, none⟩ = some (.int .u8 3) := by simp [go_sem, B100]
  have h91 : (on u9).cell? ⟨B1, 1, none⟩ = some (.int .i64 (X)) := by simp [go_sem, B101]
  have h92 : (on u9).cell? ⟨B1, 2, none⟩ = some (.int .i64 (Y)) := by simp [go_sem, B102]
  have hlt9 : B1 < (on u9).heap.size := World.block_lt_of_cell? _ _ h90
  have hB9 : Below w.heap.size w (on u9) := below_on hB1 u9
  have k9 : ∀ o1 o2 o3 o4 o5 o6 o7 o8 o9, ((((((((((on u9).alloc o1).alloc o2).alloc o3).alloc o4).alloc o5).alloc o6).alloc o7).alloc o8).alloc o9).cell? ⟨B1, 0, none⟩ = some (.int .u8 3) := fun _ _ _ _ _ _ _ _ _ => al1 (al1 (al1 (al1 (al1 (al1 (al1 (al1 (al1 (h90) _) _) _) _) _) _) _) _) _
  have HT1 : (List.foldl World.alloc (on u9) [(.cells #[] 24), (.cells #[.int .u8 1, .int .i64 0, .int .u8 3, .int .i64 0] 24), (.cells #[.int .u8 1, .int .i64 0, .int .u8 2, .int .i64 0] 24), (.cells #[.int .u8 3, .int .i64 0, .int .u8 1, .int .i64 0] 24), (.cells #[.int .u8 1, .int .i64 0] 24), (.cells #[.int .u8 3, .int .i64 0] 24), (.cells #[.int .u8 2, .int .i64 0] 24), (.cells #[.int .u8 4, .int .i64 0] 24), (.cells #[.slice (some ⟨(on u9).heap.size, 0, none⟩) 0 0, .slice (some ⟨(on u9).heap.size + 1, 0, none⟩) 2 2, .slice (some ⟨(on u9).heap.size + 1 + 1, 0, none⟩) 2 2, .slice (some ⟨(on u9).heap.size + 1 + 1 + 1, 0, none⟩) 2 2, .slice (some ⟨(on u9).heap.size + 1 + 1 + 1 + 1, 0, none⟩) 1 1, .slice (some ⟨(on u9).heap.size + 1 + 1 + 1 + 1 + 1, 0, none⟩) 1 1, .slice (some ⟨(on u9).heap.size + 1 + 1 + 1 + 1 + 1 + 1, 0, none⟩) 1 1, .slice (some ⟨(on u9).heap.size + 1 + 1 + 1 + 1 + 1 + 1 + 1, 0, none⟩) 1 1] 74), (.cells #[] 24)]).heap[(on u9).heap.size + 3]? = some (.cells ([.int .u8 3, .int .i64 0, .int .u8 1, .int .i64 0] : List Value).toArray 24) := foldl_new _ (on u9) 3 (by simp)
  have HE1 : (List.foldl World.alloc (on u9) [(.cells #[] 24), (.cells #[.int .u8 1, .int .i64 0, .int .u8 3, .int .i64 0] 24), (.cells #[.int .u8 1, .int .i64 0, .int .u8 2, .int .i64 0] 24), (.cells #[.int .u8 3, .int .i64 0, .int .u8 1, .int .i64 0] 24), (.cells #[.int .u8 1, .int .i64 0] 24), (.cells #[.int .u8 3, .int .i64 0] 24), (.cells #[.int .u8 2, .int .i64 0] 24), (.cells #[.int .u8 4, .int .i64 0] 24), (.cells #[.slice (some ⟨(on u9).heap.size, 0, none⟩) 0 0, .slice (some ⟨(on u9).heap.size + 1, 0, none⟩) 2 2, .slice (some ⟨(on u9).heap.size + 1 + 1, 0, none⟩) 2 2, .slice (some ⟨(on u9).heap.size + 1 + 1 + 1, 0, none⟩) 2 2, .slice (some ⟨(on u9).heap.size + 1 + 1 + 1 + 1, 0, none⟩) 1 1, .slice (some ⟨(on u9).heap.size + 1 + 1 + 1 + 1 + 1, 0, none⟩) 1 1, .slice (some ⟨(on u9).heap.size + 1 + 1 + 1 + 1 + 1 + 1, 0, none⟩) 1 1, .slice (some ⟨(on u9).heap.size + 1 + 1 + 1 + 1 + 1 + 1 + 1, 0, none⟩) 1 1] 74), (.cells #[] 24)]).heap[(on u9).heap.size + 9]? = some (.cells #[] 24) := foldl_new _ (on u9) 9 (by simp)
  have OWN1 : (List.foldl World.alloc (on u9) [(.cells #[] 24), (.cells #[.int .u8 1, .int .i64 0, .int .u8 3, .int .i64 0] 24), (.cells #[.int .u8 1, .int .i64 0, .int .u8 2, .int .i64 0] 24), (.cells #[.int .u8 3, .int .i64 0, .int .u8 1, .int .i64 0] 24), (.cells #[.int .u8 1, .int .i64 0] 24), (.cells #[.int .u8 3, .int .i64 0] 24), (.cells #[.int .u8 2, .int .i64 0] 24), (.cells #[.int .u8 4, .int .i64 0] 24), (.cells #[.slice (some ⟨(on u9).heap.size, 0, none⟩) 0 0, .slice (some ⟨(on u9).heap.size + 1, 0, none⟩) 2 2, .slice (some ⟨(on u9).heap.size + 1 + 1, 0, none⟩) 2 2, .slice (some ⟨(on u9).heap.size + 1 + 1 + 1, 0, none⟩) 2 2, .slice (some ⟨(on u9).heap.size + 1 + 1 + 1 + 1, 0, none⟩) 1 1, .slice (some ⟨(on u9).heap.size + 1 + 1 + 1 + 1 + 1, 0, none⟩) 1 1, .slice (some ⟨(on u9).heap.size + 1 + 1 + 1 + 1 + 1 + 1, 0, none⟩) 1 1, .slice (some ⟨(on u9).heap.size + 1 + 1 + 1 + 1 + 1 + 1 + 1, 0, none⟩) 1 1] 74), (.cells #[] 24)]).ownsRow (on u9).heap.size 24 2 (.slice (some ⟨(on u9).heap.size + 9, 0, none⟩) 0 0) 0 [] := ⟨rfl, .inr ⟨_, 0, #[], rfl, by omega, HE1, by decide, by decide, rfl, rfl⟩⟩
  have H1 : ∀ u ∈ ([.int .u8 3, .int .i64 0, .int .u8 1, .int .i64 0] : List Value), u.oneCell' = true := by decide
  have HBz : (on u9).heap.size ≤ (List.foldl World.alloc (on u9) [(.cells #[] 24), (.cells #[.int .u8 1, .int .i64 0, .int .u8 3, .int .i64 0] 24), (.cells #[.int .u8 1, .int .i64 0, .int .u8 2, .int .i64 0] 24), (.cells #[.int .u8 3, .int .i64 0, .int .u8 1, .int .i64 0] 24), (.cells #[.int .u8 1, .int .i64 0] 24), (.cells #[.int .u8 3, .int .i64 0] 24), (.cells #[.int .u8 2, .int .i64 0] 24), (.cells #[.int .u8 4, .int .i64 0] 24), (.cells #[.slice (some ⟨(on u9).heap.size, 0, none⟩) 0 0, .slice (some ⟨(on u9).heap.size + 1, 0, none⟩) 2 2, .slice (some ⟨(on u9).heap.size + 1 + 1, 0, none⟩) 2 2, .slice (some ⟨(on u9).heap.size + 1 + 1 + 1, 0, none⟩) 2 2, .slice (some ⟨(on u9).heap.size + 1 + 1 + 1 + 1, 0, none⟩) 1 1, .slice (some ⟨(on u9).heap.size + 1 + 1 + 1 + 1 + 1, 0, none⟩) 1 1, .slice (some ⟨(on u9).heap.size + 1 + 1 + 1 + 1 + 1 + 1, 0, none⟩) 1 1, .slice (some ⟨(on u9).heap.size + 1 + 1 + 1 + 1 + 1 + 1 + 1, 0, none⟩) 1 1] 74), (.cells #[] 24)]).heap.size := by rw [foldl_size]; omega
  have H2 : ∀ u ∈ ([.int .u8 3, .int .i64 0, .int .u8 3, .int .i64 A, .int .u8 4, .int .i64 B, .int .u8 4, .int .i64 0] : List Value), u.oneCell' = true := by simp [Value.oneCell']
  go_wp2_with (first | (refine wpList_append_own _ rfl (.tmp 49) (.tmp 50) 74 rfl (on u9).heap.size 24 inf zv 2 16 Tryd.underlying74 hi hz hs2 hb16 hzs (by decide) _ 0 [] rfl OWN1 ⟨(on u9).heap.size + 1 + 1 + 1, 0, none⟩ 2 2 [.int .u8 3, .int .i64 0, .int .u8 1, .int .i64 0] rfl rfl (row_reads HT1) H1 (by decide) (by decide) HBz (fun v1 w1 hown1 hg1 _ => ?_)) | (refine wpList_append_own _ rfl (.tmp 51) (.tmp 58) 74 rfl (on u9).heap.size 24 inf zv 2 16 Tryd.underlying74 hi hz hs2 hb16 hzs (by decide) _ 2 [.int .u8 3, .int .i64 0, .int .u8 1, .int .i64 0] rfl (hown1.alloc _) _ 4 4 [.int .u8 3, .int .i64 0, .int .u8 3, .int .i64 A, .int .u8 4, .int .i64 B, .int .u8 4, .int .i64 0] rfl rfl (row_reads (heap_alloc_new _ _)) H2 (by decide) (by decide) (Nat.le_trans HBz (Nat.le_trans hg1.size (by rw [World.size_alloc]; omega))) (fun v2 w2 hown2 hg2 _ => ?_)) | fail)
  have hq1 := grown_below (foldl_below [(.cells #[] 24), (.cells #[.int .u8 1, .int .i64 0, .int .u8 3, .int .i64 0] 24), (.cells #[.int .u8 1, .int .i64 0, .int .u8 2, .int .i64 0] 24), (.cells #[.int .u8 3, .int .i64 0, .int .u8 1, .int .i64 0] 24), (.cells #[.int .u8 1, .int .i64 0] 24), (.cells #[.int .u8 3, .int .i64 0] 24), (.cells #[.int .u8 2, .int .i64 0] 24), (.cells #[.int .u8 4, .int .i64 0] 24), (.cells #[.slice (some ⟨(on u9).heap.size, 0, none⟩) 0 0, .slice (some ⟨(on u9).heap.size + 1, 0, none⟩) 2 2, .slice (some ⟨(on u9).heap.size + 1 + 1, 0, none⟩) 2 2, .slice (some ⟨(on u9).heap.size + 1 + 1 + 1, 0, none⟩) 2 2, .slice (some ⟨(on u9).heap.size + 1 + 1 + 1 + 1, 0, none⟩) 1 1, .slice (some ⟨(on u9).heap.size + 1 + 1 + 1 + 1 + 1, 0, none⟩) 1 1, .slice (some ⟨(on u9).heap.size + 1 + 1 + 1 + 1 + 1 + 1, 0, none⟩) 1 1, .slice (some ⟨(on u9).heap.size + 1 + 1 + 1 + 1 + 1 + 1 + 1, 0, none⟩) 1 1] 74), (.cells #[] 24)] (Below.refl (on u9).heap.size (on u9))) (Nat.le_refl _) hg1 (fun k hk => (OWN1.lt k hk).1)
  have hq2 := grown_below (below_alloc hq1 _) (Nat.le_refl _) hg2 (fun k hk => (hown1.lt k hk).1)
  have hBx : Below w.heap.size w w2 := hB9.trans (hq2.mono hB9.size)
  obtain ⟨g, cap, cur, hv2, hbg, hgg, hnc, hcm, hcs, htk⟩ := hown2.2.resolve_left (fun h => absurd h.2 (by decide))
  subst hv2
  have x0 : w2.cell? ⟨B1, 0, none⟩ = some (.int .u8 3) := (hq2.cell (World.block_lt_of_cell? _ _ h90)).trans h90
  have x1 : w2.cell? ⟨B1, 1, none⟩ = some (.int .i64 X) := (hq2.cell (World.block_lt_of_cell? _ _ h91)).trans h91
  have x2 : w2.cell? ⟨B1, 2, none⟩ = some (.int .i64 Y) := (hq2.cell (World.block_lt_of_cell? _ _ h92)).trans h92
  have y00 : w2.cell? ⟨g, 0, none⟩ = some (.int .u8 3) := own_cell hown2 0 _ rfl
  have y01 : w2.cell? ⟨g, 1, none⟩ = some (.int .i64 0) := own_cell hown2 1 _ rfl
  have y10 : w2.cell? ⟨g, 2, none⟩ = some (.int .u8 1) := own_cell hown2 2 _ rfl
  have y11 : w2.cell? ⟨g, 3, none⟩ = some (.int .i64 0) := own_cell hown2 3 _ rfl
  have y20 : w2.cell? ⟨g, 4, none⟩ = some (.int .u8 3) := own_cell hown2 4 _ rfl
  have y21 : w2.cell? ⟨g, 5, none⟩ = some (.int .i64 0) := own_cell hown2 5 _ rfl
  have y30 : w2.cell? ⟨g, 6, none⟩ = some (.int .u8 3) := own_cell hown2 6 _ rfl
  have y31 : w2.cell? ⟨g, 7, none⟩ = some (.int .i64 A) := own_cell hown2 7 _ rfl
  have y40 : w2.cell? ⟨g, 8, none⟩ = some (.int .u8 4) := own_cell hown2 8 _ rfl
  have y41 : w2.cell? ⟨g, 9, none⟩ = some (.int .i64 B) := own_cell hown2 9 _ rfl
  have y50 : w2.cell? ⟨g, 10, none⟩ = some (.int .u8 4) := own_cell hown2 10 _ rfl
  have y51 : w2.cell? ⟨g, 11, none⟩ = some (.int .i64 0) := own_cell hown2 11 _ rfl
  clear hown2 hown1 hg1 hg2 hq1 hq2 OWN1 HE1 HT1 k9 hgg htk H1 H2 HBz hB9 h90 h91 h92 hB1
  have hlN : (6 : Int) ≤ cap := by omega
  go_wp2_with (first | (go_at_call 32; with_reducible refine (ident_any _).mono ?_; rintro e wx ⟨rfl, hx⟩; obtain ⟨ux, rfl⟩ := after hx; clear hx) | fail)
  have hQ4 : ((on ux).alloc (.cells #[.int .u8 0, .int .i64 0, .int .i64 0] 51)).heap[(on ux).heap.size]? = some (.cells #[.int .u8 0, .int .i64 0, .int .i64 0] 51) := heap_alloc_new _ _
  have hB1x : B1 < (on ux).heap.size := Nat.lt_of_lt_of_le (World.block_lt_of_cell? _ _ x0) (on_size ux)
  have hgx : g < (on ux).heap.size := Nat.lt_of_lt_of_le (World.block_lt_of_cell? _ _ y00) (on_size ux)
  have hwx : w.heap.size ≤ (on ux).heap.size := Nat.le_trans hBx.size (on_size ux)
  have hR : Below (w2).heap.size (w2) ((on ux).alloc (.cells #[.int .u8 0, .int .i64 0, .int .i64 0] 51)) := by repeat first | (with_reducible exact Below.refl _ _) | (with_reducible refine below_on ?_ _) | (with_reducible refine below_alloc ?_ _)
  have x0' : ((on ux).alloc (.cells #[.int .u8 0, .int .i64 0, .int .i64 0] 51)).cell? ⟨B1, 0, none⟩ = some (.int .u8 3) := (hR.cell (World.block_lt_of_cell? _ _ x0)).trans x0
  have x1' : ((on ux).alloc (.cells #[.int .u8 0, .int .i64 0, .int .i64 0] 51)).cell? ⟨B1, 1, none⟩ = some (.int .i64 X) := (hR.cell (World.block_lt_of_cell? _ _ x1)).trans x1
  have x2' : ((on ux).alloc (.cells #[.int .u8 0, .int .i64 0, .int .i64 0] 51)).cell? ⟨B1, 2, none⟩ = some (.int .i64 Y) := (hR.cell (World.block_lt_of_cell? _ _ x2)).trans x2
  have y00' : ((on ux).alloc (.cells #[.int .u8 0, .int .i64 0, .int .i64 0] 51)).cell? ⟨g, 0, none⟩ = some (.int .u8 3) := (hR.cell (World.block_lt_of_cell? _ _ y00)).trans y00
  have y01' : ((on ux).alloc (.cells #[.int .u8 0, .int .i64 0, .int .i64 0] 51)).cell? ⟨g, 1, none⟩ = some (.int .i64 0) := (hR.cell (World.block_lt_of_cell? _ _ y01)).trans y01
  have y10' : ((on ux).alloc (.cells #[.int .u8 0, .int .i64 0, .int .i64 0] 51)).cell? ⟨g, 2, none⟩ = some (.int .u8 1) := (hR.cell (World.block_lt_of_cell? _ _ y10)).trans y10
  have y11' : ((on ux).alloc (.cells #[.int .u8 0, .int .i64 0, .int .i64 0] 51)).cell? ⟨g, 3, none⟩ = some (.int .i64 0) := (hR.cell (World.block_lt_of_cell? _ _ y11)).trans y11
  have y20' : ((on ux).alloc (.cells #[.int .u8 0, .int .i64 0, .int .i64 0] 51)).cell? ⟨g, 4, none⟩ = some (.int .u8 3) := (hR.cell (World.block_lt_of_cell? _ _ y20)).trans y20
  have y21' : ((on ux).alloc (.cells #[.int .u8 0, .int .i64 0, .int .i64 0] 51)).cell? ⟨g, 5, none⟩ = some (.int .i64 0) := (hR.cell (World.block_lt_of_cell? _ _ y21)).trans y21
  have y30' : ((on ux).alloc (.cells #[.int .u8 0, .int .i64 0, .int .i64 0] 51)).cell? ⟨g, 6, none⟩ = some (.int .u8 3) := (hR.cell (World.block_lt_of_cell? _ _ y30)).trans y30
  have y31' : ((on ux).alloc (.cells #[.int .u8 0, .int .i64 0, .int .i64 0] 51)).cell? ⟨g, 7, none⟩ = some (.int .i64 A) := (hR.cell (World.block_lt_of_cell? _ _ y31)).trans y31
  have y40' : ((on ux).alloc (.cells #[.int .u8 0, .int .i64 0, .int .i64 0] 51)).cell? ⟨g, 8, none⟩ = some (.int .u8 4) := (hR.cell (World.block_lt_of_cell? _ _ y40)).trans y40
  have y41' : ((on ux).alloc (.cells #[.int .u8 0, .int .i64 0, .int .i64 0] 51)).cell? ⟨g, 9, none⟩ = some (.int .i64 B) := (hR.cell (World.block_lt_of_cell? _ _ y41)).trans y41
  have y50' : ((on ux).alloc (.cells #[.int .u8 0, .int .i64 0, .int .i64 0] 51)).cell? ⟨g, 10, none⟩ = some (.int .u8 4) := (hR.cell (World.block_lt_of_cell? _ _ y50)).trans y50
  have y51' : ((on ux).alloc (.cells #[.int .u8 0, .int .i64 0, .int .i64 0] 51)).cell? ⟨g, 11, none⟩ = some (.int .i64 0) := (hR.cell (World.block_lt_of_cell? _ _ y51)).trans y51
  have hB4 : Below w.heap.size w ((on ux).alloc (.cells #[.int .u8 0, .int .i64 0, .int .i64 0] 51)) := by repeat first | (with_reducible exact hBx) | (with_reducible refine below_on ?_ _) | (with_reducible refine below_alloc ?_ _)
  clear hR x0 x1 x2 y00 y01 y10 y11 y20 y21 y30 y31 y40 y41 y50 y51  hBx
  generalize ((on ux).alloc (.cells #[.int .u8 0, .int .i64 0, .int .i64 0] 51)) = W4 at *
  generalize (on ux).heap.size = B4 at *
  clear ux
  have hw0 : w.heap.size ≤ B4 := by omega
  go_loopw [9] (fun iv wr => ∃ i S P Q : Int, iv = .int .i64 i ∧ ((i = 0 ∧ 0 = S ∧ 0 = P ∧ 0 = Q) ∨ (i = 1 ∧ 5 = S ∧ 0 = P ∧ 0 = Q) ∨ (i = 2 ∧ 3 = S ∧ 0 = P ∧ 0 = Q) ∨ (i = 3 ∧ 6 = S ∧ 0 = P ∧ 0 = Q) ∨ (i = 4 ∧ 3 = S ∧ A = P ∧ A = Q) ∨ (i = 5 ∧ 4 = S ∧ (A - B) = P ∧ (A + B) = Q) ∨ (i = 6 ∧ 3 = S ∧ X = P ∧ Y = Q)) ∧ ∃ u : Later w, wr = on u ∧ (on u).heap[B4]? = some (.cells #[.int .u8 S, .int .i64 P, .int .i64 Q] 51) ∧ (on u).cell? ⟨B1, 0, none⟩ = some (.int .u8 3) ∧ (on u).cell? ⟨B1, 1, none⟩ = some (.int .i64 X) ∧ (on u).cell? ⟨B1, 2, none⟩ = some (.int .i64 Y) ∧ (on u).cell? ⟨g, 0, none⟩ = some (.int .u8 3) ∧ (on u).cell? ⟨g, 1, none⟩ = some (.int .i64 0) ∧ (on u).cell? ⟨g, 2, none⟩ = some (.int .u8 1) ∧ (on u).cell? ⟨g, 3, none⟩ = some (.int .i64 0) ∧ (on u).cell? ⟨g, 4, none⟩ = some (.int .u8 3) ∧ (on u).cell? ⟨g, 5, none⟩ = some (.int .i64 0) ∧ (on u).cell? ⟨g, 6, none⟩ = some (.int .u8 3) ∧ (on u).cell? ⟨g, 7, none⟩ = some (.int .i64 A) ∧ (on u).cell? ⟨g, 8, none⟩ = some (.int .u8 4) ∧ (on u).cell? ⟨g, 9, none⟩ = some (.int .i64 B) ∧ (on u).cell? ⟨g, 10, none⟩ = some (.int .u8 4) ∧ (on u).cell? ⟨g, 11, none⟩ = some (.int .i64 0)) (fun iv _ => (6 - intOf iv).toNat)
  case atStart => exact ⟨0, 0, 0, 0, rfl, .inl ⟨rfl, rfl, rfl, rfl⟩, ⟨W4, hB4⟩, rfl, hQ4, x0', x1', x2', y00', y01', y10', y11', y20', y21', y30', y31', y40', y41', y50', y51'⟩
  case round =>
    obtain ⟨i, S, P, Q, rfl, hi, u0, rfl, hh, k0, k1, k2, k3, k4, k5, k6, k7, k8, k9, k10, k11, k12, k13, k14⟩ := hrel
    have j0 : (on u0).cell? ⟨B4, 0, none⟩ = some (.int .u8 S) := held_cell hh 0
    have j1 : (on u0).cell? ⟨B4, 1, none⟩ = some (.int .i64 P) := held_cell hh 1
    have j2 : (on u0).cell? ⟨B4, 2, none⟩ = some (.int .i64 Q) := held_cell hh 2
    have l0 : (on u0).frozen? ⟨B4, 0, none⟩ = false := held_free hh 0
    have l1 : (on u0).frozen? ⟨B4, 1, none⟩ = false := held_free hh 1
    have l2 : (on u0).frozen? ⟨B4, 2, none⟩ = false := held_free hh 2
    have hq : Below w.heap.size w (on u0) := u0.b
    clear hQ4 hB4 x0' x1' x2' y00' y01' y10' y11' y20' y21' y30' y31' y40' y41' y50' y51'
    obtain ⟨rfl, rfl, rfl, rfl⟩ | ⟨rfl, rfl, rfl, rfl⟩ | ⟨rfl, rfl, rfl, rfl⟩ | ⟨rfl, rfl, rfl, rfl⟩ | ⟨rfl, rfl, rfl, rfl⟩ | ⟨rfl, rfl, rfl, rfl⟩ | ⟨rfl, rfl, rfl, rfl⟩ := hi
    · go_wp2_with (first | (go_at_call 27; with_reducible refine (LO30 _).mono ?_; rintro e wx ⟨rfl, hx⟩; obtain ⟨ux, rfl⟩ := after hx; clear hx) | fail)
      have hR : Below ((on u0)).heap.size ((on u0)) ((on ux).alloc (.cells #[.int .u8 5, .int .i64 0, .int .i64 0] 51)) := by repeat first | (with_reducible exact Below.refl _ _) | (with_reducible refine below_on ?_ _) | (with_reducible refine below_alloc ?_ _)
      have k0' : ((on ux).alloc (.cells #[.int .u8 5, .int .i64 0, .int .i64 0] 51)).cell? ⟨B1, 0, none⟩ = some (.int .u8 3) := (hR.cell (World.block_lt_of_cell? _ _ k0)).trans k0
      have k1' : ((on ux).alloc (.cells #[.int .u8 5, .int .i64 0, .int .i64 0] 51)).cell? ⟨B1, 1, none⟩ = some (.int .i64 X) := (hR.cell (World.block_lt_of_cell? _ _ k1)).trans k1
      have k2' : ((on ux).alloc (.cells #[.int .u8 5, .int .i64 0, .int .i64 0] 51)).cell? ⟨B1, 2, none⟩ = some (.int .i64 Y) := (hR.cell (World.block_lt_of_cell? _ _ k2)).trans k2
      have k3' : ((on ux).alloc (.cells #[.int .u8 5, .int .i64 0, .int .i64 0] 51)).cell? ⟨g, 0, none⟩ = some (.int .u8 3) := (hR.cell (World.block_lt_of_cell? _ _ k3)).trans k3
      have k4' : ((on ux).alloc (.cells #[.int .u8 5, .int .i64 0, .int .i64 0] 51)).cell? ⟨g, 1, none⟩ = some (.int .i64 0) := (hR.cell (World.block_lt_of_cell? _ _ k4)).trans k4
      have k5' : ((on ux).alloc (.cells #[.int .u8 5, .int .i64 0, .int .i64 0] 51)).cell? ⟨g, 2, none⟩ = some (.int .u8 1) := (hR.cell (World.block_lt_of_cell? _ _ k5)).trans k5
      have k6' : ((on ux).alloc (.cells #[.int .u8 5, .int .i64 0, .int .i64 0] 51)).cell? ⟨g, 3, none⟩ = some (.int .i64 0) := (hR.cell (World.block_lt_of_cell? _ _ k6)).trans k6
      have k7' : ((on ux).alloc (.cells #[.int .u8 5, .int .i64 0, .int .i64 0] 51)).cell? ⟨g, 4, none⟩ = some (.int .u8 3) := (hR.cell (World.block_lt_of_cell? _ _ k7)).trans k7
      have k8' : ((on ux).alloc (.cells #[.int .u8 5, .int .i64 0, .int .i64 0] 51)).cell? ⟨g, 5, none⟩ = some (.int .i64 0) := (hR.cell (World.block_lt_of_cell? _ _ k8)).trans k8
      have k9' : ((on ux).alloc (.cells #[.int .u8 5, .int .i64 0, .int .i64 0] 51)).cell? ⟨g, 6, none⟩ = some (.int .u8 3) := (hR.cell (World.block_lt_of_cell? _ _ k9)).trans k9
      have k10' : ((on ux).alloc (.cells #[.int .u8 5, .int .i64 0, .int .i64 0] 51)).cell? ⟨g, 7, none⟩ = some (.int .i64 A) := (hR.cell (World.block_lt_of_cell? _ _ k10)).trans k10
      have k11' : ((on ux).alloc (.cells #[.int .u8 5, .int .i64 0, .int .i64 0] 51)).cell? ⟨g, 8, none⟩ = some (.int .u8 4) := (hR.cell (World.block_lt_of_cell? _ _ k11)).trans k11
      have k12' : ((on ux).alloc (.cells #[.int .u8 5, .int .i64 0, .int .i64 0] 51)).cell? ⟨g, 9, none⟩ = some (.int .i64 B) := (hR.cell (World.block_lt_of_cell? _ _ k12)).trans k12
      have k13' : ((on ux).alloc (.cells #[.int .u8 5, .int .i64 0, .int .i64 0] 51)).cell? ⟨g, 10, none⟩ = some (.int .u8 4) := (hR.cell (World.block_lt_of_cell? _ _ k13)).trans k13
      have k14' : ((on ux).alloc (.cells #[.int .u8 5, .int .i64 0, .int .i64 0] 51)).cell? ⟨g, 11, none⟩ = some (.int .i64 0) := (hR.cell (World.block_lt_of_cell? _ _ k14)).trans k14
      have j0' : ((on ux).alloc (.cells #[.int .u8 5, .int .i64 0, .int .i64 0] 51)).cell? ⟨B4, 0, none⟩ = some (.int .u8 0) := (hR.cell (World.block_lt_of_cell? _ _ j0)).trans j0
      have l0' : ((on ux).alloc (.cells #[.int .u8 5, .int .i64 0, .int .i64 0] 51)).frozen? ⟨B4, 0, none⟩ = false := (hR.frozen (World.block_lt_of_cell? _ _ j0)).trans l0
      have j1' : ((on ux).alloc (.cells #[.int .u8 5, .int .i64 0, .int .i64 0] 51)).cell? ⟨B4, 1, none⟩ = some (.int .i64 0) := (hR.cell (World.block_lt_of_cell? _ _ j1)).trans j1
      have l1' : ((on ux).alloc (.cells #[.int .u8 5, .int .i64 0, .int .i64 0] 51)).frozen? ⟨B4, 1, none⟩ = false := (hR.frozen (World.block_lt_of_cell? _ _ j1)).trans l1
      have j2' : ((on ux).alloc (.cells #[.int .u8 5, .int .i64 0, .int .i64 0] 51)).cell? ⟨B4, 2, none⟩ = some (.int .i64 0) := (hR.cell (World.block_lt_of_cell? _ _ j2)).trans j2
      have l2' : ((on ux).alloc (.cells #[.int .u8 5, .int .i64 0, .int .i64 0] 51)).frozen? ⟨B4, 2, none⟩ = false := (hR.frozen (World.block_lt_of_cell? _ _ j2)).trans l2
      have B500 : ((on ux).alloc (.cells #[.int .u8 5, .int .i64 0, .int .i64 0] 51)).cell? ⟨(on ux).heap.size, 0, none⟩ = some (.int .u8 5) := by simp [go_sem]
      have B501 : ((on ux).alloc (.cells #[.int .u8 5, .int .i64 0, .int .i64 0] 51)).cell? ⟨(on ux).heap.size, 1, none⟩ = some (.int .i64 0) := by simp [go_sem]
      have B502 : ((on ux).alloc (.cells #[.int .u8 5, .int .i64 0, .int .i64 0] 51)).cell? ⟨(on ux).heap.size, 2, none⟩ = some (.int .i64 0) := by simp [go_sem]
      have hB5 : Below w.heap.size w ((on ux).alloc (.cells #[.int .u8 5, .int .i64 0, .int .i64 0] 51)) := by repeat first | (with_reducible exact hq) | (with_reducible refine below_on ?_ _) | (with_reducible refine below_alloc ?_ _)
      have hR5 := hR
      clear hR k0 k1 k2 k3 k4 k5 k6 k7 k8 k9 k10 k11 k12 k13 k14 j0 j1 j2 l0 l1 l2 hq
      have hh5 : ((on ux).alloc (.cells #[.int .u8 5, .int .i64 0, .int .i64 0] 51)).heap[B4]? = some (.cells #[.int .u8 0, .int .i64 0, .int .i64 0] 51) := (hR5.block _ (held_lt hh)).trans hh
      clear hh hR5
      generalize ((on ux).alloc (.cells #[.int .u8 5, .int .i64 0, .int .i64 0] 51)) = W5 at *
      generalize (on ux).heap.size = B5 at *
      clear ux
      go_wp2_with (first | (go_at_call 30; with_reducible refine (TH0 _ (hS' _ (by repeat first | (with_reducible exact hB5) | (with_reducible refine below_on ?_ _) | (with_reducible refine below_alloc ?_ _) | (with_reducible refine below_set ?_ (by simp; try omega) _)))).mono ?_; rintro e wx ⟨rfl, hx⟩; obtain ⟨ux, rfl⟩ := after hx; clear hx) | fail)
      have hR6 : Below W5.heap.size W5 (on ux) := by repeat first | (with_reducible exact Below.refl _ _) | (with_reducible refine below_on ?_ _) | (with_reducible refine below_drew ?_)
      have hh5' : (on ux).heap[B4]? = some (.cells #[.int .u8 0, .int .i64 0, .int .i64 0] 51) := (hR6.block _ (held_lt hh5)).trans hh5
      have z0 : ((((on ux).setCell ⟨B4, 0, none⟩ (.int .u8 5)).setCell ⟨B4, 1, none⟩ (.int .i64 0)).setCell ⟨B4, 2, none⟩ (.int .i64 0)).cell? ⟨B1, 0, none⟩ = some (.int .u8 3) := far3 (by omega) ((hR6.cell (World.block_lt_of_cell? _ _ k0')).trans k0') _ _ _
      have z1 : ((((on ux).setCell ⟨B4, 0, none⟩ (.int .u8 5)).setCell ⟨B4, 1, none⟩ (.int .i64 0)).setCell ⟨B4, 2, none⟩ (.int .i64 0)).cell? ⟨B1, 1, none⟩ = some (.int .i64 X) := far3 (by omega) ((hR6.cell (World.block_lt_of_cell? _ _ k1')).trans k1') _ _ _
      have z2 : ((((on ux).setCell ⟨B4, 0, none⟩ (.int .u8 5)).setCell ⟨B4, 1, none⟩ (.int .i64 0)).setCell ⟨B4, 2, none⟩ (.int .i64 0)).cell? ⟨B1, 2, none⟩ = some (.int .i64 Y) := far3 (by omega) ((hR6.cell (World.block_lt_of_cell? _ _ k2')).trans k2') _ _ _
      have z3 : ((((on ux).setCell ⟨B4, 0, none⟩ (.int .u8 5)).setCell ⟨B4, 1, none⟩ (.int .i64 0)).setCell ⟨B4, 2, none⟩ (.int .i64 0)).cell? ⟨g, 0, none⟩ = some (.int .u8 3) := far3 (by omega) ((hR6.cell (World.block_lt_of_cell? _ _ k3')).trans k3') _ _ _
      have z4 : ((((on ux).setCell ⟨B4, 0, none⟩ (.int .u8 5)).setCell ⟨B4, 1, none⟩ (.int .i64 0)).setCell ⟨B4, 2, none⟩ (.int .i64 0)).cell? ⟨g, 1, none⟩ = some (.int .i64 0) := far3 (by omega) ((hR6.cell (World.block_lt_of_cell? _ _ k4')).trans k4') _ _ _
      have z5 : ((((on ux).setCell ⟨B4, 0, none⟩ (.int .u8 5)).setCell ⟨B4, 1, none⟩ (.int .i64 0)).setCell ⟨B4, 2, none⟩ (.int .i64 0)).cell? ⟨g, 2, none⟩ = some (.int .u8 1) := far3 (by omega) ((hR6.cell (World.block_lt_of_cell? _ _ k5')).trans k5') _ _ _
      have z6 : ((((on ux).setCell ⟨B4, 0, none⟩ (.int .u8 5)).setCell ⟨B4, 1, none⟩ (.int .i64 0)).setCell ⟨B4, 2, none⟩ (.int .i64 0)).cell? ⟨g, 3, none⟩ = some (.int .i64 0) := far3 (by omega) ((hR6.cell (World.block_lt_of_cell? _ _ k6')).trans k6') _ _ _
      have z7 : ((((on ux).setCell ⟨B4, 0, none⟩ (.int .u8 5)).setCell ⟨B4, 1, none⟩ (.int .i64 0)).setCell ⟨B4, 2, none⟩ (.int .i64 0)).cell? ⟨g, 4, none⟩ = some (.int .u8 3) := far3 (by omega) ((hR6.cell (World.block_lt_of_cell? _ _ k7')).trans k7') _ _ _
      have z8 : ((((on ux).setCell ⟨B4, 0, none⟩ (.int .u8 5)).setCell ⟨B4, 1, none⟩ (.int .i64 0)).setCell ⟨B4, 2, none⟩ (.int .i64 0)).cell? ⟨g, 5, none⟩ = some (.int .i64 0) := far3 (by omega) ((hR6.cell (World.block_lt_of_cell? _ _ k8')).trans k8') _ _ _
      have z9 : ((((on ux).setCell ⟨B4, 0, none⟩ (.int .u8 5)).setCell ⟨B4, 1, none⟩ (.int .i64 0)).setCell ⟨B4, 2, none⟩ (.int .i64 0)).cell? ⟨g, 6, none⟩ = some (.int .u8 3) := far3 (by omega) ((hR6.cell (World.block_lt_of_cell? _ _ k9')).trans k9') _ _ _
      have z10 : ((((on ux).setCell ⟨B4, 0, none⟩ (.int .u8 5)).setCell ⟨B4, 1, none⟩ (.int .i64 0)).setCell ⟨B4, 2, none⟩ (.int .i64 0)).cell? ⟨g, 7, none⟩ = some (.int .i64 A) := far3 (by omega) ((hR6.cell (World.block_lt_of_cell? _ _ k10')).trans k10') _ _ _
      have z11 : ((((on ux).setCell ⟨B4, 0, none⟩ (.int .u8 5)).setCell ⟨B4, 1, none⟩ (.int .i64 0)).setCell ⟨B4, 2, none⟩ (.int .i64 0)).cell? ⟨g, 8, none⟩ = some (.int .u8 4) := far3 (by omega) ((hR6.cell (World.block_lt_of_cell? _ _ k11')).trans k11') _ _ _
      have z12 : ((((on ux).setCell ⟨B4, 0, none⟩ (.int .u8 5)).setCell ⟨B4, 1, none⟩ (.int .i64 0)).setCell ⟨B4, 2, none⟩ (.int .i64 0)).cell? ⟨g, 9, none⟩ = some (.int .i64 B) := far3 (by omega) ((hR6.cell (World.block_lt_of_cell? _ _ k12')).trans k12') _ _ _
      have z13 : ((((on ux).setCell ⟨B4, 0, none⟩ (.int .u8 5)).setCell ⟨B4, 1, none⟩ (.int .i64 0)).setCell ⟨B4, 2, none⟩ (.int .i64 0)).cell? ⟨g, 10, none⟩ = some (.int .u8 4) := far3 (by omega) ((hR6.cell (World.block_lt_of_cell? _ _ k13')).trans k13') _ _ _
      have z14 : ((((on ux).setCell ⟨B4, 0, none⟩ (.int .u8 5)).setCell ⟨B4, 1, none⟩ (.int .i64 0)).setCell ⟨B4, 2, none⟩ (.int .i64 0)).cell? ⟨g, 11, none⟩ = some (.int .i64 0) := far3 (by omega) ((hR6.cell (World.block_lt_of_cell? _ _ k14')).trans k14') _ _ _
      obtain ⟨u6, hu6, hh6⟩ := stored3c (hB5.trans (hR6.mono hB5.size)) hw0 hh5' (.int .u8 5) (.int .i64 0) (.int .i64 0)
      rw [hu6] at z0 z1 z2 z3 z4 z5 z6 z7 z8 z9 z10 z11 z12 z13 z14 ⊢
      clear hu6 hh5 hh5' hR6 hB5 k0' k1' k2' k3' k4' k5' k6' k7' k8' k9' k10' k11' k12' k13' k14' j0' l0' j1' l1' j2' l2' B500 B501 B502
      clear ux
      go_wp2_with (first | (go_at_call 42; with_reducible refine (check_ok 3 0 _ (by omega) (by omega) (by omega) (by omega)).mono ?_; rintro e wx ⟨rfl, hx⟩; obtain ⟨ux, rfl⟩ := after hx; clear hx) | fail)
      exact ⟨⟨0 + 1, 5, 0, 0, rfl, .inr (.inl ⟨rfl, rfl, rfl, rfl⟩), ⟨_, below_on u6.b ux⟩, rfl, held_on ux hh6, held_c ux z0, held_c ux z1, held_c ux z2, held_c ux z3, held_c ux z4, held_c ux z5, held_c ux z6, held_c ux z7, held_c ux z8, held_c ux z9, held_c ux z10, held_c ux z11, held_c ux z12, held_c ux z13, held_c ux z14⟩, by simp [intOf]⟩
    · go_wp2_with (first | (go_at_call 27; with_reducible refine (LO10 _).mono ?_; rintro e wx ⟨rfl, hx⟩; obtain ⟨ux, rfl⟩ := after hx; clear hx) | fail)
      have hR : Below ((on u0)).heap.size ((on u0)) ((on ux).alloc (.cells #[.int .u8 4, .int .i64 0, .int .i64 0] 51)) := by repeat first | (with_reducible exact Below.refl _ _) | (with_reducible refine below_on ?_ _) | (with_reducible refine below_alloc ?_ _)
      have k0' : ((on ux).alloc (.cells #[.int .u8 4, .int .i64 0, .int .i64 0] 51)).cell? ⟨B1, 0, none⟩ = some (.int .u8 3) := (hR.cell (World.block_lt_of_cell? _ _ k0)).trans k0
      have k1' : ((on ux).alloc (.cells #[.int .u8 4, .int .i64 0, .int .i64 0] 51)).cell? ⟨B1, 1, none⟩ = some (.int .i64 X) := (hR.cell (World.block_lt_of_cell? _ _ k1)).trans k1
      have k2' : ((on ux).alloc (.cells #[.int .u8 4, .int .i64 0, .int .i64 0] 51)).cell? ⟨B1, 2, none⟩ = some (.int .i64 Y) := (hR.cell (World.block_lt_of_cell? _ _ k2)).trans k2
      have k3' : ((on ux).alloc (.cells #[.int .u8 4, .int .i64 0, .int .i64 0] 51)).cell? ⟨g, 0, none⟩ = some (.int .u8 3) := (hR.cell (World.block_lt_of_cell? _ _ k3)).trans k3
      have k4' : ((on ux).alloc (.cells #[.int .u8 4, .int .i64 0, .int .i64 0] 51)).cell? ⟨g, 1, none⟩ = some (.int .i64 0) := (hR.cell (World.block_lt_of_cell? _ _ k4)).trans k4
      have k5' : ((on ux).alloc (.cells #[.int .u8 4, .int .i64 0, .int .i64 0] 51)).cell? ⟨g, 2, none⟩ = some (.int .u8 1) := (hR.cell (World.block_lt_of_cell? _ _ k5)).trans k5
      have k6' : ((on ux).alloc (.cells #[.int .u8 4, .int .i64 0, .int .i64 0] 51)).cell? ⟨g, 3, none⟩ = some (.int .i64 0) := (hR.cell (World.block_lt_of_cell? _ _ k6)).trans k6
      have k7' : ((on ux).alloc (.cells #[.int .u8 4, .int .i64 0, .int .i64 0] 51)).cell? ⟨g, 4, none⟩ = some (.int .u8 3) := (hR.cell (World.block_lt_of_cell? _ _ k7)).trans k7
      have k8' : ((on ux).alloc (.cells #[.int .u8 4, .int .i64 0, .int .i64 0] 51)).cell? ⟨g, 5, none⟩ = some (.int .i64 0) := (hR.cell (World.block_lt_of_cell? _ _ k8)).trans k8
      have k9' : ((on ux).alloc (.cells #[.int .u8 4, .int .i64 0, .int .i64 0] 51)).cell? ⟨g, 6, none⟩ = some (.int .u8 3) := (hR.cell (World.block_lt_of_cell? _ _ k9)).trans k9
      have k10' : ((on ux).alloc (.cells #[.int .u8 4, .int .i64 0, .int .i64 0] 51)).cell? ⟨g, 7, none⟩ = some (.int .i64 A) := (hR.cell (World.block_lt_of_cell? _ _ k10)).trans k10
      have k11' : ((on ux).alloc (.cells #[.int .u8 4, .int .i64 0, .int .i64 0] 51)).cell? ⟨g, 8, none⟩ = some (.int .u8 4) := (hR.cell (World.block_lt_of_cell? _ _ k11)).trans k11
      have k12' : ((on ux).alloc (.cells #[.int .u8 4, .int .i64 0, .int .i64 0] 51)).cell? ⟨g, 9, none⟩ = some (.int .i64 B) := (hR.cell (World.block_lt_of_cell? _ _ k12)).trans k12
      have k13' : ((on ux).alloc (.cells #[.int .u8 4, .int .i64 0, .int .i64 0] 51)).cell? ⟨g, 10, none⟩ = some (.int .u8 4) := (hR.cell (World.block_lt_of_cell? _ _ k13)).trans k13
      have k14' : ((on ux).alloc (.cells #[.int .u8 4, .int .i64 0, .int .i64 0] 51)).cell? ⟨g, 11, none⟩ = some (.int .i64 0) := (hR.cell (World.block_lt_of_cell? _ _ k14)).trans k14
      have j0' : ((on ux).alloc (.cells #[.int .u8 4, .int .i64 0, .int .i64 0] 51)).cell? ⟨B4, 0, none⟩ = some (.int .u8 5) := (hR.cell (World.block_lt_of_cell? _ _ j0)).trans j0
      have l0' : ((on ux).alloc (.cells #[.int .u8 4, .int .i64 0, .int .i64 0] 51)).frozen? ⟨B4, 0, none⟩ = false := (hR.frozen (World.block_lt_of_cell? _ _ j0)).trans l0
      have j1' : ((on ux).alloc (.cells #[.int .u8 4, .int .i64 0, .int .i64 0] 51)).cell? ⟨B4, 1, none⟩ = some (.int .i64 0) := (hR.cell (World.block_lt_of_cell? _ _ j1)).trans j1
      have l1' : ((on ux).alloc (.cells #[.int .u8 4, .int .i64 0, .int .i64 0] 51)).frozen? ⟨B4, 1, none⟩ = false := (hR.frozen (World.block_lt_of_cell? _ _ j1)).trans l1
      have j2' : ((on ux).alloc (.cells #[.int .u8 4, .int .i64 0, .int .i64 0] 51)).cell? ⟨B4, 2, none⟩ = some (.int .i64 0) := (hR.cell (World.block_lt_of_cell? _ _ j2)).trans j2
      have l2' : ((on ux).alloc (.cells #[.int .u8 4, .int .i64 0, .int .i64 0] 51)).frozen? ⟨B4, 2, none⟩ = false := (hR.frozen (World.block_lt_of_cell? _ _ j2)).trans l2
      have B500 : ((on ux).alloc (.cells #[.int .u8 4, .int .i64 0, .int .i64 0] 51)).cell? ⟨(on ux).heap.size, 0, none⟩ = some (.int .u8 4) := by simp [go_sem]
      have B501 : ((on ux).alloc (.cells #[.int .u8 4, .int .i64 0, .int .i64 0] 51)).cell? ⟨(on ux).heap.size, 1, none⟩ = some (.int .i64 0) := by simp [go_sem]
      have B502 : ((on ux).alloc (.cells #[.int .u8 4, .int .i64 0, .int .i64 0] 51)).cell? ⟨(on ux).heap.size, 2, none⟩ = some (.int .i64 0) := by simp [go_sem]
      have hB5 : Below w.heap.size w ((on ux).alloc (.cells #[.int .u8 4, .int .i64 0, .int .i64 0] 51)) := by repeat first | (with_reducible exact hq) | (with_reducible refine below_on ?_ _) | (with_reducible refine below_alloc ?_ _)
      have hR5 := hR
      clear hR k0 k1 k2 k3 k4 k5 k6 k7 k8 k9 k10 k11 k12 k13 k14 j0 j1 j2 l0 l1 l2 hq
      have hh5 : ((on ux).alloc (.cells #[.int .u8 4, .int .i64 0, .int .i64 0] 51)).heap[B4]? = some (.cells #[.int .u8 5, .int .i64 0, .int .i64 0] 51) := (hR5.block _ (held_lt hh)).trans hh
      clear hh hR5
      generalize ((on ux).alloc (.cells #[.int .u8 4, .int .i64 0, .int .i64 0] 51)) = W5 at *
      generalize (on ux).heap.size = B5 at *
      clear ux
      go_wp2_with (first | (go_at_call 30; with_reducible refine (TH1 _ (hS' _ (by repeat first | (with_reducible exact hB5) | (with_reducible refine below_on ?_ _) | (with_reducible refine below_alloc ?_ _) | (with_reducible refine below_set ?_ (by simp; try omega) _)))).mono ?_; rintro e wx ⟨rfl, hx⟩; obtain ⟨ux, rfl⟩ := after hx; clear hx) | fail)
      have hR6 : Below W5.heap.size W5 (on ux) := by repeat first | (with_reducible exact Below.refl _ _) | (with_reducible refine below_on ?_ _) | (with_reducible refine below_drew ?_)
      have hh5' : (on ux).heap[B4]? = some (.cells #[.int .u8 5, .int .i64 0, .int .i64 0] 51) := (hR6.block _ (held_lt hh5)).trans hh5
      have z0 : ((((on ux).setCell ⟨B4, 0, none⟩ (.int .u8 3)).setCell ⟨B4, 1, none⟩ (.int .i64 0)).setCell ⟨B4, 2, none⟩ (.int .i64 0)).cell? ⟨B1, 0, none⟩ = some (.int .u8 3) := far3 (by omega) ((hR6.cell (World.block_lt_of_cell? _ _ k0')).trans k0') _ _ _
      have z1 : ((((on ux).setCell ⟨B4, 0, none⟩ (.int .u8 3)).setCell ⟨B4, 1, none⟩ (.int .i64 0)).setCell ⟨B4, 2, none⟩ (.int .i64 0)).cell? ⟨B1, 1, none⟩ = some (.int .i64 X) := far3 (by omega) ((hR6.cell (World.block_lt_of_cell? _ _ k1')).trans k1') _ _ _
      have z2 : ((((on ux).setCell ⟨B4, 0, none⟩ (.int .u8 3)).setCell ⟨B4, 1, none⟩ (.int .i64 0)).setCell ⟨B4, 2, none⟩ (.int .i64 0)).cell? ⟨B1, 2, none⟩ = some (.int .i64 Y) := far3 (by omega) ((hR6.cell (World.block_lt_of_cell? _ _ k2')).trans k2') _ _ _
      have z3 : ((((on ux).setCell ⟨B4, 0, none⟩ (.int .u8 3)).setCell ⟨B4, 1, none⟩ (.int .i64 0)).setCell ⟨B4, 2, none⟩ (.int .i64 0)).cell? ⟨g, 0, none⟩ = some (.int .u8 3) := far3 (by omega) ((hR6.cell (World.block_lt_of_cell? _ _ k3')).trans k3') _ _ _
      have z4 : ((((on ux).setCell ⟨B4, 0, none⟩ (.int .u8 3)).setCell ⟨B4, 1, none⟩ (.int .i64 0)).setCell ⟨B4, 2, none⟩ (.int .i64 0)).cell? ⟨g, 1, none⟩ = some (.int .i64 0) := far3 (by omega) ((hR6.cell (World.block_lt_of_cell? _ _ k4')).trans k4') _ _ _
      have z5 : ((((on ux).setCell ⟨B4, 0, none⟩ (.int .u8 3)).setCell ⟨B4, 1, none⟩ (.int .i64 0)).setCell ⟨B4, 2, none⟩ (.int .i64 0)).cell? ⟨g, 2, none⟩ = some (.int .u8 1) := far3 (by omega) ((hR6.cell (World.block_lt_of_cell? _ _ k5')).trans k5') _ _ _
      have z6 : ((((on ux).setCell ⟨B4, 0, none⟩ (.int .u8 3)).setCell ⟨B4, 1, none⟩ (.int .i64 0)).setCell ⟨B4, 2, none⟩ (.int .i64 0)).cell? ⟨g, 3, none⟩ = some (.int .i64 0) := far3 (by omega) ((hR6.cell (World.block_lt_of_cell? _ _ k6')).trans k6') _ _ _
      have z7 : ((((on ux).setCell ⟨B4, 0, none⟩ (.int .u8 3)).setCell ⟨B4, 1, none⟩ (.int .i64 0)).setCell ⟨B4, 2, none⟩ (.int .i64 0)).cell? ⟨g, 4, none⟩ = some (.int .u8 3) := far3 (by omega) ((hR6.cell (World.block_lt_of_cell? _ _ k7')).trans k7') _ _ _
      have z8 : ((((on ux).setCell ⟨B4, 0, none⟩ (.int .u8 3)).setCell ⟨B4, 1, none⟩ (.int .i64 0)).setCell ⟨B4, 2, none⟩ (.int .i64 0)).cell? ⟨g, 5, none⟩ = some (.int .i64 0) := far3 (by omega) ((hR6.cell (World.block_lt_of_cell? _ _ k8')).trans k8') _ _ _
      have z9 : ((((on ux).setCell ⟨B4, 0, none⟩ (.int .u8 3)).setCell ⟨B4, 1, none⟩ (.int .i64 0)).setCell ⟨B4, 2, none⟩ (.int .i64 0)).cell? ⟨g, 6, none⟩ = some (.int .u8 3) := far3 (by omega) ((hR6.cell (World.block_lt_of_cell? _ _ k9')).trans k9') _ _ _
      have z10 : ((((on ux).setCell ⟨B4, 0, none⟩ (.int .u8 3)).setCell ⟨B4, 1, none⟩ (.int .i64 0)).setCell ⟨B4, 2, none⟩ (.int .i64 0)).cell? ⟨g, 7, none⟩ = some (.int .i64 A) := far3 (by omega) ((hR6.cell (World.block_lt_of_cell? _ _ k10')).trans k10') _ _ _
      have z11 : ((((on ux).setCell ⟨B4, 0, none⟩ (.int .u8 3)).setCell ⟨B4, 1, none⟩ (.int .i64 0)).setCell ⟨B4, 2, none⟩ (.int .i64 0)).cell? ⟨g, 8, none⟩ = some (.int .u8 4) := far3 (by omega) ((hR6.cell (World.block_lt_of_cell? _ _ k11')).trans k11') _ _ _
      have z12 : ((((on ux).setCell ⟨B4, 0, none⟩ (.int .u8 3)).setCell ⟨B4, 1, none⟩ (.int .i64 0)).setCell ⟨B4, 2, none⟩ (.int .i64 0)).cell? ⟨g, 9, none⟩ = some (.int .i64 B) := far3 (by omega) ((hR6.cell (World.block_lt_of_cell? _ _ k12')).trans k12') _ _ _
      have z13 : ((((on ux).setCell ⟨B4, 0, none⟩ (.int .u8 3)).setCell ⟨B4, 1, none⟩ (.int .i64 0)).setCell ⟨B4, 2, none⟩ (.int .i64 0)).cell? ⟨g, 10, none⟩ = some (.int .u8 4) := far3 (by omega) ((hR6.cell (World.block_lt_of_cell? _ _ k13')).trans k13') _ _ _
      have z14 : ((((on ux).setCell ⟨B4, 0, none⟩ (.int .u8 3)).setCell ⟨B4, 1, none⟩ (.int .i64 0)).setCell ⟨B4, 2, none⟩ (.int .i64 0)).cell? ⟨g, 11, none⟩ = some (.int .i64 0) := far3 (by omega) ((hR6.cell (World.block_lt_of_cell? _ _ k14')).trans k14') _ _ _
      obtain ⟨u6, hu6, hh6⟩ := stored3c (hB5.trans (hR6.mono hB5.size)) hw0 hh5' (.int .u8 3) (.int .i64 0) (.int .i64 0)
      rw [hu6] at z0 z1 z2 z3 z4 z5 z6 z7 z8 z9 z10 z11 z12 z13 z14 ⊢
      clear hu6 hh5 hh5' hR6 hB5 k0' k1' k2' k3' k4' k5' k6' k7' k8' k9' k10' k11' k12' k13' k14' j0' l0' j1' l1' j2' l2' B500 B501 B502
      clear ux
      go_wp2_with (first | (go_at_call 42; with_reducible refine (check_ok 1 0 _ (by omega) (by omega) (by omega) (by omega)).mono ?_; rintro e wx ⟨rfl, hx⟩; obtain ⟨ux, rfl⟩ := after hx; clear hx) | fail)
      exact ⟨⟨1 + 1, 3, 0, 0, rfl, .inr (.inr (.inl ⟨rfl, rfl, rfl, rfl⟩)), ⟨_, below_on u6.b ux⟩, rfl, held_on ux hh6, held_c ux z0, held_c ux z1, held_c ux z2, held_c ux z3, held_c ux z4, held_c ux z5, held_c ux z6, held_c ux z7, held_c ux z8, held_c ux z9, held_c ux z10, held_c ux z11, held_c ux z12, held_c ux z13, held_c ux z14⟩, by simp [intOf]⟩
    · go_wp2_with (first | (go_at_call 27; with_reducible refine (LO30 _).mono ?_; rintro e wx ⟨rfl, hx⟩; obtain ⟨ux, rfl⟩ := after hx; clear hx) | fail)
      have hR : Below ((on u0)).heap.size ((on u0)) ((on ux).alloc (.cells #[.int .u8 5, .int .i64 0, .int .i64 0] 51)) := by repeat first | (with_reducible exact Below.refl _ _) | (with_reducible refine below_on ?_ _) | (with_reducible refine below_alloc ?_ _)
      have k0' : ((on ux).alloc (.cells #[.int .u8 5, .int .i64 0, .int .i64 0] 51)).cell? ⟨B1, 0, none⟩ = some (.int .u8 3) := (hR.cell (World.block_lt_of_cell? _ _ k0)).trans k0
      have k1' : ((on ux).alloc (.cells #[.int .u8 5, .int .i64 0, .int .i64 0] 51)).cell? ⟨B1, 1, none⟩ = some (.int .i64 X) := (hR.cell (World.block_lt_of_cell? _ _ k1)).trans k1
      have k2' : ((on ux).alloc (.cells #[.int .u8 5, .int .i64 0, .int .i64 0] 51)).cell? ⟨B1, 2, none⟩ = some (.int .i64 Y) := (hR.cell (World.block_lt_of_cell? _ _ k2)).trans k2
      have k3' : ((on ux).alloc (.cells #[.int .u8 5, .int .i64 0, .int .i64 0] 51)).cell? ⟨g, 0, none⟩ = some (.int .u8 3) := (hR.cell (World.block_lt_of_cell? _ _ k3)).trans k3
      have k4' : ((on ux).alloc (.cells #[.int .u8 5, .int .i64 0, .int .i64 0] 51)).cell? ⟨g, 1, none⟩ = some (.int .i64 0) := (hR.cell (World.block_lt_of_cell? _ _ k4)).trans k4
      have k5' : ((on ux).alloc (.cells #[.int .u8 5, .int .i64 0, .int .i64 0] 51)).cell? ⟨g, 2, none⟩ = some (.int .u8 1) := (hR.cell (World.block_lt_of_cell? _ _ k5)).trans k5
      have k6' : ((on ux).alloc (.cells #[.int .u8 5, .int .i64 0, .int .i64 0] 51)).cell? ⟨g, 3, none⟩ = some (.int .i64 0) := (hR.cell (World.block_lt_of_cell? _ _ k6)).trans k6
      have k7' : ((on ux).alloc (.cells #[.int .u8 5, .int .i64 0, .int .i64 0] 51)).cell? ⟨g, 4, none⟩ = some (.int .u8 3) := (hR.cell (World.block_lt_of_cell? _ _ k7)).trans k7
      have k8' : ((on ux).alloc (.cells #[.int .u8 5, .int .i64 0, .int .i64 0] 51)).cell? ⟨g, 5, none⟩ = some (.int .i64 0) := (hR.cell (World.block_lt_of_cell? _ _ k8)).trans k8
      have k9' : ((on ux).alloc (.cells #[.int .u8 5, .int .i64 0, .int .i64 0] 51)).cell? ⟨g, 6, none⟩ = some (.int .u8 3) := (hR.cell (World.block_lt_of_cell? _ _ k9)).trans k9
      have k10' : ((on ux).alloc (.cells #[.int .u8 5, .int .i64 0, .int .i64 0] 51)).cell? ⟨g, 7, none⟩ = some (.int .i64 A) := (hR.cell (World.block_lt_of_cell? _ _ k10)).trans k10
      have k11' : ((on ux).alloc (.cells #[.int .u8 5, .int .i64 0, .int .i64 0] 51)).cell? ⟨g, 8, none⟩ = some (.int .u8 4) := (hR.cell (World.block_lt_of_cell? _ _ k11)).trans k11
      have k12' : ((on ux).alloc (.cells #[.int .u8 5, .int .i64 0, .int .i64 0] 51)).cell? ⟨g, 9, none⟩ = some (.int .i64 B) := (hR.cell (World.block_lt_of_cell? _ _ k12)).trans k12
      have k13' : ((on ux).alloc (.cells #[.int .u8 5, .int .i64 0, .int .i64 0] 51)).cell? ⟨g, 10, none⟩ = some (.int .u8 4) := (hR.cell (World.block_lt_of_cell? _ _ k13)).trans k13
      have k14' : ((on ux).alloc (.cells #[.int .u8 5, .int .i64 0, .int .i64 0] 51)).cell? ⟨g, 11, none⟩ = some (.int .i64 0) := (hR.cell (World.block_lt_of_cell? _ _ k14)).trans k14
      have j0' : ((on ux).alloc (.cells #[.int .u8 5, .int .i64 0, .int .i64 0] 51)).cell? ⟨B4, 0, none⟩ = some (.int .u8 3) := (hR.cell (World.block_lt_of_cell? _ _ j0)).trans j0
      have l0' : ((on ux).alloc (.cells #[.int .u8 5, .int .i64 0, .int .i64 0] 51)).frozen? ⟨B4, 0, none⟩ = false := (hR.frozen (World.block_lt_of_cell? _ _ j0)).trans l0
      have j1' : ((on ux).alloc (.cells #[.int .u8 5, .int .i64 0, .int .i64 0] 51)).cell? ⟨B4, 1, none⟩ = some (.int .i64 0) := (hR.cell (World.block_lt_of_cell? _ _ j1)).trans j1
      have l1' : ((on ux).alloc (.cells #[.int .u8 5, .int .i64 0, .int .i64 0] 51)).frozen? ⟨B4, 1, none⟩ = false := (hR.frozen (World.block_lt_of_cell? _ _ j1)).trans l1
      have j2' : ((on ux).alloc (.cells #[.int .u8 5, .int .i64 0, .int .i64 0] 51)).cell? ⟨B4, 2, none⟩ = some (.int .i64 0) := (hR.cell (World.block_lt_of_cell? _ _ j2)).trans j2
      have l2' : ((on ux).alloc (.cells #[.int .u8 5, .int .i64 0, .int .i64 0] 51)).frozen? ⟨B4, 2, none⟩ = false := (hR.frozen (World.block_lt_of_cell? _ _ j2)).trans l2
      have B500 : ((on ux).alloc (.cells #[.int .u8 5, .int .i64 0, .int .i64 0] 51)).cell? ⟨(on ux).heap.size, 0, none⟩ = some (.int .u8 5) := by simp [go_sem]
      have B501 : ((on ux).alloc (.cells #[.int .u8 5, .int .i64 0, .int .i64 0] 51)).cell? ⟨(on ux).heap.size, 1, none⟩ = some (.int .i64 0) := by simp [go_sem]
      have B502 : ((on ux).alloc (.cells #[.int .u8 5, .int .i64 0, .int .i64 0] 51)).cell? ⟨(on ux).heap.size, 2, none⟩ = some (.int .i64 0) := by simp [go_sem]
      have hB5 : Below w.heap.size w ((on ux).alloc (.cells #[.int .u8 5, .int .i64 0, .int .i64 0] 51)) := by repeat first | (with_reducible exact hq) | (with_reducible refine below_on ?_ _) | (with_reducible refine below_alloc ?_ _)
      have hR5 := hR
      clear hR k0 k1 k2 k3 k4 k5 k6 k7 k8 k9 k10 k11 k12 k13 k14 j0 j1 j2 l0 l1 l2 hq
      have hh5 : ((on ux).alloc (.cells #[.int .u8 5, .int .i64 0, .int .i64 0] 51)).heap[B4]? = some (.cells #[.int .u8 3, .int .i64 0, .int .i64 0] 51) := (hR5.block _ (held_lt hh)).trans hh
      clear hh hR5
      generalize ((on ux).alloc (.cells #[.int .u8 5, .int .i64 0, .int .i64 0] 51)) = W5 at *
      generalize (on ux).heap.size = B5 at *
      clear ux
      go_wp2_with (first | (go_at_call 30; with_reducible refine (TH2 _ (hS' _ (by repeat first | (with_reducible exact hB5) | (with_reducible refine below_on ?_ _) | (with_reducible refine below_alloc ?_ _) | (with_reducible refine below_set ?_ (by simp; try omega) _)))).mono ?_; rintro e wx ⟨rfl, hx⟩; obtain ⟨ux, rfl⟩ := after hx; clear hx) | fail)
      have hR6 : Below W5.heap.size W5 (on ux) := by repeat first | (with_reducible exact Below.refl _ _) | (with_reducible refine below_on ?_ _) | (with_reducible refine below_drew ?_)
      have hh5' : (on ux).heap[B4]? = some (.cells #[.int .u8 3, .int .i64 0, .int .i64 0] 51) := (hR6.block _ (held_lt hh5)).trans hh5
      have z0 : ((((on ux).setCell ⟨B4, 0, none⟩ (.int .u8 6)).setCell ⟨B4, 1, none⟩ (.int .i64 0)).setCell ⟨B4, 2, none⟩ (.int .i64 0)).cell? ⟨B1, 0, none⟩ = some (.int .u8 3) := far3 (by omega) ((hR6.cell (World.block_lt_of_cell? _ _ k0')).trans k0') _ _ _
      have z1 : ((((on ux).setCell ⟨B4, 0, none⟩ (.int .u8 6)).setCell ⟨B4, 1, none⟩ (.int .i64 0)).setCell ⟨B4, 2, none⟩ (.int .i64 0)).cell? ⟨B1, 1, none⟩ = some (.int .i64 X) := far3 (by omega) ((hR6.cell (World.block_lt_of_cell? _ _ k1')).trans k1') _ _ _
      have z2 : ((((on ux).setCell ⟨B4, 0, none⟩ (.int .u8 6)).setCell ⟨B4, 1, none⟩ (.int .i64 0)).setCell ⟨B4, 2, none⟩ (.int .i64 0)).cell? ⟨B1, 2, none⟩ = some (.int .i64 Y) := far3 (by omega) ((hR6.cell (World.block_lt_of_cell? _ _ k2')).trans k2') _ _ _
      have z3 : ((((on ux).setCell ⟨B4, 0, none⟩ (.int .u8 6)).setCell ⟨B4, 1, none⟩ (.int .i64 0)).setCell ⟨B4, 2, none⟩ (.int .i64 0)).cell? ⟨g, 0, none⟩ = some (.int .u8 3) := far3 (by omega) ((hR6.cell (World.block_lt_of_cell? _ _ k3')).trans k3') _ _ _
      have z4 : ((((on ux).setCell ⟨B4, 0, none⟩ (.int .u8 6)).setCell ⟨B4, 1, none⟩ (.int .i64 0)).setCell ⟨B4, 2, none⟩ (.int .i64 0)).cell? ⟨g, 1, none⟩ = some (.int .i64 0) := far3 (by omega) ((hR6.cell (World.block_lt_of_cell? _ _ k4')).trans k4') _ _ _
      have z5 : ((((on ux).setCell ⟨B4, 0, none⟩ (.int .u8 6)).setCell ⟨B4, 1, none⟩ (.int .i64 0)).setCell ⟨B4, 2, none⟩ (.int .i64 0)).cell? ⟨g, 2, none⟩ = some (.int .u8 1) := far3 (by omega) ((hR6.cell (World.block_lt_of_cell? _ _ k5')).trans k5') _ _ _
      have z6 : ((((on ux).setCell ⟨B4, 0, none⟩ (.int .u8 6)).setCell ⟨B4, 1, none⟩ (.int .i64 0)).setCell ⟨B4, 2, none⟩ (.int .i64 0)).cell? ⟨g, 3, none⟩ = some (.int .i64 0) := far3 (by omega) ((hR6.cell (World.block_lt_of_cell? _ _ k6')).trans k6') _ _ _
      have z7 : ((((on ux).setCell ⟨B4, 0, none⟩ (.int .u8 6)).setCell ⟨B4, 1, none⟩ (.int .i64 0)).setCell ⟨B4, 2, none⟩ (.int .i64 0)).cell? ⟨g, 4, none⟩ = some (.int .u8 3) := far3 (by omega) ((hR6.cell (World.block_lt_of_cell? _ _ k7')).trans k7') _ _ _
      have z8 : ((((on ux).setCell ⟨B4, 0, none⟩ (.int .u8 6)).setCell ⟨B4, 1, none⟩ (.int .i64 0)).setCell ⟨B4, 2, none⟩ (.int .i64 0)).cell? ⟨g, 5, none⟩ = some (.int .i64 0) := far3 (by omega) ((hR6.cell (World.block_lt_of_cell? _ _ k8')).trans k8') _ _ _
      have z9 : ((((on ux).setCell ⟨B4, 0, none⟩ (.int .u8 6)).setCell ⟨B4, 1, none⟩ (.int .i64 0)).setCell ⟨B4, 2, none⟩ (.int .i64 0)).cell? ⟨g, 6, none⟩ = some (.int .u8 3) := far3 (by omega) ((hR6.cell (World.block_lt_of_cell? _ _ k9')).trans k9') _ _ _
      have z10 : ((((on ux).setCell ⟨B4, 0, none⟩ (.int .u8 6)).setCell ⟨B4, 1, none⟩ (.int .i64 0)).setCell ⟨B4, 2, none⟩ (.int .i64 0)).cell? ⟨g, 7, none⟩ = some (.int .i64 A) := far3 (by omega) ((hR6.cell (World.block_lt_of_cell? _ _ k10')).trans k10') _ _ _
      have z11 : ((((on ux).setCell ⟨B4, 0, none⟩ (.int .u8 6)).setCell ⟨B4, 1, none⟩ (.int .i64 0)).setCell ⟨B4, 2, none⟩ (.int .i64 0)).cell? ⟨g, 8, none⟩ = some (.int .u8 4) := far3 (by omega) ((hR6.cell (World.block_lt_of_cell? _ _ k11')).trans k11') _ _ _
      have z12 : ((((on ux).setCell ⟨B4, 0, none⟩ (.int .u8 6)).setCell ⟨B4, 1, none⟩ (.int .i64 0)).setCell ⟨B4, 2, none⟩ (.int .i64 0)).cell? ⟨g, 9, none⟩ = some (.int .i64 B) := far3 (by omega) ((hR6.cell (World.block_lt_of_cell? _ _ k12')).trans k12') _ _ _
      have z13 : ((((on ux).setCell ⟨B4, 0, none⟩ (.int .u8 6)).setCell ⟨B4, 1, none⟩ (.int .i64 0)).setCell ⟨B4, 2, none⟩ (.int .i64 0)).cell? ⟨g, 10, none⟩ = some (.int .u8 4) := far3 (by omega) ((hR6.cell (World.block_lt_of_cell? _ _ k13')).trans k13') _ _ _
      have z14 : ((((on ux).setCell ⟨B4, 0, none⟩ (.int .u8 6)).setCell ⟨B4, 1, none⟩ (.int .i64 0)).setCell ⟨B4, 2, none⟩ (.int .i64 0)).cell? ⟨g, 11, none⟩ = some (.int .i64 0) := far3 (by omega) ((hR6.cell (World.block_lt_of_cell? _ _ k14')).trans k14') _ _ _
      obtain ⟨u6, hu6, hh6⟩ := stored3c (hB5.trans (hR6.mono hB5.size)) hw0 hh5' (.int .u8 6) (.int .i64 0) (.int .i64 0)
      rw [hu6] at z0 z1 z2 z3 z4 z5 z6 z7 z8 z9 z10 z11 z12 z13 z14 ⊢
      clear hu6 hh5 hh5' hR6 hB5 k0' k1' k2' k3' k4' k5' k6' k7' k8' k9' k10' k11' k12' k13' k14' j0' l0' j1' l1' j2' l2' B500 B501 B502
      clear ux
      go_wp2_with (first | (go_at_call 42; with_reducible refine (check_ok 3 0 _ (by omega) (by omega) (by omega) (by omega)).mono ?_; rintro e wx ⟨rfl, hx⟩; obtain ⟨ux, rfl⟩ := after hx; clear hx) | fail)
      exact ⟨⟨2 + 1, 6, 0, 0, rfl, .inr (.inr (.inr (.inl ⟨rfl, rfl, rfl, rfl⟩))), ⟨_, below_on u6.b ux⟩, rfl, held_on ux hh6, held_c ux z0, held_c ux z1, held_c ux z2, held_c ux z3, held_c ux z4, held_c ux z5, held_c ux z6, held_c ux z7, held_c ux z8, held_c ux z9, held_c ux z10, held_c ux z11, held_c ux z12, held_c ux z13, held_c ux z14⟩, by simp [intOf]⟩
    · go_wp2_with (first | (go_at_call 27; with_reducible refine (LO3A _).mono ?_; rintro e wx ⟨rfl, hx⟩; obtain ⟨ux, rfl⟩ := after hx; clear hx) | fail)
      have hR : Below ((on u0)).heap.size ((on u0)) ((on ux).alloc (.cells #[.int .u8 5, .int .i64 A, .int .i64 A] 51)) := by repeat first | (with_reducible exact Below.refl _ _) | (with_reducible refine below_on ?_ _) | (with_reducible refine below_alloc ?_ _)
      have k0' : ((on ux).alloc (.cells #[.int .u8 5, .int .i64 A, .int .i64 A] 51)).cell? ⟨B1, 0, none⟩ = some (.int .u8 3) := (hR.cell (World.block_lt_of_cell? _ _ k0)).trans k0
      have k1' : ((on ux).alloc (.cells #[.int .u8 5, .int .i64 A, .int .i64 A] 51)).cell? ⟨B1, 1, none⟩ = some (.int .i64 X) := (hR.cell (World.block_lt_of_cell? _ _ k1)).trans k1
      have k2' : ((on ux).alloc (.cells #[.int .u8 5, .int .i64 A, .int .i64 A] 51)).cell? ⟨B1, 2, none⟩ = some (.int .i64 Y) := (hR.cell (World.block_lt_of_cell? _ _ k2)).trans k2
      have k3' : ((on ux).alloc (.cells #[.int .u8 5, .int .i64 A, .int .i64 A] 51)).cell? ⟨g, 0, none⟩ = some (.int .u8 3) := (hR.cell (World.block_lt_of_cell? _ _ k3)).trans k3
      have k4' : ((on ux).alloc (.cells #[.int .u8 5, .int .i64 A, .int .i64 A] 51)).cell? ⟨g, 1, none⟩ = some (.int .i64 0) := (hR.cell (World.block_lt_of_cell? _ _ k4)).trans k4
      have k5' : ((on ux).alloc (.cells #[.int .u8 5, .int .i64 A, .int .i64 A] 51)).cell? ⟨g, 2, none⟩ = some (.int .u8 1) := (hR.cell (World.block_lt_of_cell? _ _ k5)).trans k5
      have k6' : ((on ux).alloc (.cells #[.int .u8 5, .int .i64 A, .int .i64 A] 51)).cell? ⟨g, 3, none⟩ = some (.int .i64 0) := (hR.cell (World.block_lt_of_cell? _ _ k6)).trans k6
      have k7' : ((on ux).alloc (.cells #[.int .u8 5, .int .i64 A, .int .i64 A] 51)).cell? ⟨g, 4, none⟩ = some (.int .u8 3) := (hR.cell (World.block_lt_of_cell? _ _ k7)).trans k7
      have k8' : ((on ux).alloc (.cells #[.int .u8 5, .int .i64 A, .int .i64 A] 51)).cell? ⟨g, 5, none⟩ = some (.int .i64 0) := (hR.cell (World.block_lt_of_cell? _ _ k8)).trans k8
      have k9' : ((on ux).alloc (.cells #[.int .u8 5, .int .i64 A, .int .i64 A] 51)).cell? ⟨g, 6, none⟩ = some (.int .u8 3) := (hR.cell (World.block_lt_of_cell? _ _ k9)).trans k9
      have k10' : ((on ux).alloc (.cells #[.int .u8 5, .int .i64 A, .int .i64 A] 51)).cell? ⟨g, 7, none⟩ = some (.int .i64 A) := (hR.cell (World.block_lt_of_cell? _ _ k10)).trans k10
      have k11' : ((on ux).alloc (.cells #[.int .u8 5, .int .i64 A, .int .i64 A] 51)).cell? ⟨g, 8, none⟩ = some (.int .u8 4) := (hR.cell (World.block_lt_of_cell? _ _ k11)).trans k11
      have k12' : ((on ux).alloc (.cells #[.int .u8 5, .int .i64 A, .int .i64 A] 51)).cell? ⟨g, 9, none⟩ = some (.int .i64 B) := (hR.cell (World.block_lt_of_cell? _ _ k12)).trans k12
      have k13' : ((on ux).alloc (.cells #[.int .u8 5, .int .i64 A, .int .i64 A] 51)).cell? ⟨g, 10, none⟩ = some (.int .u8 4) := (hR.cell (World.block_lt_of_cell? _ _ k13)).trans k13
      have k14' : ((on ux).alloc (.cells #[.int .u8 5, .int .i64 A, .int .i64 A] 51)).cell? ⟨g, 11, none⟩ = some (.int .i64 0) := (hR.cell (World.block_lt_of_cell? _ _ k14)).trans k14
      have j0' : ((on ux).alloc (.cells #[.int .u8 5, .int .i64 A, .int .i64 A] 51)).cell? ⟨B4, 0, none⟩ = some (.int .u8 6) := (hR.cell (World.block_lt_of_cell? _ _ j0)).trans j0
      have l0' : ((on ux).alloc (.cells #[.int .u8 5, .int .i64 A, .int .i64 A] 51)).frozen? ⟨B4, 0, none⟩ = false := (hR.frozen (World.block_lt_of_cell? _ _ j0)).trans l0
      have j1' : ((on ux).alloc (.cells #[.int .u8 5, .int .i64 A, .int .i64 A] 51)).cell? ⟨B4, 1, none⟩ = some (.int .i64 0) := (hR.cell (World.block_lt_of_cell? _ _ j1)).trans j1
      have l1' : ((on ux).alloc (.cells #[.int .u8 5, .int .i64 A, .int .i64 A] 51)).frozen? ⟨B4, 1, none⟩ = false := (hR.frozen (World.block_lt_of_cell? _ _ j1)).trans l1
      have j2' : ((on ux).alloc (.cells #[.int .u8 5, .int .i64 A, .int .i64 A] 51)).cell? ⟨B4, 2, none⟩ = some (.int .i64 0) := (hR.cell (World.block_lt_of_cell? _ _ j2)).trans j2
      have l2' : ((on ux).alloc (.cells #[.int .u8 5, .int .i64 A, .int .i64 A] 51)).frozen? ⟨B4, 2, none⟩ = false := (hR.frozen (World.block_lt_of_cell? _ _ j2)).trans l2
      have B500 : ((on ux).alloc (.cells #[.int .u8 5, .int .i64 A, .int .i64 A] 51)).cell? ⟨(on ux).heap.size, 0, none⟩ = some (.int .u8 5) := by simp [go_sem]
      have B501 : ((on ux).alloc (.cells #[.int .u8 5, .int .i64 A, .int .i64 A] 51)).cell? ⟨(on ux).heap.size, 1, none⟩ = some (.int .i64 A) := by simp [go_sem]
      have B502 : ((on ux).alloc (.cells #[.int .u8 5, .int .i64 A, .int .i64 A] 51)).cell? ⟨(on ux).heap.size, 2, none⟩ = some (.int .i64 A) := by simp [go_sem]
      have hB5 : Below w.heap.size w ((on ux).alloc (.cells #[.int .u8 5, .int .i64 A, .int .i64 A] 51)) := by repeat first | (with_reducible exact hq) | (with_reducible refine below_on ?_ _) | (with_reducible refine below_alloc ?_ _)
      have hR5 := hR
      clear hR k0 k1 k2 k3 k4 k5 k6 k7 k8 k9 k10 k11 k12 k13 k14 j0 j1 j2 l0 l1 l2 hq
      have hh5 : ((on ux).alloc (.cells #[.int .u8 5, .int .i64 A, .int .i64 A] 51)).heap[B4]? = some (.cells #[.int .u8 6, .int .i64 0, .int .i64 0] 51) := (hR5.block _ (held_lt hh)).trans hh
      clear hh hR5
      generalize ((on ux).alloc (.cells #[.int .u8 5, .int .i64 A, .int .i64 A] 51)) = W5 at *
      generalize (on ux).heap.size = B5 at *
      clear ux
      go_wp2_with (first | (go_at_call 30; with_reducible refine (TH3 _ (hS' _ (by repeat first | (with_reducible exact hB5) | (with_reducible refine below_on ?_ _) | (with_reducible refine below_alloc ?_ _) | (with_reducible refine below_set ?_ (by simp; try omega) _)))).mono ?_; rintro e wx ⟨rfl, hx⟩; obtain ⟨ux, rfl⟩ := after hx; clear hx) | fail)
      have hR6 : Below W5.heap.size W5 (on ux) := by repeat first | (with_reducible exact Below.refl _ _) | (with_reducible refine below_on ?_ _) | (with_reducible refine below_drew ?_)
      have hh5' : (on ux).heap[B4]? = some (.cells #[.int .u8 6, .int .i64 0, .int .i64 0] 51) := (hR6.block _ (held_lt hh5)).trans hh5
      have z0 : ((((on ux).setCell ⟨B4, 0, none⟩ (.int .u8 3)).setCell ⟨B4, 1, none⟩ (.int .i64 A)).setCell ⟨B4, 2, none⟩ (.int .i64 A)).cell? ⟨B1, 0, none⟩ = some (.int .u8 3) := far3 (by omega) ((hR6.cell (World.block_lt_of_cell? _ _ k0')).trans k0') _ _ _
      have z1 : ((((on ux).setCell ⟨B4, 0, none⟩ (.int .u8 3)).setCell ⟨B4, 1, none⟩ (.int .i64 A)).setCell ⟨B4, 2, none⟩ (.int .i64 A)).cell? ⟨B1, 1, none⟩ = some (.int .i64 X) := far3 (by omega) ((hR6.cell (World.block_lt_of_cell? _ _ k1')).trans k1') _ _ _
      have z2 : ((((on ux).setCell ⟨B4, 0, none⟩ (.int .u8 3)).setCell ⟨B4, 1, none⟩ (.int .i64 A)).setCell ⟨B4, 2, none⟩ (.int .i64 A)).cell? ⟨B1, 2, none⟩ = some (.int .i64 Y) := far3 (by omega) ((hR6.cell (World.block_lt_of_cell? _ _ k2')).trans k2') _ _ _
      have z3 : ((((on ux).setCell ⟨B4, 0, none⟩ (.int .u8 3)).setCell ⟨B4, 1, none⟩ (.int .i64 A)).setCell ⟨B4, 2, none⟩ (.int .i64 A)).cell? ⟨g, 0, none⟩ = some (.int .u8 3) := far3 (by omega) ((hR6.cell (World.block_lt_of_cell? _ _ k3')).trans k3') _ _ _
      have z4 : ((((on ux).setCell ⟨B4, 0, none⟩ (.int .u8 3)).setCell ⟨B4, 1, none⟩ (.int .i64 A)).setCell ⟨B4, 2, none⟩ (.int .i64 A)).cell? ⟨g, 1, none⟩ = some (.int .i64 0) := far3 (by omega) ((hR6.cell (World.block_lt_of_cell? _ _ k4')).trans k4') _ _ _
      have z5 : ((((on ux).setCell ⟨B4, 0, none⟩ (.int .u8 3)).setCell ⟨B4, 1, none⟩ (.int .i64 A)).setCell ⟨B4, 2, none⟩ (.int .i64 A)).cell? ⟨g, 2, none⟩ = some (.int .u8 1) := far3 (by omega) ((hR6.cell (World.block_lt_of_cell? _ _ k5')).trans k5') _ _ _
      have z6 : ((((on ux).setCell ⟨B4, 0, none⟩ (.int .u8 3)).setCell ⟨B4, 1, none⟩ (.int .i64 A)).setCell ⟨B4, 2, none⟩ (.int .i64 A)).cell? ⟨g, 3, none⟩ = some (.int .i64 0) := far3 (by omega) ((hR6.cell (World.block_lt_of_cell? _ _ k6')).trans k6') _ _ _
      have z7 : ((((on ux).setCell ⟨B4, 0, none⟩ (.int .u8 3)).setCell ⟨B4, 1, none⟩ (.int .i64 A)).setCell ⟨B4, 2, none⟩ (.int .i64 A)).cell? ⟨g, 4, none⟩ = some (.int .u8 3) := far3 (by omega) ((hR6.cell (World.block_lt_of_cell? _ _ k7')).trans k7') _ _ _
      have z8 : ((((on ux).setCell ⟨B4, 0, none⟩ (.int .u8 3)).setCell ⟨B4, 1, none⟩ (.int .i64 A)).setCell ⟨B4, 2, none⟩ (.int .i64 A)).cell? ⟨g, 5, none⟩ = some (.int .i64 0) := far3 (by omega) ((hR6.cell (World.block_lt_of_cell? _ _ k8')).trans k8') _ _ _
      have z9 : ((((on ux).setCell ⟨B4, 0, none⟩ (.int .u8 3)).setCell ⟨B4, 1, none⟩ (.int .i64 A)).setCell ⟨B4, 2, none⟩ (.int .i64 A)).cell? ⟨g, 6, none⟩ = some (.int .u8 3) := far3 (by omega) ((hR6.cell (World.block_lt_of_cell? _ _ k9')).trans k9') _ _ _
      have z10 : ((((on ux).setCell ⟨B4, 0, none⟩ (.int .u8 3)).setCell ⟨B4, 1, none⟩ (.int .i64 A)).setCell ⟨B4, 2, none⟩ (.int .i64 A)).cell? ⟨g, 7, none⟩ = some (.int .i64 A) := far3 (by omega) ((hR6.cell (World.block_lt_of_cell? _ _ k10')).trans k10') _ _ _
      have z11 : ((((on ux).setCell ⟨B4, 0, none⟩ (.int .u8 3)).setCell ⟨B4, 1, none⟩ (.int .i64 A)).setCell ⟨B4, 2, none⟩ (.int .i64 A)).cell? ⟨g, 8, none⟩ = some (.int .u8 4) := far3 (by omega) ((hR6.cell (World.block_lt_of_cell? _ _ k11')).trans k11') _ _ _
      have z12 : ((((on ux).setCell ⟨B4, 0, none⟩ (.int .u8 3)).setCell ⟨B4, 1, none⟩ (.int .i64 A)).setCell ⟨B4, 2, none⟩ (.int .i64 A)).cell? ⟨g, 9, none⟩ = some (.int .i64 B) := far3 (by omega) ((hR6.cell (World.block_lt_of_cell? _ _ k12')).trans k12') _ _ _
      have z13 : ((((on ux).setCell ⟨B4, 0, none⟩ (.int .u8 3)).setCell ⟨B4, 1, none⟩ (.int .i64 A)).setCell ⟨B4, 2, none⟩ (.int .i64 A)).cell? ⟨g, 10, none⟩ = some (.int .u8 4) := far3 (by omega) ((hR6.cell (World.block_lt_of_cell? _ _ k13')).trans k13') _ _ _
      have z14 : ((((on ux).setCell ⟨B4, 0, none⟩ (.int .u8 3)).setCell ⟨B4, 1, none⟩ (.int .i64 A)).setCell ⟨B4, 2, none⟩ (.int .i64 A)).cell? ⟨g, 11, none⟩ = some (.int .i64 0) := far3 (by omega) ((hR6.cell (World.block_lt_of_cell? _ _ k14')).trans k14') _ _ _
      obtain ⟨u6, hu6, hh6⟩ := stored3c (hB5.trans (hR6.mono hB5.size)) hw0 hh5' (.int .u8 3) (.int .i64 A) (.int .i64 A)
      rw [hu6] at z0 z1 z2 z3 z4 z5 z6 z7 z8 z9 z10 z11 z12 z13 z14 ⊢
      clear hu6 hh5 hh5' hR6 hB5 k0' k1' k2' k3' k4' k5' k6' k7' k8' k9' k10' k11' k12' k13' k14' j0' l0' j1' l1' j2' l2' B500 B501 B502
      clear ux
      go_wp2_with (first | (go_at_call 42; with_reducible refine (check_ok 3 A _ (by omega) (by omega) (by omega) (by omega)).mono ?_; rintro e wx ⟨rfl, hx⟩; obtain ⟨ux, rfl⟩ := after hx; clear hx) | fail)
      exact ⟨⟨3 + 1, 3, A, A, rfl, .inr (.inr (.inr (.inr (.inl ⟨rfl, rfl, rfl, rfl⟩)))), ⟨_, below_on u6.b ux⟩, rfl, held_on ux hh6, held_c ux z0, held_c ux z1, held_c ux z2, held_c ux z3, held_c ux z4, held_c ux z5, held_c ux z6, held_c ux z7, held_c ux z8, held_c ux z9, held_c ux z10, held_c ux z11, held_c ux z12, held_c ux z13, held_c ux z14⟩, by simp [intOf]⟩
    · go_wp2_with (first | (go_at_call 27; with_reducible refine (LO4B _).mono ?_; rintro e wx ⟨rfl, hx⟩; obtain ⟨ux, rfl⟩ := after hx; clear hx) | fail)
      have hR : Below ((on u0)).heap.size ((on u0)) ((on ux).alloc (.cells #[.int .u8 7, .int .i64 (-B), .int .i64 B] 51)) := by repeat first | (with_reducible exact Below.refl _ _) | (with_reducible refine below_on ?_ _) | (with_reducible refine below_alloc ?_ _)
      have k0' : ((on ux).alloc (.cells #[.int .u8 7, .int .i64 (-B), .int .i64 B] 51)).cell? ⟨B1, 0, none⟩ = some (.int .u8 3) := (hR.cell (World.block_lt_of_cell? _ _ k0)).trans k0
      have k1' : ((on ux).alloc (.cells #[.int .u8 7, .int .i64 (-B), .int .i64 B] 51)).cell? ⟨B1, 1, none⟩ = some (.int .i64 X) := (hR.cell (World.block_lt_of_cell? _ _ k1)).trans k1
      have k2' : ((on ux).alloc (.cells #[.int .u8 7, .int .i64 (-B), .int .i64 B] 51)).cell? ⟨B1, 2, none⟩ = some (.int .i64 Y) := (hR.cell (World.block_lt_of_cell? _ _ k2)).trans k2
      have k3' : ((on ux).alloc (.cells #[.int .u8 7, .int .i64 (-B), .int .i64 B] 51)).cell? ⟨g, 0, none⟩ = some (.int .u8 3) := (hR.cell (World.block_lt_of_cell? _ _ k3)).trans k3
      have k4' : ((on ux).alloc (.cells #[.int .u8 7, .int .i64 (-B), .int .i64 B] 51)).cell? ⟨g, 1, none⟩ = some (.int .i64 0) := (hR.cell (World.block_lt_of_cell? _ _ k4)).trans k4
      have k5' : ((on ux).alloc (.cells #[.int .u8 7, .int .i64 (-B), .int .i64 B] 51)).cell? ⟨g, 2, none⟩ = some (.int .u8 1) := (hR.cell (World.block_lt_of_cell? _ _ k5)).trans k5
      have k6' : ((on ux).alloc (.cells #[.int .u8 7, .int .i64 (-B), .int .i64 B] 51)).cell? ⟨g, 3, none⟩ = some (.int .i64 0) := (hR.cell (World.block_lt_of_cell? _ _ k6)).trans k6
      have k7' : ((on ux).alloc (.cells #[.int .u8 7, .int .i64 (-B), .int .i64 B] 51)).cell? ⟨g, 4, none⟩ = some (.int .u8 3) := (hR.cell (World.block_lt_of_cell? _ _ k7)).trans k7
      have k8' : ((on ux).alloc (.cells #[.int .u8 7, .int .i64 (-B), .int .i64 B] 51)).cell? ⟨g, 5, none⟩ = some (.int .i64 0) := (hR.cell (World.block_lt_of_cell? _ _ k8)).trans k8
      have k9' : ((on ux).alloc (.cells #[.int .u8 7, .int .i64 (-B), .int .i64 B] 51)).cell? ⟨g, 6, none⟩ = some (.int .u8 3) := (hR.cell (World.block_lt_of_cell? _ _ k9)).trans k9
      have k10' : ((on ux).alloc (.cells #[.int .u8 7, .int .i64 (-B), .int .i64 B] 51)).cell? ⟨g, 7, none⟩ = some (.int .i64 A) := (hR.cell (World.block_lt_of_cell? _ _ k10)).trans k10
      have k11' : ((on ux).alloc (.cells #[.int .u8 7, .int .i64 (-B), .int .i64 B] 51)).cell? ⟨g, 8, none⟩ = some (.int .u8 4) := (hR.cell (World.block_lt_of_cell? _ _ k11)).trans k11
      have k12' : ((on ux).alloc (.cells #[.int .u8 7, .int .i64 (-B), .int .i64 B] 51)).cell? ⟨g, 9, none⟩ = some (.int .i64 B) := (hR.cell (World.block_lt_of_cell? _ _ k12)).trans k12
      have k13' : ((on ux).alloc (.cells #[.int .u8 7, .int .i64 (-B), .int .i64 B] 51)).cell? ⟨g, 10, none⟩ = some (.int .u8 4) := (hR.cell (World.block_lt_of_cell? _ _ k13)).trans k13
      have k14' : ((on ux).alloc (.cells #[.int .u8 7, .int .i64 (-B), .int .i64 B] 51)).cell? ⟨g, 11, none⟩ = some (.int .i64 0) := (hR.cell (World.block_lt_of_cell? _ _ k14)).trans k14
      have j0' : ((on ux).alloc (.cells #[.int .u8 7, .int .i64 (-B), .int .i64 B] 51)).cell? ⟨B4, 0, none⟩ = some (.int .u8 3) := (hR.cell (World.block_lt_of_cell? _ _ j0)).trans j0
      have l0' : ((on ux).alloc (.cells #[.int .u8 7, .int .i64 (-B), .int .i64 B] 51)).frozen? ⟨B4, 0, none⟩ = false := (hR.frozen (World.block_lt_of_cell? _ _ j0)).trans l0
      have j1' : ((on ux).alloc (.cells #[.int .u8 7, .int .i64 (-B), .int .i64 B] 51)).cell? ⟨B4, 1, none⟩ = some (.int .i64 A) := (hR.cell (World.block_lt_of_cell? _ _ j1)).trans j1
      have l1' : ((on ux).alloc (.cells #[.int .u8 7, .int .i64 (-B), .int .i64 B] 51)).frozen? ⟨B4, 1, none⟩ = false := (hR.frozen (World.block_lt_of_cell? _ _ j1)).trans l1
      have j2' : ((on ux).alloc (.cells #[.int .u8 7, .int .i64 (-B), .int .i64 B] 51)).cell? ⟨B4, 2, none⟩ = some (.int .i64 A) := (hR.cell (World.block_lt_of_cell? _ _ j2)).trans j2
      have l2' : ((on ux).alloc (.cells #[.int .u8 7, .int .i64 (-B), .int .i64 B] 51)).frozen? ⟨B4, 2, none⟩ = false := (hR.frozen (World.block_lt_of_cell? _ _ j2)).trans l2
      have B500 : ((on ux).alloc (.cells #[.int .u8 7, .int .i64 (-B), .int .i64 B] 51)).cell? ⟨(on ux).heap.size, 0, none⟩ = some (.int .u8 7) := by simp [go_sem]
      have B501 : ((on ux).alloc (.cells #[.int .u8 7, .int .i64 (-B), .int .i64 B] 51)).cell? ⟨(on ux).heap.size, 1, none⟩ = some (.int .i64 (-B)) := by simp [go_sem]
      have B502 : ((on ux).alloc (.cells #[.int .u8 7, .int .i64 (-B), .int .i64 B] 51)).cell? ⟨(on ux).heap.size, 2, none⟩ = some (.int .i64 B) := by simp [go_sem]
      have hB5 : Below w.heap.size w ((on ux).alloc (.cells #[.int .u8 7, .int .i64 (-B), .int .i64 B] 51)) := by repeat first | (with_reducible exact hq) | (with_reducible refine below_on ?_ _) | (with_reducible refine below_alloc ?_ _)
      have hR5 := hR
      clear hR k0 k1 k2 k3 k4 k5 k6 k7 k8 k9 k10 k11 k12 k13 k14 j0 j1 j2 l0 l1 l2 hq
      have hh5 : ((on ux).alloc (.cells #[.int .u8 7, .int .i64 (-B), .int .i64 B] 51)).heap[B4]? = some (.cells #[.int .u8 3, .int .i64 A, .int .i64 A] 51) := (hR5.block _ (held_lt hh)).trans hh
      clear hh hR5
      generalize ((on ux).alloc (.cells #[.int .u8 7, .int .i64 (-B), .int .i64 B] 51)) = W5 at *
      generalize (on ux).heap.size = B5 at *
      clear ux
      go_wp2_with (first | (go_at_call 30; with_reducible refine (TH4 _ (hS' _ (by repeat first | (with_reducible exact hB5) | (with_reducible refine below_on ?_ _) | (with_reducible refine below_alloc ?_ _) | (with_reducible refine below_set ?_ (by simp; try omega) _)))).mono ?_; rintro e wx ⟨rfl, hx⟩; obtain ⟨ux, rfl⟩ := after hx; clear hx) | fail)
      have hR6 : Below W5.heap.size W5 (on ux) := by repeat first | (with_reducible exact Below.refl _ _) | (with_reducible refine below_on ?_ _) | (with_reducible refine below_drew ?_)
      have hh5' : (on ux).heap[B4]? = some (.cells #[.int .u8 3, .int .i64 A, .int .i64 A] 51) := (hR6.block _ (held_lt hh5)).trans hh5
      have z0 : ((((on ux).setCell ⟨B4, 0, none⟩ (.int .u8 4)).setCell ⟨B4, 1, none⟩ (.int .i64 (A - B))).setCell ⟨B4, 2, none⟩ (.int .i64 (A + B))).cell? ⟨B1, 0, none⟩ = some (.int .u8 3) := far3 (by omega) ((hR6.cell (World.block_lt_of_cell? _ _ k0')).trans k0') _ _ _
      have z1 : ((((on ux).setCell ⟨B4, 0, none⟩ (.int .u8 4)).setCell ⟨B4, 1, none⟩ (.int .i64 (A - B))).setCell ⟨B4, 2, none⟩ (.int .i64 (A + B))).cell? ⟨B1, 1, none⟩ = some (.int .i64 X) := far3 (by omega) ((hR6.cell (World.block_lt_of_cell? _ _ k1')).trans k1') _ _ _
      have z2 : ((((on ux).setCell ⟨B4, 0, none⟩ (.int .u8 4)).setCell ⟨B4, 1, none⟩ (.int .i64 (A - B))).setCell ⟨B4, 2, none⟩ (.int .i64 (A + B))).cell? ⟨B1, 2, none⟩ = some (.int .i64 Y) := far3 (by omega) ((hR6.cell (World.block_lt_of_cell? _ _ k2')).trans k2') _ _ _
      have z3 : ((((on ux).setCell ⟨B4, 0, none⟩ (.int .u8 4)).setCell ⟨B4, 1, none⟩ (.int .i64 (A - B))).setCell ⟨B4, 2, none⟩ (.int .i64 (A + B))).cell? ⟨g, 0, none⟩ = some (.int .u8 3) := far3 (by omega) ((hR6.cell (World.block_lt_of_cell? _ _ k3')).trans k3') _ _ _
      have z4 : ((((on ux).setCell ⟨B4, 0, none⟩ (.int .u8 4)).setCell ⟨B4, 1, none⟩ (.int .i64 (A - B))).setCell ⟨B4, 2, none⟩ (.int .i64 (A + B))).cell? ⟨g, 1, none⟩ = some (.int .i64 0) := far3 (by omega) ((hR6.cell (World.block_lt_of_cell? _ _ k4')).trans k4') _ _ _
      have z5 : ((((on ux).setCell ⟨B4, 0, none⟩ (.int .u8 4)).setCell ⟨B4, 1, none⟩ (.int .i64 (A - B))).setCell ⟨B4, 2, none⟩ (.int .i64 (A + B))).cell? ⟨g, 2, none⟩ = some (.int .u8 1) := far3 (by omega) ((hR6.cell (World.block_lt_of_cell? _ _ k5')).trans k5') _ _ _
      have z6 : ((((on ux).setCell ⟨B4, 0, none⟩ (.int .u8 4)).setCell ⟨B4, 1, none⟩ (.int .i64 (A - B))).setCell ⟨B4, 2, none⟩ (.int .i64 (A + B))).cell? ⟨g, 3, none⟩ = some (.int .i64 0) := far3 (by omega) ((hR6.cell (World.block_lt_of_cell? _ _ k6')).trans k6') _ _ _
      have z7 : ((((on ux).setCell ⟨B4, 0, none⟩ (.int .u8 4)).setCell ⟨B4, 1, none⟩ (.int .i64 (A - B))).setCell ⟨B4, 2, none⟩ (.int .i64 (A + B))).cell? ⟨g, 4, none⟩ = some (.int .u8 3) := far3 (by omega) ((hR6.cell (World.block_lt_of_cell? _ _ k7')).trans k7') _ _ _
      have z8 : ((((on ux).setCell ⟨B4, 0, none⟩ (.int .u8 4)).setCell ⟨B4, 1, none⟩ (.int .i64 (A - B))).setCell ⟨B4, 2, none⟩ (.int .i64 (A + B))).cell? ⟨g, 5, none⟩ = some (.int .i64 0) := far3 (by omega) ((hR6.cell (World.block_lt_of_cell? _ _ k8')).trans k8') _ _ _
      have z9 : ((((on ux).setCell ⟨B4, 0, none⟩ (.int .u8 4)).setCell ⟨B4, 1, none⟩ (.int .i64 (A - B))).setCell ⟨B4, 2, none⟩ (.int .i64 (A + B))).cell? ⟨g, 6, none⟩ = some (.int .u8 3) := far3 (by omega) ((hR6.cell (World.block_lt_of_cell? _ _ k9')).trans k9') _ _ _
      have z10 : ((((on ux).setCell ⟨B4, 0, none⟩ (.int .u8 4)).setCell ⟨B4, 1, none⟩ (.int .i64 (A - B))).setCell ⟨B4, 2, none⟩ (.int .i64 (A + B))).cell? ⟨g, 7, none⟩ = some (.int .i64 A) := far3 (by omega) ((hR6.cell (World.block_lt_of_cell? _ _ k10')).trans k10') _ _ _
      have z11 : ((((on ux).setCell ⟨B4, 0, none⟩ (.int .u8 4)).setCell ⟨B4, 1, none⟩ (.int .i64 (A - B))).setCell ⟨B4, 2, none⟩ (.int .i64 (A + B))).cell? ⟨g, 8, none⟩ = some (.int .u8 4) := far3 (by omega) ((hR6.cell (World.block_lt_of_cell? _ _ k11')).trans k11') _ _ _
      have z12 : ((((on ux).setCell ⟨B4, 0, none⟩ (.int .u8 4)).setCell ⟨B4, 1, none⟩ (.int .i64 (A - B))).setCell ⟨B4, 2, none⟩ (.int .i64 (A + B))).cell? ⟨g, 9, none⟩ = some (.int .i64 B) := far3 (by omega) ((hR6.cell (World.block_lt_of_cell? _ _ k12')).trans k12') _ _ _
      have z13 : ((((on ux).setCell ⟨B4, 0, none⟩ (.int .u8 4)).setCell ⟨B4, 1, none⟩ (.int .i64 (A - B))).setCell ⟨B4, 2, none⟩ (.int .i64 (A + B))).cell? ⟨g, 10, none⟩ = some (.int .u8 4) := far3 (by omega) ((hR6.cell (World.block_lt_of_cell? _ _ k13')).trans k13') _ _ _
      have z14 : ((((on ux).setCell ⟨B4, 0, none⟩ (.int .u8 4)).setCell ⟨B4, 1, none⟩ (.int .i64 (A - B))).setCell ⟨B4, 2, none⟩ (.int .i64 (A + B))).cell? ⟨g, 11, none⟩ = some (.int .i64 0) := far3 (by omega) ((hR6.cell (World.block_lt_of_cell? _ _ k14')).trans k14') _ _ _
      obtain ⟨u6, hu6, hh6⟩ := stored3c (hB5.trans (hR6.mono hB5.size)) hw0 hh5' (.int .u8 4) (.int .i64 (A - B)) (.int .i64 (A + B))
      rw [hu6] at z0 z1 z2 z3 z4 z5 z6 z7 z8 z9 z10 z11 z12 z13 z14 ⊢
      clear hu6 hh5 hh5' hR6 hB5 k0' k1' k2' k3' k4' k5' k6' k7' k8' k9' k10' k11' k12' k13' k14' j0' l0' j1' l1' j2' l2' B500 B501 B502
      clear ux
      go_wp2_with (first | (go_at_call 42; with_reducible refine (check_ok 4 B _ (by omega) (by omega) (by omega) (by omega)).mono ?_; rintro e wx ⟨rfl, hx⟩; obtain ⟨ux, rfl⟩ := after hx; clear hx) | fail)
      exact ⟨⟨4 + 1, 4, (A - B), (A + B), rfl, .inr (.inr (.inr (.inr (.inr (.inl ⟨rfl, rfl, rfl, rfl⟩))))), ⟨_, below_on u6.b ux⟩, rfl, held_on ux hh6, held_c ux z0, held_c ux z1, held_c ux z2, held_c ux z3, held_c ux z4, held_c ux z5, held_c ux z6, held_c ux z7, held_c ux z8, held_c ux z9, held_c ux z10, held_c ux z11, held_c ux z12, held_c ux z13, held_c ux z14⟩, by simp [intOf]⟩
    · go_wp2_with (first | (go_at_call 27; with_reducible refine (LO40 _).mono ?_; rintro e wx ⟨rfl, hx⟩; obtain ⟨ux, rfl⟩ := after hx; clear hx) | fail)
      have hR : Below ((on u0)).heap.size ((on u0)) ((on ux).alloc (.cells #[.int .u8 7, .int .i64 0, .int .i64 0] 51)) := by repeat first | (with_reducible exact Below.refl _ _) | (with_reducible refine below_on ?_ _) | (with_reducible refine below_alloc ?_ _)
      have k0' : ((on ux).alloc (.cells #[.int .u8 7, .int .i64 0, .int .i64 0] 51)).cell? ⟨B1, 0, none⟩ = some (.int .u8 3) := (hR.cell (World.block_lt_of_cell? _ _ k0)).trans k0
      have k1' : ((on ux).alloc (.cells #[.int .u8 7, .int .i64 0, .int .i64 0] 51)).cell? ⟨B1, 1, none⟩ = some (.int .i64 X) := (hR.cell (World.block_lt_of_cell? _ _ k1)).trans k1
      have k2' : ((on ux).alloc (.cells #[.int .u8 7, .int .i64 0, .int .i64 0] 51)).cell? ⟨B1, 2, none⟩ = some (.int .i64 Y) := (hR.cell (World.block_lt_of_cell? _ _ k2)).trans k2
      have k3' : ((on ux).alloc (.cells #[.int .u8 7, .int .i64 0, .int .i64 0] 51)).cell? ⟨g, 0, none⟩ = some (.int .u8 3) := (hR.cell (World.block_lt_of_cell? _ _ k3)).trans k3
      have k4' : ((on ux).alloc (.cells #[.int .u8 7, .int .i64 0, .int .i64 0] 51)).cell? ⟨g, 1, none⟩ = some (.int .i64 0) := (hR.cell (World.block_lt_of_cell? _ _ k4)).trans k4
      have k5' : ((on ux).alloc (.cells #[.int .u8 7, .int .i64 0, .int .i64 0] 51)).cell? ⟨g, 2, none⟩ = some (.int .u8 1) := (hR.cell (World.block_lt_of_cell? _ _ k5)).trans k5
      have k6' : ((on ux).alloc (.cells #[.int .u8 7, .int .i64 0, .int .i64 0] 51)).cell? ⟨g, 3, none⟩ = some (.int .i64 0) := (hR.cell (World.block_lt_of_cell? _ _ k6)).trans k6
      have k7' : ((on ux).alloc (.cells #[.int .u8 7, .int .i64 0, .int .i64 0] 51)).cell? ⟨g, 4, none⟩ = some (.int .u8 3) := (hR.cell (World.block_lt_of_cell? _ _ k7)).trans k7
      have k8' : ((on ux).alloc (.cells #[.int .u8 7, .int .i64 0, .int .i64 0] 51)).cell? ⟨g, 5, none⟩ = some (.int .i64 0) := (hR.cell (World.block_lt_of_cell? _ _ k8)).trans k8
      have k9' : ((on ux).alloc (.cells #[.int .u8 7, .int .i64 0, .int .i64 0] 51)).cell? ⟨g, 6, none⟩ = some (.int .u8 3) := (hR.cell (World.block_lt_of_cell? _ _ k9)).trans k9
      have k10' : ((on ux).alloc (.cells #[.int .u8 7, .int .i64 0, .int .i64 0] 51)).cell? ⟨g, 7, none⟩ = some (.int .i64 A) := (hR.cell (World.block_lt_of_cell? _ _ k10)).trans k10
      have k11' : ((on ux).alloc (.cells #[.int .u8 7, .int .i64 0, .int .i64 0] 51)).cell? ⟨g, 8, none⟩ = some (.int .u8 4) := (hR.cell (World.block_lt_of_cell? _ _ k11)).trans k11
      have k12' : ((on ux).alloc (.cells #[.int .u8 7, .int .i64 0, .int .i64 0] 51)).cell? ⟨g, 9, none⟩ = some (.int .i64 B) := (hR.cell (World.block_lt_of_cell? _ _ k12)).trans k12
      have k13' : ((on ux).alloc (.cells #[.int .u8 7, .int .i64 0, .int .i64 0] 51)).cell? ⟨g, 10, none⟩ = some (.int .u8 4) := (hR.cell (World.block_lt_of_cell? _ _ k13)).trans k13
      have k14' : ((on ux).alloc (.cells #[.int .u8 7, .int .i64 0, .int .i64 0] 51)).cell? ⟨g, 11, none⟩ = some (.int .i64 0) := (hR.cell (World.block_lt_of_cell? _ _ k14)).trans k14
      have j0' : ((on ux).alloc (.cells #[.int .u8 7, .int .i64 0, .int .i64 0] 51)).cell? ⟨B4, 0, none⟩ = some (.int .u8 4) := (hR.cell (World.block_lt_of_cell? _ _ j0)).trans j0
      have l0' : ((on ux).alloc (.cells #[.int .u8 7, .int .i64 0, .int .i64 0] 51)).frozen? ⟨B4, 0, none⟩ = false := (hR.frozen (World.block_lt_of_cell? _ _ j0)).trans l0
      have j1' : ((on ux).alloc (.cells #[.int .u8 7, .int .i64 0, .int .i64 0] 51)).cell? ⟨B4, 1, none⟩ = some (.int .i64 (A - B)) := (hR.cell (World.block_lt_of_cell? _ _ j1)).trans j1
      have l1' : ((on ux).alloc (.cells #[.int .u8 7, .int .i64 0, .int .i64 0] 51)).frozen? ⟨B4, 1, none⟩ = false := (hR.frozen (World.block_lt_of_cell? _ _ j1)).trans l1
      have j2' : ((on ux).alloc (.cells #[.int .u8 7, .int .i64 0, .int .i64 0] 51)).cell? ⟨B4, 2, none⟩ = some (.int .i64 (A + B)) := (hR.cell (World.block_lt_of_cell? _ _ j2)).trans j2
      have l2' : ((on ux).alloc (.cells #[.int .u8 7, .int .i64 0, .int .i64 0] 51)).frozen? ⟨B4, 2, none⟩ = false := (hR.frozen (World.block_lt_of_cell? _ _ j2)).trans l2
      have B500 : ((on ux).alloc (.cells #[.int .u8 7, .int .i64 0, .int .i64 0] 51)).cell? ⟨(on ux).heap.size, 0, none⟩ = some (.int .u8 7) := by simp [go_sem]
      have B501 : ((on ux).alloc (.cells #[.int .u8 7, .int .i64 0, .int .i64 0] 51)).cell? ⟨(on ux).heap.size, 1, none⟩ = some (.int .i64 0) := by simp [go_sem]
      have B502 : ((on ux).alloc (.cells #[.int .u8 7, .int .i64 0, .int .i64 0] 51)).cell? ⟨(on ux).heap.size, 2, none⟩ = some (.int .i64 0) := by simp [go_sem]
      have hB5 : Below w.heap.size w ((on ux).alloc (.cells #[.int .u8 7, .int .i64 0, .int .i64 0] 51)) := by repeat first | (with_reducible exact hq) | (with_reducible refine below_on ?_ _) | (with_reducible refine below_alloc ?_ _)
      have hR5 := hR
      clear hR k0 k1 k2 k3 k4 k5 k6 k7 k8 k9 k10 k11 k12 k13 k14 j0 j1 j2 l0 l1 l2 hq
      have hh5 : ((on ux).alloc (.cells #[.int .u8 7, .int .i64 0, .int .i64 0] 51)).heap[B4]? = some (.cells #[.int .u8 4, .int .i64 (A - B), .int .i64 (A + B)] 51) := (hR5.block _ (held_lt hh)).trans hh
      clear hh hR5
      generalize ((on ux).alloc (.cells #[.int .u8 7, .int .i64 0, .int .i64 0] 51)) = W5 at *
      generalize (on ux).heap.size = B5 at *
      clear ux
      go_wp2_with (first | (go_at_call 30; with_reducible refine (TH5 _ (hS' _ (by repeat first | (with_reducible exact hB5) | (with_reducible refine below_on ?_ _) | (with_reducible refine below_alloc ?_ _) | (with_reducible refine below_set ?_ (by simp; try omega) _)))).mono ?_; rintro e wx ⟨rfl, hx⟩; obtain ⟨ux, rfl⟩ := after hx; clear hx) | fail)
      have hR6 : Below W5.heap.size W5 (on ux) := by repeat first | (with_reducible exact Below.refl _ _) | (with_reducible refine below_on ?_ _) | (with_reducible refine below_drew ?_)
      have hh5' : (on ux).heap[B4]? = some (.cells #[.int .u8 4, .int .i64 (A - B), .int .i64 (A + B)] 51) := (hR6.block _ (held_lt hh5)).trans hh5
      have z0 : ((((on ux).setCell ⟨B4, 0, none⟩ (.int .u8 3)).setCell ⟨B4, 1, none⟩ (.int .i64 X)).setCell ⟨B4, 2, none⟩ (.int .i64 Y)).cell? ⟨B1, 0, none⟩ = some (.int .u8 3) := far3 (by omega) ((hR6.cell (World.block_lt_of_cell? _ _ k0')).trans k0') _ _ _
      have z1 : ((((on ux).setCell ⟨B4, 0, none⟩ (.int .u8 3)).setCell ⟨B4, 1, none⟩ (.int .i64 X)).setCell ⟨B4, 2, none⟩ (.int .i64 Y)).cell? ⟨B1, 1, none⟩ = some (.int .i64 X) := far3 (by omega) ((hR6.cell (World.block_lt_of_cell? _ _ k1')).trans k1') _ _ _
      have z2 : ((((on ux).setCell ⟨B4, 0, none⟩ (.int .u8 3)).setCell ⟨B4, 1, none⟩ (.int .i64 X)).setCell ⟨B4, 2, none⟩ (.int .i64 Y)).cell? ⟨B1, 2, none⟩ = some (.int .i64 Y) := far3 (by omega) ((hR6.cell (World.block_lt_of_cell? _ _ k2')).trans k2') _ _ _
      have z3 : ((((on ux).setCell ⟨B4, 0, none⟩ (.int .u8 3)).setCell ⟨B4, 1, none⟩ (.int .i64 X)).setCell ⟨B4, 2, none⟩ (.int .i64 Y)).cell? ⟨g, 0, none⟩ = some (.int .u8 3) := far3 (by omega) ((hR6.cell (World.block_lt_of_cell? _ _ k3')).trans k3') _ _ _
      have z4 : ((((on ux).setCell ⟨B4, 0, none⟩ (.int .u8 3)).setCell ⟨B4, 1, none⟩ (.int .i64 X)).setCell ⟨B4, 2, none⟩ (.int .i64 Y)).cell? ⟨g, 1, none⟩ = some (.int .i64 0) := far3 (by omega) ((hR6.cell (World.block_lt_of_cell? _ _ k4')).trans k4') _ _ _
      have z5 : ((((on ux).setCell ⟨B4, 0, none⟩ (.int .u8 3)).setCell ⟨B4, 1, none⟩ (.int .i64 X)).setCell ⟨B4, 2, none⟩ (.int .i64 Y)).cell? ⟨g, 2, none⟩ = some (.int .u8 1) := far3 (by omega) ((hR6.cell (World.block_lt_of_cell? _ _ k5')).trans k5') _ _ _
      have z6 : ((((on ux).setCell ⟨B4, 0, none⟩ (.int .u8 3)).setCell ⟨B4, 1, none⟩ (.int .i64 X)).setCell ⟨B4, 2, none⟩ (.int .i64 Y)).cell? ⟨g, 3, none⟩ = some (.int .i64 0) := far3 (by omega) ((hR6.cell (World.block_lt_of_cell? _ _ k6')).trans k6') _ _ _
      have z7 : ((((on ux).setCell ⟨B4, 0, none⟩ (.int .u8 3)).setCell ⟨B4, 1, none⟩ (.int .i64 X)).setCell ⟨B4, 2, none⟩ (.int .i64 Y)).cell? ⟨g, 4, none⟩ = some (.int .u8 3) := far3 (by omega) ((hR6.cell (World.block_lt_of_cell? _ _ k7')).trans k7') _ _ _
      have z8 : ((((on ux).setCell ⟨B4, 0, none⟩ (.int .u8 3)).setCell ⟨B4, 1, none⟩ (.int .i64 X)).setCell ⟨B4, 2, none⟩ (.int .i64 Y)).cell? ⟨g, 5, none⟩ = some (.int .i64 0) := far3 (by omega) ((hR6.cell (World.block_lt_of_cell? _ _ k8')).trans k8') _ _ _
      have z9 : ((((on ux).setCell ⟨B4, 0, none⟩ (.int .u8 3)).setCell ⟨B4, 1, none⟩ (.int .i64 X)).setCell ⟨B4, 2, none⟩ (.int .i64 Y)).cell? ⟨g, 6, none⟩ = some (.int .u8 3) := far3 (by omega) ((hR6.cell (World.block_lt_of_cell? _ _ k9')).trans k9') _ _ _
      have z10 : ((((on ux).setCell ⟨B4, 0, none⟩ (.int .u8 3)).setCell ⟨B4, 1, none⟩ (.int .i64 X)).setCell ⟨B4, 2, none⟩ (.int .i64 Y)).cell? ⟨g, 7, none⟩ = some (.int .i64 A) := far3 (by omega) ((hR6.cell (World.block_lt_of_cell? _ _ k10')).trans k10') _ _ _
      have z11 : ((((on ux).setCell ⟨B4, 0, none⟩ (.int .u8 3)).setCell ⟨B4, 1, none⟩ (.int .i64 X)).setCell ⟨B4, 2, none⟩ (.int .i64 Y)).cell? ⟨g, 8, none⟩ = some (.int .u8 4) := far3 (by omega) ((hR6.cell (World.block_lt_of_cell? _ _ k11')).trans k11') _ _ _
      have z12 : ((((on ux).setCell ⟨B4, 0, none⟩ (.int .u8 3)).setCell ⟨B4, 1, none⟩ (.int .i64 X)).setCell ⟨B4, 2, none⟩ (.int .i64 Y)).cell? ⟨g, 9, none⟩ = some (.int .i64 B) := far3 (by omega) ((hR6.cell (World.block_lt_of_cell? _ _ k12')).trans k12') _ _ _
      have z13 : ((((on ux).setCell ⟨B4, 0, none⟩ (.int .u8 3)).setCell ⟨B4, 1, none⟩ (.int .i64 X)).setCell ⟨B4, 2, none⟩ (.int .i64 Y)).cell? ⟨g, 10, none⟩ = some (.int .u8 4) := far3 (by omega) ((hR6.cell (World.block_lt_of_cell? _ _ k13')).trans k13') _ _ _
      have z14 : ((((on ux).setCell ⟨B4, 0, none⟩ (.int .u8 3)).setCell ⟨B4, 1, none⟩ (.int .i64 X)).setCell ⟨B4, 2, none⟩ (.int .i64 Y)).cell? ⟨g, 11, none⟩ = some (.int .i64 0) := far3 (by omega) ((hR6.cell (World.block_lt_of_cell? _ _ k14')).trans k14') _ _ _
      obtain ⟨u6, hu6, hh6⟩ := stored3c (hB5.trans (hR6.mono hB5.size)) hw0 hh5' (.int .u8 3) (.int .i64 X) (.int .i64 Y)
      rw [hu6] at z0 z1 z2 z3 z4 z5 z6 z7 z8 z9 z10 z11 z12 z13 z14 ⊢
      clear hu6 hh5 hh5' hR6 hB5 k0' k1' k2' k3' k4' k5' k6' k7' k8' k9' k10' k11' k12' k13' k14' j0' l0' j1' l1' j2' l2' B500 B501 B502
      clear ux
      go_wp2_with (first | (go_at_call 42; with_reducible refine (check_ok 4 0 _ (by omega) (by omega) (by omega) (by omega)).mono ?_; rintro e wx ⟨rfl, hx⟩; obtain ⟨ux, rfl⟩ := after hx; clear hx) | fail)
      exact ⟨⟨5 + 1, 3, X, Y, rfl, .inr (.inr (.inr (.inr (.inr (.inr (⟨rfl, rfl, rfl, rfl⟩)))))), ⟨_, below_on u6.b ux⟩, rfl, held_on ux hh6, held_c ux z0, held_c ux z1, held_c ux z2, held_c ux z3, held_c ux z4, held_c ux z5, held_c ux z6, held_c ux z7, held_c ux z8, held_c ux z9, held_c ux z10, held_c ux z11, held_c ux z12, held_c ux z13, held_c ux z14⟩, by simp [intOf]⟩
    · go_wp2_with (first | (go_at_call 28; with_reducible refine (lives2_ok _ (hS' _ (by repeat first | (with_reducible exact hq) | (with_reducible refine below_on ?_ _) | (with_reducible refine below_alloc ?_ _) | (with_reducible refine below_set ?_ (by simp; try omega) _)))).mono ?_; rintro e wx ⟨rfl, hx⟩; obtain ⟨ux, rfl⟩ := after hx; clear hx) | fail)
      go_ret
      exact ⟨rfl, (by repeat first | (with_reducible exact hq) | (with_reducible refine below_on ?_ _) | (with_reducible refine below_alloc ?_ _) | (with_reducible refine below_set ?_ (by simp; try omega) _))⟩

end Go.Proofs.YtbcmfenekpllhaaDoor
