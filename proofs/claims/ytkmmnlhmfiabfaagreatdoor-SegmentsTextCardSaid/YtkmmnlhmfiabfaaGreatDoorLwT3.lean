/-
  Says: SegmentsText at what has none.
-/
import Derived.Test.YtkmmnlhmfiabfaaGreatDoorLwT0
import Derived.Test.YtkmmnlhmfiabfaaGreatDoorLv7
import Derived.Test.YtkmmnlhmfiabfaaGreatDoorSg4
import Derived.Test.YtkmmnlhmfiabfaaGreatDoorSg1
import Derived.Test.YtkmmnlhmfiabfaaGreatDoorRfA
import Derived.Deep.RegionHeld3
import Derived.RowKit3
set_option linter.unusedVariables false
set_option linter.unusedSimpArgs false
namespace Go.Proofs.YtkmmnlhmfiabfaaGreatDoor
open Go Go.RowKit

attribute [local go_sem] World.cell?_alloc_some frozen?_alloc_cells fz0 fz1 fz2 fz3 fz4 fz5

set_option maxRecDepth 100000 in
set_option maxHeartbeats 8000000 in
theorem stx_4A (k l c f t : Int) (s : ByteArray) (K L C F T : Int) (w : World) (hA : All w) (a1 : 1 ≤ k) (a2 : k ≤ 3) (b1 : 1 ≤ l) (b2 : l ≤ 4) (b3 : -4096 ≤ c) (b4 : c ≤ 4096) (h : t ≤ f) (HB : Hid (k < 1 ∨ 3 < k ∨ l < 1 ∨ 4 < l ∨ c < -4096 ∨ 4096 < c ∨ t ≤ f ∨ f < -4096 ∨ 4096 < t)) (hl : (s.size : Int) ≤ 40) (p1 : 1 ≤ K) (p2 : K ≤ 3) (p3 : 1 ≤ L) (p4 : L ≤ 4) (p5 : -4096 ≤ C) (p6 : C ≤ 4096) (p7 : F < T) (p8 : -4096 ≤ F) (p9 : T ≤ 4096) (HT : Hid (∀ w, Calls Tryz.prog 27 #[sg K L C F T] w fun e w' => e = .returned (.string s) ∧ Below w.heap.size w w')) (HP : Hid (∀ w, Std w → Calls Tryz.prog 28 #[.string s] w fun e w' => e = .returned (.tuple #[sg K L C F T, .int .i64 0]) ∧ Below w.heap.size w w')) : Calls Tryz.prog 8 #[sg k l c f t, .string s] w fun e w' => e = .returned (.bool true) ∧ Below w.heap.size w w' := by
  have hS' : ∀ W, Below w.heap.size w W → All W := fun W h => all_below hA h
  go_enter Tryz.func8, Tryz.ntmps8
  go_wp2_with fail
  have hB0 : Below w.heap.size w (w.alloc (.cells #[.int .u8 k, .int .u8 l, .int .i64 c, .int .i64 f, .int .i64 t] 29)) := (by repeat first | (with_reducible exact Below.refl _ _) | (with_reducible refine below_on ?_ _) | (with_reducible refine below_alloc ?_ _) | (with_reducible refine below_set ?_ (by simp; try omega) _))
  have b00 : (w.alloc (.cells #[.int .u8 k, .int .u8 l, .int .i64 c, .int .i64 f, .int .i64 t] 29)).cell? ⟨w.heap.size, 0, none⟩ = some (.int .u8 k) := by simp [go_sem]
  have b01 : (w.alloc (.cells #[.int .u8 k, .int .u8 l, .int .i64 c, .int .i64 f, .int .i64 t] 29)).cell? ⟨w.heap.size, 1, none⟩ = some (.int .u8 l) := by simp [go_sem]
  have b02 : (w.alloc (.cells #[.int .u8 k, .int .u8 l, .int .i64 c, .int .i64 f, .int .i64 t] 29)).cell? ⟨w.heap.size, 2, none⟩ = some (.int .i64 c) := by simp [go_sem]
  have b03 : (w.alloc (.cells #[.int .u8 k, .int .u8 l, .int .i64 c, .int .i64 f, .int .i64 t] 29)).cell? ⟨w.heap.size, 3, none⟩ = some (.int .i64 f) := by simp [go_sem]
  have b04 : (w.alloc (.cells #[.int .u8 k, .int .u8 l, .int .i64 c, .int .i64 f, .int .i64 t] 29)).cell? ⟨w.heap.size, 4, none⟩ = some (.int .i64 t) := by simp [go_sem]
  generalize (w.alloc (.cells #[.int .u8 k, .int .u8 l, .int .i64 c, .int .i64 f, .int .i64 t] 29)) = W0 at *
  go_wp2_with (first | (go_at_call 26; (with_reducible refine (valid_yes l c _ b1 b2 b3 b4).mono ?_); rintro e wx ⟨rfl, hx⟩; obtain ⟨ux, rfl⟩ := after hx; clear hx) | (go_at_call 29; (with_reducible refine (stext_bad k l c f t _ HB.out).mono ?_); rintro e wx ⟨rfl, hx⟩; obtain ⟨ux, rfl⟩ := after hx; clear hx) | fail)
  go_wp2_with (first | (go_at_call 28; (with_reducible refine (HP.out _ (hS' _ (by repeat first | (with_reducible exact hB0) | (with_reducible refine below_on ?_ _) | (with_reducible refine below_alloc ?_ _) | (with_reducible refine below_set ?_ (by simp; try omega) _))).std).mono ?_); rintro e wx ⟨rfl, hx⟩; obtain ⟨ux, rfl⟩ := after hx; clear hx) | fail)
  have hR : Below (W0).heap.size (W0) ((on ux).alloc (.cells #[.int .u8 K, .int .u8 L, .int .i64 C, .int .i64 F, .int .i64 T] 29)) := by repeat first | (with_reducible exact Below.refl _ _) | (with_reducible refine below_on ?_ _) | (with_reducible refine below_alloc ?_ _)
  have cR : ∀ {b_ i_ : Nat} {v_ : Value}, (W0).cell? ⟨b_, i_, none⟩ = some v_ → ((on ux).alloc (.cells #[.int .u8 K, .int .u8 L, .int .i64 C, .int .i64 F, .int .i64 T] 29)).cell? ⟨b_, i_, none⟩ = some v_ := fun h => (hR.cell (World.block_lt_of_cell? _ _ h)).trans h
  have b00' := cR b00
  have b01' := cR b01
  have b02' := cR b02
  have b03' := cR b03
  have b04' := cR b04
  have B100 : ((on ux).alloc (.cells #[.int .u8 K, .int .u8 L, .int .i64 C, .int .i64 F, .int .i64 T] 29)).cell? ⟨(on ux).heap.size, 0, none⟩ = some (.int .u8 K) := by simp [go_sem]
  have B101 : ((on ux).alloc (.cells #[.int .u8 K, .int .u8 L, .int .i64 C, .int .i64 F, .int .i64 T] 29)).cell? ⟨(on ux).heap.size, 1, none⟩ = some (.int .u8 L) := by simp [go_sem]
  have B102 : ((on ux).alloc (.cells #[.int .u8 K, .int .u8 L, .int .i64 C, .int .i64 F, .int .i64 T] 29)).cell? ⟨(on ux).heap.size, 2, none⟩ = some (.int .i64 C) := by simp [go_sem]
  have B103 : ((on ux).alloc (.cells #[.int .u8 K, .int .u8 L, .int .i64 C, .int .i64 F, .int .i64 T] 29)).cell? ⟨(on ux).heap.size, 3, none⟩ = some (.int .i64 F) := by simp [go_sem]
  have B104 : ((on ux).alloc (.cells #[.int .u8 K, .int .u8 L, .int .i64 C, .int .i64 F, .int .i64 T] 29)).cell? ⟨(on ux).heap.size, 4, none⟩ = some (.int .i64 T) := by simp [go_sem]
  have hB1 : Below w.heap.size w ((on ux).alloc (.cells #[.int .u8 K, .int .u8 L, .int .i64 C, .int .i64 F, .int .i64 T] 29)) := by repeat first | (with_reducible exact hB0) | (with_reducible refine below_on ?_ _) | (with_reducible refine below_alloc ?_ _)
  clear hR cR b00 b01 b02 b03 b04  hB0
  generalize ((on ux).alloc (.cells #[.int .u8 K, .int .u8 L, .int .i64 C, .int .i64 F, .int .i64 T] 29)) = W1 at *
  generalize (on ux).heap.size = B1 at *
  clear ux
  go_wp2_with (first | (go_at_call 27; (with_reducible refine (HT.out _).mono ?_); rintro e wx ⟨rfl, hx⟩; obtain ⟨ux, rfl⟩ := after hx; clear hx) | (go_at_call 13; (with_reducible refine (lives7_ok _ (hS' _ (by repeat first | (with_reducible exact hB1) | (with_reducible refine below_on ?_ _) | (with_reducible refine below_alloc ?_ _) | (with_reducible refine below_set ?_ (by simp; try omega) _)))).mono ?_); rintro e wx ⟨rfl, hx⟩; obtain ⟨ux, rfl⟩ := after hx; clear hx) | fail)
  go_ret
  exact ⟨rfl, (by repeat first | (with_reducible exact hB1) | (with_reducible refine below_on ?_ _) | (with_reducible refine below_alloc ?_ _) | (with_reducible refine below_set ?_ (by simp; try omega) _))⟩

set_option maxRecDepth 100000 in
set_option maxHeartbeats 8000000 in
theorem stx_4B (k l c f t : Int) (s : ByteArray) (w : World) (hA : All w) (a1 : 1 ≤ k) (a2 : k ≤ 3) (b1 : 1 ≤ l) (b2 : l ≤ 4) (b3 : -4096 ≤ c) (b4 : c ≤ 4096) (h : t ≤ f) (HB : Hid (k < 1 ∨ 3 < k ∨ l < 1 ∨ 4 < l ∨ c < -4096 ∨ 4096 < c ∨ t ≤ f ∨ f < -4096 ∨ 4096 < t)) (hl : (s.size : Int) ≤ 40) (HP : Hid (∀ w, Std w → Calls Tryz.prog 28 #[.string s] w fun e w' => e = .returned (.tuple #[sg 0 0 0 0 0, .int .i64 4]) ∧ Below w.heap.size w w')) : Calls Tryz.prog 8 #[sg k l c f t, .string s] w fun e w' => e = .returned (.bool true) ∧ Below w.heap.size w w' := by
  have hS' : ∀ W, Below w.heap.size w W → All W := fun W h => all_below hA h
  go_enter Tryz.func8, Tryz.ntmps8
  go_wp2_with fail
  have hB0 : Below w.heap.size w (w.alloc (.cells #[.int .u8 k, .int .u8 l, .int .i64 c, .int .i64 f, .int .i64 t] 29)) := (by repeat first | (with_reducible exact Below.refl _ _) | (with_reducible refine below_on ?_ _) | (with_reducible refine below_alloc ?_ _) | (with_reducible refine below_set ?_ (by simp; try omega) _))
  have b00 : (w.alloc (.cells #[.int .u8 k, .int .u8 l, .int .i64 c, .int .i64 f, .int .i64 t] 29)).cell? ⟨w.heap.size, 0, none⟩ = some (.int .u8 k) := by simp [go_sem]
  have b01 : (w.alloc (.cells #[.int .u8 k, .int .u8 l, .int .i64 c, .int .i64 f, .int .i64 t] 29)).cell? ⟨w.heap.size, 1, none⟩ = some (.int .u8 l) := by simp [go_sem]
  have b02 : (w.alloc (.cells #[.int .u8 k, .int .u8 l, .int .i64 c, .int .i64 f, .int .i64 t] 29)).cell? ⟨w.heap.size, 2, none⟩ = some (.int .i64 c) := by simp [go_sem]
  have b03 : (w.alloc (.cells #[.int .u8 k, .int .u8 l, .int .i64 c, .int .i64 f, .int .i64 t] 29)).cell? ⟨w.heap.size, 3, none⟩ = some (.int .i64 f) := by simp [go_sem]
  have b04 : (w.alloc (.cells #[.int .u8 k, .int .u8 l, .int .i64 c, .int .i64 f, .int .i64 t] 29)).cell? ⟨w.heap.size, 4, none⟩ = some (.int .i64 t) := by simp [go_sem]
  generalize (w.alloc (.cells #[.int .u8 k, .int .u8 l, .int .i64 c, .int .i64 f, .int .i64 t] 29)) = W0 at *
  go_wp2_with (first | (go_at_call 26; (with_reducible refine (valid_yes l c _ b1 b2 b3 b4).mono ?_); rintro e wx ⟨rfl, hx⟩; obtain ⟨ux, rfl⟩ := after hx; clear hx) | (go_at_call 29; (with_reducible refine (stext_bad k l c f t _ HB.out).mono ?_); rintro e wx ⟨rfl, hx⟩; obtain ⟨ux, rfl⟩ := after hx; clear hx) | fail)
  go_wp2_with (first | (go_at_call 28; (with_reducible refine (HP.out _ (hS' _ (by repeat first | (with_reducible exact hB0) | (with_reducible refine below_on ?_ _) | (with_reducible refine below_alloc ?_ _) | (with_reducible refine below_set ?_ (by simp; try omega) _))).std).mono ?_); rintro e wx ⟨rfl, hx⟩; obtain ⟨ux, rfl⟩ := after hx; clear hx) | fail)
  have hR : Below (W0).heap.size (W0) ((on ux).alloc (.cells #[.int .u8 0, .int .u8 0, .int .i64 0, .int .i64 0, .int .i64 0] 29)) := by repeat first | (with_reducible exact Below.refl _ _) | (with_reducible refine below_on ?_ _) | (with_reducible refine below_alloc ?_ _)
  have cR : ∀ {b_ i_ : Nat} {v_ : Value}, (W0).cell? ⟨b_, i_, none⟩ = some v_ → ((on ux).alloc (.cells #[.int .u8 0, .int .u8 0, .int .i64 0, .int .i64 0, .int .i64 0] 29)).cell? ⟨b_, i_, none⟩ = some v_ := fun h => (hR.cell (World.block_lt_of_cell? _ _ h)).trans h
  have b00' := cR b00
  have b01' := cR b01
  have b02' := cR b02
  have b03' := cR b03
  have b04' := cR b04
  have B100 : ((on ux).alloc (.cells #[.int .u8 0, .int .u8 0, .int .i64 0, .int .i64 0, .int .i64 0] 29)).cell? ⟨(on ux).heap.size, 0, none⟩ = some (.int .u8 0) := by simp [go_sem]
  have B101 : ((on ux).alloc (.cells #[.int .u8 0, .int .u8 0, .int .i64 0, .int .i64 0, .int .i64 0] 29)).cell? ⟨(on ux).heap.size, 1, none⟩ = some (.int .u8 0) := by simp [go_sem]
  have B102 : ((on ux).alloc (.cells #[.int .u8 0, .int .u8 0, .int .i64 0, .int .i64 0, .int .i64 0] 29)).cell? ⟨(on ux).heap.size, 2, none⟩ = some (.int .i64 0) := by simp [go_sem]
  have B103 : ((on ux).alloc (.cells #[.int .u8 0, .int .u8 0, .int .i64 0, .int .i64 0, .int .i64 0] 29)).cell? ⟨(on ux).heap.size, 3, none⟩ = some (.int .i64 0) := by simp [go_sem]
  have B104 : ((on ux).alloc (.cells #[.int .u8 0, .int .u8 0, .int .i64 0, .int .i64 0, .int .i64 0] 29)).cell? ⟨(on ux).heap.size, 4, none⟩ = some (.int .i64 0) := by simp [go_sem]
  have hB1 : Below w.heap.size w ((on ux).alloc (.cells #[.int .u8 0, .int .u8 0, .int .i64 0, .int .i64 0, .int .i64 0] 29)) := by repeat first | (with_reducible exact hB0) | (with_reducible refine below_on ?_ _) | (with_reducible refine below_alloc ?_ _)
  clear hR cR b00 b01 b02 b03 b04  hB0
  generalize ((on ux).alloc (.cells #[.int .u8 0, .int .u8 0, .int .i64 0, .int .i64 0, .int .i64 0] 29)) = W1 at *
  generalize (on ux).heap.size = B1 at *
  clear ux
  go_wp2_with (first | (go_at_call 13; (with_reducible refine (lives7_ok _ (hS' _ (by repeat first | (with_reducible exact hB1) | (with_reducible refine below_on ?_ _) | (with_reducible refine below_alloc ?_ _) | (with_reducible refine below_set ?_ (by simp; try omega) _)))).mono ?_); rintro e wx ⟨rfl, hx⟩; obtain ⟨ux, rfl⟩ := after hx; clear hx) | fail)
  go_ret
  exact ⟨rfl, (by repeat first | (with_reducible exact hB1) | (with_reducible refine below_on ?_ _) | (with_reducible refine below_alloc ?_ _) | (with_reducible refine below_set ?_ (by simp; try omega) _))⟩

set_option maxRecDepth 100000 in
set_option maxHeartbeats 8000000 in
theorem stx_5A (k l c f t : Int) (s : ByteArray) (K L C F T : Int) (w : World) (hA : All w) (a1 : 1 ≤ k) (a2 : k ≤ 3) (b1 : 1 ≤ l) (b2 : l ≤ 4) (b3 : -4096 ≤ c) (b4 : c ≤ 4096) (e1 : f < t) (h : f < -4096) (HB : Hid (k < 1 ∨ 3 < k ∨ l < 1 ∨ 4 < l ∨ c < -4096 ∨ 4096 < c ∨ t ≤ f ∨ f < -4096 ∨ 4096 < t)) (hl : (s.size : Int) ≤ 40) (p1 : 1 ≤ K) (p2 : K ≤ 3) (p3 : 1 ≤ L) (p4 : L ≤ 4) (p5 : -4096 ≤ C) (p6 : C ≤ 4096) (p7 : F < T) (p8 : -4096 ≤ F) (p9 : T ≤ 4096) (HT : Hid (∀ w, Calls Tryz.prog 27 #[sg K L C F T] w fun e w' => e = .returned (.string s) ∧ Below w.heap.size w w')) (HP : Hid (∀ w, Std w → Calls Tryz.prog 28 #[.string s] w fun e w' => e = .returned (.tuple #[sg K L C F T, .int .i64 0]) ∧ Below w.heap.size w w')) : Calls Tryz.prog 8 #[sg k l c f t, .string s] w fun e w' => e = .returned (.bool true) ∧ Below w.heap.size w w' := by
  have hS' : ∀ W, Below w.heap.size w W → All W := fun W h => all_below hA h
  go_enter Tryz.func8, Tryz.ntmps8
  go_wp2_with fail
  have hB0 : Below w.heap.size w (w.alloc (.cells #[.int .u8 k, .int .u8 l, .int .i64 c, .int .i64 f, .int .i64 t] 29)) := (by repeat first | (with_reducible exact Below.refl _ _) | (with_reducible refine below_on ?_ _) | (with_reducible refine below_alloc ?_ _) | (with_reducible refine below_set ?_ (by simp; try omega) _))
  have b00 : (w.alloc (.cells #[.int .u8 k, .int .u8 l, .int .i64 c, .int .i64 f, .int .i64 t] 29)).cell? ⟨w.heap.size, 0, none⟩ = some (.int .u8 k) := by simp [go_sem]
  have b01 : (w.alloc (.cells #[.int .u8 k, .int .u8 l, .int .i64 c, .int .i64 f, .int .i64 t] 29)).cell? ⟨w.heap.size, 1, none⟩ = some (.int .u8 l) := by simp [go_sem]
  have b02 : (w.alloc (.cells #[.int .u8 k, .int .u8 l, .int .i64 c, .int .i64 f, .int .i64 t] 29)).cell? ⟨w.heap.size, 2, none⟩ = some (.int .i64 c) := by simp [go_sem]
  have b03 : (w.alloc (.cells #[.int .u8 k, .int .u8 l, .int .i64 c, .int .i64 f, .int .i64 t] 29)).cell? ⟨w.heap.size, 3, none⟩ = some (.int .i64 f) := by simp [go_sem]
  have b04 : (w.alloc (.cells #[.int .u8 k, .int .u8 l, .int .i64 c, .int .i64 f, .int .i64 t] 29)).cell? ⟨w.heap.size, 4, none⟩ = some (.int .i64 t) := by simp [go_sem]
  generalize (w.alloc (.cells #[.int .u8 k, .int .u8 l, .int .i64 c, .int .i64 f, .int .i64 t] 29)) = W0 at *
  go_wp2_with (first | (go_at_call 26; (with_reducible refine (valid_yes l c _ b1 b2 b3 b4).mono ?_); rintro e wx ⟨rfl, hx⟩; obtain ⟨ux, rfl⟩ := after hx; clear hx) | (go_at_call 29; (with_reducible refine (stext_bad k l c f t _ HB.out).mono ?_); rintro e wx ⟨rfl, hx⟩; obtain ⟨ux, rfl⟩ := after hx; clear hx) | fail)
  go_wp2_with (first | (go_at_call 28; (with_reducible refine (HP.out _ (hS' _ (by repeat first | (with_reducible exact hB0) | (with_reducible refine below_on ?_ _) | (with_reducible refine below_alloc ?_ _) | (with_reducible refine below_set ?_ (by simp; try omega) _))).std).mono ?_); rintro e wx ⟨rfl, hx⟩; obtain ⟨ux, rfl⟩ := after hx; clear hx) | fail)
  have hR : Below (W0).heap.size (W0) ((on ux).alloc (.cells #[.int .u8 K, .int .u8 L, .int .i64 C, .int .i64 F, .int .i64 T] 29)) := by repeat first | (with_reducible exact Below.refl _ _) | (with_reducible refine below_on ?_ _) | (with_reducible refine below_alloc ?_ _)
  have cR : ∀ {b_ i_ : Nat} {v_ : Value}, (W0).cell? ⟨b_, i_, none⟩ = some v_ → ((on ux).alloc (.cells #[.int .u8 K, .int .u8 L, .int .i64 C, .int .i64 F, .int .i64 T] 29)).cell? ⟨b_, i_, none⟩ = some v_ := fun h => (hR.cell (World.block_lt_of_cell? _ _ h)).trans h
  have b00' := cR b00
  have b01' := cR b01
  have b02' := cR b02
  have b03' := cR b03
  have b04' := cR b04
  have B100 : ((on ux).alloc (.cells #[.int .u8 K, .int .u8 L, .int .i64 C, .int .i64 F, .int .i64 T] 29)).cell? ⟨(on ux).heap.size, 0, none⟩ = some (.int .u8 K) := by simp [go_sem]
  have B101 : ((on ux).alloc (.cells #[.int .u8 K, .int .u8 L, .int .i64 C, .int .i64 F, .int .i64 T] 29)).cell? ⟨(on ux).heap.size, 1, none⟩ = some (.int .u8 L) := by simp [go_sem]
  have B102 : ((on ux).alloc (.cells #[.int .u8 K, .int .u8 L, .int .i64 C, .int .i64 F, .int .i64 T] 29)).cell? ⟨(on ux).heap.size, 2, none⟩ = some (.int .i64 C) := by simp [go_sem]
  have B103 : ((on ux).alloc (.cells #[.int .u8 K, .int .u8 L, .int .i64 C, .int .i64 F, .int .i64 T] 29)).cell? ⟨(on ux).heap.size, 3, none⟩ = some (.int .i64 F) := by simp [go_sem]
  have B104 : ((on ux).alloc (.cells #[.int .u8 K, .int .u8 L, .int .i64 C, .int .i64 F, .int .i64 T] 29)).cell? ⟨(on ux).heap.size, 4, none⟩ = some (.int .i64 T) := by simp [go_sem]
  have hB1 : Below w.heap.size w ((on ux).alloc (.cells #[.int .u8 K, .int .u8 L, .int .i64 C, .int .i64 F, .int .i64 T] 29)) := by repeat first | (with_reducible exact hB0) | (with_reducible refine below_on ?_ _) | (with_reducible refine below_alloc ?_ _)
  clear hR cR b00 b01 b02 b03 b04  hB0
  generalize ((on ux).alloc (.cells #[.int .u8 K, .int .u8 L, .int .i64 C, .int .i64 F, .int .i64 T] 29)) = W1 at *
  generalize (on ux).heap.size = B1 at *
  clear ux
  go_wp2_with (first | (go_at_call 27; (with_reducible refine (HT.out _).mono ?_); rintro e wx ⟨rfl, hx⟩; obtain ⟨ux, rfl⟩ := after hx; clear hx) | (go_at_call 13; (with_reducible refine (lives7_ok _ (hS' _ (by repeat first | (with_reducible exact hB1) | (with_reducible refine below_on ?_ _) | (with_reducible refine below_alloc ?_ _) | (with_reducible refine below_set ?_ (by simp; try omega) _)))).mono ?_); rintro e wx ⟨rfl, hx⟩; obtain ⟨ux, rfl⟩ := after hx; clear hx) | fail)
  go_ret
  exact ⟨rfl, (by repeat first | (with_reducible exact hB1) | (with_reducible refine below_on ?_ _) | (with_reducible refine below_alloc ?_ _) | (with_reducible refine below_set ?_ (by simp; try omega) _))⟩

set_option maxRecDepth 100000 in
set_option maxHeartbeats 8000000 in
theorem stx_5B (k l c f t : Int) (s : ByteArray) (w : World) (hA : All w) (a1 : 1 ≤ k) (a2 : k ≤ 3) (b1 : 1 ≤ l) (b2 : l ≤ 4) (b3 : -4096 ≤ c) (b4 : c ≤ 4096) (e1 : f < t) (h : f < -4096) (HB : Hid (k < 1 ∨ 3 < k ∨ l < 1 ∨ 4 < l ∨ c < -4096 ∨ 4096 < c ∨ t ≤ f ∨ f < -4096 ∨ 4096 < t)) (hl : (s.size : Int) ≤ 40) (HP : Hid (∀ w, Std w → Calls Tryz.prog 28 #[.string s] w fun e w' => e = .returned (.tuple #[sg 0 0 0 0 0, .int .i64 4]) ∧ Below w.heap.size w w')) : Calls Tryz.prog 8 #[sg k l c f t, .string s] w fun e w' => e = .returned (.bool true) ∧ Below w.heap.size w w' := by
  have hS' : ∀ W, Below w.heap.size w W → All W := fun W h => all_below hA h
  go_enter Tryz.func8, Tryz.ntmps8
  go_wp2_with fail
  have hB0 : Below w.heap.size w (w.alloc (.cells #[.int .u8 k, .int .u8 l, .int .i64 c, .int .i64 f, .int .i64 t] 29)) := (by repeat first | (with_reducible exact Below.refl _ _) | (with_reducible refine below_on ?_ _) | (with_reducible refine below_alloc ?_ _) | (with_reducible refine below_set ?_ (by simp; try omega) _))
  have b00 : (w.alloc (.cells #[.int .u8 k, .int .u8 l, .int .i64 c, .int .i64 f, .int .i64 t] 29)).cell? ⟨w.heap.size, 0, none⟩ = some (.int .u8 k) := by simp [go_sem]
  have b01 : (w.alloc (.cells #[.int .u8 k, .int .u8 l, .int .i64 c, .int .i64 f, .int .i64 t] 29)).cell? ⟨w.heap.size, 1, none⟩ = some (.int .u8 l) := by simp [go_sem]
  have b02 : (w.alloc (.cells #[.int .u8 k, .int .u8 l, .int .i64 c, .int .i64 f, .int .i64 t] 29)).cell? ⟨w.heap.size, 2, none⟩ = some (.int .i64 c) := by simp [go_sem]
  have b03 : (w.alloc (.cells #[.int .u8 k, .int .u8 l, .int .i64 c, .int .i64 f, .int .i64 t] 29)).cell? ⟨w.heap.size, 3, none⟩ = some (.int .i64 f) := by simp [go_sem]
  have b04 : (w.alloc (.cells #[.int .u8 k, .int .u8 l, .int .i64 c, .int .i64 f, .int .i64 t] 29)).cell? ⟨w.heap.size, 4, none⟩ = some (.int .i64 t) := by simp [go_sem]
  generalize (w.alloc (.cells #[.int .u8 k, .int .u8 l, .int .i64 c, .int .i64 f, .int .i64 t] 29)) = W0 at *
  go_wp2_with (first | (go_at_call 26; (with_reducible refine (valid_yes l c _ b1 b2 b3 b4).mono ?_); rintro e wx ⟨rfl, hx⟩; obtain ⟨ux, rfl⟩ := after hx; clear hx) | (go_at_call 29; (with_reducible refine (stext_bad k l c f t _ HB.out).mono ?_); rintro e wx ⟨rfl, hx⟩; obtain ⟨ux, rfl⟩ := after hx; clear hx) | fail)
  go_wp2_with (first | (go_at_call 28; (with_reducible refine (HP.out _ (hS' _ (by repeat first | (with_reducible exact hB0) | (with_reducible refine below_on ?_ _) | (with_reducible refine below_alloc ?_ _) | (with_reducible refine below_set ?_ (by simp; try omega) _))).std).mono ?_); rintro e wx ⟨rfl, hx⟩; obtain ⟨ux, rfl⟩ := after hx; clear hx) | fail)
  have hR : Below (W0).heap.size (W0) ((on ux).alloc (.cells #[.int .u8 0, .int .u8 0, .int .i64 0, .int .i64 0, .int .i64 0] 29)) := by repeat first | (with_reducible exact Below.refl _ _) | (with_reducible refine below_on ?_ _) | (with_reducible refine below_alloc ?_ _)
  have cR : ∀ {b_ i_ : Nat} {v_ : Value}, (W0).cell? ⟨b_, i_, none⟩ = some v_ → ((on ux).alloc (.cells #[.int .u8 0, .int .u8 0, .int .i64 0, .int .i64 0, .int .i64 0] 29)).cell? ⟨b_, i_, none⟩ = some v_ := fun h => (hR.cell (World.block_lt_of_cell? _ _ h)).trans h
  have b00' := cR b00
  have b01' := cR b01
  have b02' := cR b02
  have b03' := cR b03
  have b04' := cR b04
  have B100 : ((on ux).alloc (.cells #[.int .u8 0, .int .u8 0, .int .i64 0, .int .i64 0, .int .i64 0] 29)).cell? ⟨(on ux).heap.size, 0, none⟩ = some (.int .u8 0) := by simp [go_sem]
  have B101 : ((on ux).alloc (.cells #[.int .u8 0, .int .u8 0, .int .i64 0, .int .i64 0, .int .i64 0] 29)).cell? ⟨(on ux).heap.size, 1, none⟩ = some (.int .u8 0) := by simp [go_sem]
  have B102 : ((on ux).alloc (.cells #[.int .u8 0, .int .u8 0, .int .i64 0, .int .i64 0, .int .i64 0] 29)).cell? ⟨(on ux).heap.size, 2, none⟩ = some (.int .i64 0) := by simp [go_sem]
  have B103 : ((on ux).alloc (.cells #[.int .u8 0, .int .u8 0, .int .i64 0, .int .i64 0, .int .i64 0] 29)).cell? ⟨(on ux).heap.size, 3, none⟩ = some (.int .i64 0) := by simp [go_sem]
  have B104 : ((on ux).alloc (.cells #[.int .u8 0, .int .u8 0, .int .i64 0, .int .i64 0, .int .i64 0] 29)).cell? ⟨(on ux).heap.size, 4, none⟩ = some (.int .i64 0) := by simp [go_sem]
  have hB1 : Below w.heap.size w ((on ux).alloc (.cells #[.int .u8 0, .int .u8 0, .int .i64 0, .int .i64 0, .int .i64 0] 29)) := by repeat first | (with_reducible exact hB0) | (with_reducible refine below_on ?_ _) | (with_reducible refine below_alloc ?_ _)
  clear hR cR b00 b01 b02 b03 b04  hB0
  generalize ((on ux).alloc (.cells #[.int .u8 0, .int .u8 0, .int .i64 0, .int .i64 0, .int .i64 0] 29)) = W1 at *
  generalize (on ux).heap.size = B1 at *
  clear ux
  go_wp2_with (first | (go_at_call 13; (with_reducible refine (lives7_ok _ (hS' _ (by repeat first | (with_reducible exact hB1) | (with_reducible refine below_on ?_ _) | (with_reducible refine below_alloc ?_ _) | (with_reducible refine below_set ?_ (by simp; try omega) _)))).mono ?_); rintro e wx ⟨rfl, hx⟩; obtain ⟨ux, rfl⟩ := after hx; clear hx) | fail)
  go_ret
  exact ⟨rfl, (by repeat first | (with_reducible exact hB1) | (with_reducible refine below_on ?_ _) | (with_reducible refine below_alloc ?_ _) | (with_reducible refine below_set ?_ (by simp; try omega) _))⟩

set_option maxRecDepth 100000 in
set_option maxHeartbeats 8000000 in
theorem stx_6A (k l c f t : Int) (s : ByteArray) (K L C F T : Int) (w : World) (hA : All w) (a1 : 1 ≤ k) (a2 : k ≤ 3) (b1 : 1 ≤ l) (b2 : l ≤ 4) (b3 : -4096 ≤ c) (b4 : c ≤ 4096) (e1 : f < t) (e2 : -4096 ≤ f) (h : 4096 < t) (HB : Hid (k < 1 ∨ 3 < k ∨ l < 1 ∨ 4 < l ∨ c < -4096 ∨ 4096 < c ∨ t ≤ f ∨ f < -4096 ∨ 4096 < t)) (hl : (s.size : Int) ≤ 40) (p1 : 1 ≤ K) (p2 : K ≤ 3) (p3 : 1 ≤ L) (p4 : L ≤ 4) (p5 : -4096 ≤ C) (p6 : C ≤ 4096) (p7 : F < T) (p8 : -4096 ≤ F) (p9 : T ≤ 4096) (HT : Hid (∀ w, Calls Tryz.prog 27 #[sg K L C F T] w fun e w' => e = .returned (.string s) ∧ Below w.heap.size w w')) (HP : Hid (∀ w, Std w → Calls Tryz.prog 28 #[.string s] w fun e w' => e = .returned (.tuple #[sg K L C F T, .int .i64 0]) ∧ Below w.heap.size w w')) : Calls Tryz.prog 8 #[sg k l c f t, .string s] w fun e w' => e = .returned (.bool true) ∧ Below w.heap.size w w' := by
  have hS' : ∀ W, Below w.heap.size w W → All W := fun W h => all_below hA h
  go_enter Tryz.func8, Tryz.ntmps8
  go_wp2_with fail
  have hB0 : Below w.heap.size w (w.alloc (.cells #[.int .u8 k, .int .u8 l, .int .i64 c, .int .i64 f, .int .i64 t] 29)) := (by repeat first | (with_reducible exact Below.refl _ _) | (with_reducible refine below_on ?_ _) | (with_reducible refine below_alloc ?_ _) | (with_reducible refine below_set ?_ (by simp; try omega) _))
  have b00 : (w.alloc (.cells #[.int .u8 k, .int .u8 l, .int .i64 c, .int .i64 f, .int .i64 t] 29)).cell? ⟨w.heap.size, 0, none⟩ = some (.int .u8 k) := by simp [go_sem]
  have b01 : (w.alloc (.cells #[.int .u8 k, .int .u8 l, .int .i64 c, .int .i64 f, .int .i64 t] 29)).cell? ⟨w.heap.size, 1, none⟩ = some (.int .u8 l) := by simp [go_sem]
  have b02 : (w.alloc (.cells #[.int .u8 k, .int .u8 l, .int .i64 c, .int .i64 f, .int .i64 t] 29)).cell? ⟨w.heap.size, 2, none⟩ = some (.int .i64 c) := by simp [go_sem]
  have b03 : (w.alloc (.cells #[.int .u8 k, .int .u8 l, .int .i64 c, .int .i64 f, .int .i64 t] 29)).cell? ⟨w.heap.size, 3, none⟩ = some (.int .i64 f) := by simp [go_sem]
  have b04 : (w.alloc (.cells #[.int .u8 k, .int .u8 l, .int .i64 c, .int .i64 f, .int .i64 t] 29)).cell? ⟨w.heap.size, 4, none⟩ = some (.int .i64 t) := by simp [go_sem]
  generalize (w.alloc (.cells #[.int .u8 k, .int .u8 l, .int .i64 c, .int .i64 f, .int .i64 t] 29)) = W0 at *
  go_wp2_with (first | (go_at_call 26; (with_reducible refine (valid_yes l c _ b1 b2 b3 b4).mono ?_); rintro e wx ⟨rfl, hx⟩; obtain ⟨ux, rfl⟩ := after hx; clear hx) | (go_at_call 29; (with_reducible refine (stext_bad k l c f t _ HB.out).mono ?_); rintro e wx ⟨rfl, hx⟩; obtain ⟨ux, rfl⟩ := after hx; clear hx) | fail)
  go_wp2_with (first | (go_at_call 28; (with_reducible refine (HP.out _ (hS' _ (by repeat first | (with_reducible exact hB0) | (with_reducible refine below_on ?_ _) | (with_reducible refine below_alloc ?_ _) | (with_reducible refine below_set ?_ (by simp; try omega) _))).std).mono ?_); rintro e wx ⟨rfl, hx⟩; obtain ⟨ux, rfl⟩ := after hx; clear hx) | fail)
  have hR : Below (W0).heap.size (W0) ((on ux).alloc (.cells #[.int .u8 K, .int .u8 L, .int .i64 C, .int .i64 F, .int .i64 T] 29)) := by repeat first | (with_reducible exact Below.refl _ _) | (with_reducible refine below_on ?_ _) | (with_reducible refine below_alloc ?_ _)
  have cR : ∀ {b_ i_ : Nat} {v_ : Value}, (W0).cell? ⟨b_, i_, none⟩ = some v_ → ((on ux).alloc (.cells #[.int .u8 K, .int .u8 L, .int .i64 C, .int .i64 F, .int .i64 T] 29)).cell? ⟨b_, i_, none⟩ = some v_ := fun h => (hR.cell (World.block_lt_of_cell? _ _ h)).trans h
  have b00' := cR b00
  have b01' := cR b01
  have b02' := cR b02
  have b03' := cR b03
  have b04' := cR b04
  have B100 : ((on ux).alloc (.cells #[.int .u8 K, .int .u8 L, .int .i64 C, .int .i64 F, .int .i64 T] 29)).cell? ⟨(on ux).heap.size, 0, none⟩ = some (.int .u8 K) := by simp [go_sem]
  have B101 : ((on ux).alloc (.cells #[.int .u8 K, .int .u8 L, .int .i64 C, .int .i64 F, .int .i64 T] 29)).cell? ⟨(on ux).heap.size, 1, none⟩ = some (.int .u8 L) := by simp [go_sem]
  have B102 : ((on ux).alloc (.cells #[.int .u8 K, .int .u8 L, .int .i64 C, .int .i64 F, .int .i64 T] 29)).cell? ⟨(on ux).heap.size, 2, none⟩ = some (.int .i64 C) := by simp [go_sem]
  have B103 : ((on ux).alloc (.cells #[.int .u8 K, .int .u8 L, .int .i64 C, .int .i64 F, .int .i64 T] 29)).cell? ⟨(on ux).heap.size, 3, none⟩ = some (.int .i64 F) := by simp [go_sem]
  have B104 : ((on ux).alloc (.cells #[.int .u8 K, .int .u8 L, .int .i64 C, .int .i64 F, .int .i64 T] 29)).cell? ⟨(on ux).heap.size, 4, none⟩ = some (.int .i64 T) := by simp [go_sem]
  have hB1 : Below w.heap.size w ((on ux).alloc (.cells #[.int .u8 K, .int .u8 L, .int .i64 C, .int .i64 F, .int .i64 T] 29)) := by repeat first | (with_reducible exact hB0) | (with_reducible refine below_on ?_ _) | (with_reducible refine below_alloc ?_ _)
  clear hR cR b00 b01 b02 b03 b04  hB0
  generalize ((on ux).alloc (.cells #[.int .u8 K, .int .u8 L, .int .i64 C, .int .i64 F, .int .i64 T] 29)) = W1 at *
  generalize (on ux).heap.size = B1 at *
  clear ux
  go_wp2_with (first | (go_at_call 27; (with_reducible refine (HT.out _).mono ?_); rintro e wx ⟨rfl, hx⟩; obtain ⟨ux, rfl⟩ := after hx; clear hx) | (go_at_call 13; (with_reducible refine (lives7_ok _ (hS' _ (by repeat first | (with_reducible exact hB1) | (with_reducible refine below_on ?_ _) | (with_reducible refine below_alloc ?_ _) | (with_reducible refine below_set ?_ (by simp; try omega) _)))).mono ?_); rintro e wx ⟨rfl, hx⟩; obtain ⟨ux, rfl⟩ := after hx; clear hx) | fail)
  go_ret
  exact ⟨rfl, (by repeat first | (with_reducible exact hB1) | (with_reducible refine below_on ?_ _) | (with_reducible refine below_alloc ?_ _) | (with_reducible refine below_set ?_ (by simp; try omega) _))⟩

set_option maxRecDepth 100000 in
set_option maxHeartbeats 8000000 in
theorem stx_6B (k l c f t : Int) (s : ByteArray) (w : World) (hA : All w) (a1 : 1 ≤ k) (a2 : k ≤ 3) (b1 : 1 ≤ l) (b2 : l ≤ 4) (b3 : -4096 ≤ c) (b4 : c ≤ 4096) (e1 : f < t) (e2 : -4096 ≤ f) (h : 4096 < t) (HB : Hid (k < 1 ∨ 3 < k ∨ l < 1 ∨ 4 < l ∨ c < -4096 ∨ 4096 < c ∨ t ≤ f ∨ f < -4096 ∨ 4096 < t)) (hl : (s.size : Int) ≤ 40) (HP : Hid (∀ w, Std w → Calls Tryz.prog 28 #[.string s] w fun e w' => e = .returned (.tuple #[sg 0 0 0 0 0, .int .i64 4]) ∧ Below w.heap.size w w')) : Calls Tryz.prog 8 #[sg k l c f t, .string s] w fun e w' => e = .returned (.bool true) ∧ Below w.heap.size w w' := by
  have hS' : ∀ W, Below w.heap.size w W → All W := fun W h => all_below hA h
  go_enter Tryz.func8, Tryz.ntmps8
  go_wp2_with fail
  have hB0 : Below w.heap.size w (w.alloc (.cells #[.int .u8 k, .int .u8 l, .int .i64 c, .int .i64 f, .int .i64 t] 29)) := (by repeat first | (with_reducible exact Below.refl _ _) | (with_reducible refine below_on ?_ _) | (with_reducible refine below_alloc ?_ _) | (with_reducible refine below_set ?_ (by simp; try omega) _))
  have b00 : (w.alloc (.cells #[.int .u8 k, .int .u8 l, .int .i64 c, .int .i64 f, .int .i64 t] 29)).cell? ⟨w.heap.size, 0, none⟩ = some (.int .u8 k) := by simp [go_sem]
  have b01 : (w.alloc (.cells #[.int .u8 k, .int .u8 l, .int .i64 c, .int .i64 f, .int .i64 t] 29)).cell? ⟨w.heap.size, 1, none⟩ = some (.int .u8 l) := by simp [go_sem]
  have b02 : (w.alloc (.cells #[.int .u8 k, .int .u8 l, .int .i64 c, .int .i64 f, .int .i64 t] 29)).cell? ⟨w.heap.size, 2, none⟩ = some (.int .i64 c) := by simp [go_sem]
  have b03 : (w.alloc (.cells #[.int .u8 k, .int .u8 l, .int .i64 c, .int .i64 f, .int .i64 t] 29)).cell? ⟨w.heap.size, 3, none⟩ = some (.int .i64 f) := by simp [go_sem]
  have b04 : (w.alloc (.cells #[.int .u8 k, .int .u8 l, .int .i64 c, .int .i64 f, .int .i64 t] 29)).cell? ⟨w.heap.size, 4, none⟩ = some (.int .i64 t) := by simp [go_sem]
  generalize (w.alloc (.cells #[.int .u8 k, .int .u8 l, .int .i64 c, .int .i64 f, .int .i64 t] 29)) = W0 at *
  go_wp2_with (first | (go_at_call 26; (with_reducible refine (valid_yes l c _ b1 b2 b3 b4).mono ?_); rintro e wx ⟨rfl, hx⟩; obtain ⟨ux, rfl⟩ := after hx; clear hx) | (go_at_call 29; (with_reducible refine (stext_bad k l c f t _ HB.out).mono ?_); rintro e wx ⟨rfl, hx⟩; obtain ⟨ux, rfl⟩ := after hx; clear hx) | fail)
  go_wp2_with (first | (go_at_call 28; (with_reducible refine (HP.out _ (hS' _ (by repeat first | (with_reducible exact hB0) | (with_reducible refine below_on ?_ _) | (with_reducible refine below_alloc ?_ _) | (with_reducible refine below_set ?_ (by simp; try omega) _))).std).mono ?_); rintro e wx ⟨rfl, hx⟩; obtain ⟨ux, rfl⟩ := after hx; clear hx) | fail)
  have hR : Below (W0).heap.size (W0) ((on ux).alloc (.cells #[.int .u8 0, .int .u8 0, .int .i64 0, .int .i64 0, .int .i64 0] 29)) := by repeat first | (with_reducible exact Below.refl _ _) | (with_reducible refine below_on ?_ _) | (with_reducible refine below_alloc ?_ _)
  have cR : ∀ {b_ i_ : Nat} {v_ : Value}, (W0).cell? ⟨b_, i_, none⟩ = some v_ → ((on ux).alloc (.cells #[.int .u8 0, .int .u8 0, .int .i64 0, .int .i64 0, .int .i64 0] 29)).cell? ⟨b_, i_, none⟩ = some v_ := fun h => (hR.cell (World.block_lt_of_cell? _ _ h)).trans h
  have b00' := cR b00
  have b01' := cR b01
  have b02' := cR b02
  have b03' := cR b03
  have b04' := cR b04
  have B100 : ((on ux).alloc (.cells #[.int .u8 0, .int .u8 0, .int .i64 0, .int .i64 0, .int .i64 0] 29)).cell? ⟨(on ux).heap.size, 0, none⟩ = some (.int .u8 0) := by simp [go_sem]
  have B101 : ((on ux).alloc (.cells #[.int .u8 0, .int .u8 0, .int .i64 0, .int .i64 0, .int .i64 0] 29)).cell? ⟨(on ux).heap.size, 1, none⟩ = some (.int .u8 0) := by simp [go_sem]
  have B102 : ((on ux).alloc (.cells #[.int .u8 0, .int .u8 0, .int .i64 0, .int .i64 0, .int .i64 0] 29)).cell? ⟨(on ux).heap.size, 2, none⟩ = some (.int .i64 0) := by simp [go_sem]
  have B103 : ((on ux).alloc (.cells #[.int .u8 0, .int .u8 0, .int .i64 0, .int .i64 0, .int .i64 0] 29)).cell? ⟨(on ux).heap.size, 3, none⟩ = some (.int .i64 0) := by simp [go_sem]
  have B104 : ((on ux).alloc (.cells #[.int .u8 0, .int .u8 0, .int .i64 0, .int .i64 0, .int .i64 0] 29)).cell? ⟨(on ux).heap.size, 4, none⟩ = some (.int .i64 0) := by simp [go_sem]
  have hB1 : Below w.heap.size w ((on ux).alloc (.cells #[.int .u8 0, .int .u8 0, .int .i64 0, .int .i64 0, .int .i64 0] 29)) := by repeat first | (with_reducible exact hB0) | (with_reducible refine below_on ?_ _) | (with_reducible refine below_alloc ?_ _)
  clear hR cR b00 b01 b02 b03 b04  hB0
  generalize ((on ux).alloc (.cells #[.int .u8 0, .int .u8 0, .int .i64 0, .int .i64 0, .int .i64 0] 29)) = W1 at *
  generalize (on ux).heap.size = B1 at *
  clear ux
  go_wp2_with (first | (go_at_call 13; (with_reducible refine (lives7_ok _ (hS' _ (by repeat first | (with_reducible exact hB1) | (with_reducible refine below_on ?_ _) | (with_reducible refine below_alloc ?_ _) | (with_reducible refine below_set ?_ (by simp; try omega) _)))).mono ?_); rintro e wx ⟨rfl, hx⟩; obtain ⟨ux, rfl⟩ := after hx; clear hx) | fail)
  go_ret
  exact ⟨rfl, (by repeat first | (with_reducible exact hB1) | (with_reducible refine below_on ?_ _) | (with_reducible refine below_alloc ?_ _) | (with_reducible refine below_set ?_ (by simp; try omega) _))⟩

end Go.Proofs.YtkmmnlhmfiabfaaGreatDoor
