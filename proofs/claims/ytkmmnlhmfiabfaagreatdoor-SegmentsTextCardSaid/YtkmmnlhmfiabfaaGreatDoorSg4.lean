/-
  Says: what Parse of package segments gives.
-/
import Derived.Test.YtkmmnlhmfiabfaaGreatDoorSg3
import Derived.Test.YtkmmnlhmfiabfaaGreatDoorSg1
import Derived.Test.YtkmmnlhmfiabfaaGreatDoorFnP
import Derived.Lib.IndexBytes
import Derived.Deep.RegionHeld3
import Derived.RowKit3
set_option linter.unusedVariables false
set_option linter.unusedSimpArgs false
namespace Go.Proofs.YtkmmnlhmfiabfaaGreatDoor
open Go Go.RowKit

attribute [local go_sem] World.cell?_alloc_some frozen?_alloc_cells fz0 fz1 fz2 fz3 fz4 fz5

set_option maxRecDepth 100000 in
set_option maxHeartbeats 4000000 in
theorem sparse_ok (s : ByteArray) (k l c f t : Int) (w : World) (hS : Std w) (RD : ∀ w, Std w → Calls Tryz.prog 55 #[.string s] w fun e w' => e = .returned (sg k l c f t) ∧ Below w.heap.size w w') (a1 : 1 ≤ k) (a2 : k ≤ 3) (b1 : 1 ≤ l) (b2 : l ≤ 4) (b3 : -4096 ≤ c) (b4 : c ≤ 4096) (e1 : f < t) (e2 : -4096 ≤ f) (e3 : t ≤ 4096) (ht : (textS k l c f t == s.toList) = true) : Calls Tryz.prog 28 #[.string s] w fun e w' => e = .returned (.tuple #[sg k l c f t, .int .i64 0]) ∧ Below w.heap.size w w' := by
  have hS' : ∀ W, Below w.heap.size w W → Std W := fun W h => std_below hS h
  have hne : (textS k l c f t == []) = false := rfl
  have hn2 : (textS k l c f t == (ByteArray.mk #[]).toList) = false := by rw [show (ByteArray.mk #[]).toList = [] from toList_mk []]; rfl
  go_enter Tryz.func28, Tryz.ntmps28
  go_wp2_with (first | (go_at_call 55; (with_reducible refine (RD _ (hS' _ (by repeat first | (with_reducible exact Below.refl _ _) | (with_reducible refine below_on ?_ _) | (with_reducible refine below_alloc ?_ _) | (with_reducible refine below_set ?_ (by simp; try omega) _)))).mono ?_); rintro e wx ⟨rfl, hx⟩; obtain ⟨ux, rfl⟩ := after hx; clear hx) | fail)
  have hR : Below (w.alloc (.cells #[.int .u8 0, .int .u8 0, .int .i64 0, .int .i64 0, .int .i64 0] 29)).heap.size (w.alloc (.cells #[.int .u8 0, .int .u8 0, .int .i64 0, .int .i64 0, .int .i64 0] 29)) ((on ux).alloc (.cells #[.int .u8 k, .int .u8 l, .int .i64 c, .int .i64 f, .int .i64 t] 29)) := by repeat first | (with_reducible exact Below.refl _ _) | (with_reducible refine below_on ?_ _) | (with_reducible refine below_alloc ?_ _)
  have c0 : ((on ux).alloc (.cells #[.int .u8 k, .int .u8 l, .int .i64 c, .int .i64 f, .int .i64 t] 29)).cell? ⟨w.heap.size, 0, none⟩ = some (.int .u8 0) := by rw [hR.cell (p := ⟨w.heap.size, 0, none⟩) (by simp [World.size_alloc] <;> omega)]; simp [go_sem]
  have f0 : ((on ux).alloc (.cells #[.int .u8 k, .int .u8 l, .int .i64 c, .int .i64 f, .int .i64 t] 29)).frozen? ⟨w.heap.size, 0, none⟩ = false := by rw [hR.frozen (p := ⟨w.heap.size, 0, none⟩) (by simp [World.size_alloc] <;> omega)]; simp [go_sem]
  have c1 : ((on ux).alloc (.cells #[.int .u8 k, .int .u8 l, .int .i64 c, .int .i64 f, .int .i64 t] 29)).cell? ⟨w.heap.size, 1, none⟩ = some (.int .u8 0) := by rw [hR.cell (p := ⟨w.heap.size, 1, none⟩) (by simp [World.size_alloc] <;> omega)]; simp [go_sem]
  have f1 : ((on ux).alloc (.cells #[.int .u8 k, .int .u8 l, .int .i64 c, .int .i64 f, .int .i64 t] 29)).frozen? ⟨w.heap.size, 1, none⟩ = false := by rw [hR.frozen (p := ⟨w.heap.size, 1, none⟩) (by simp [World.size_alloc] <;> omega)]; simp [go_sem]
  have c2 : ((on ux).alloc (.cells #[.int .u8 k, .int .u8 l, .int .i64 c, .int .i64 f, .int .i64 t] 29)).cell? ⟨w.heap.size, 2, none⟩ = some (.int .i64 0) := by rw [hR.cell (p := ⟨w.heap.size, 2, none⟩) (by simp [World.size_alloc] <;> omega)]; simp [go_sem]
  have f2 : ((on ux).alloc (.cells #[.int .u8 k, .int .u8 l, .int .i64 c, .int .i64 f, .int .i64 t] 29)).frozen? ⟨w.heap.size, 2, none⟩ = false := by rw [hR.frozen (p := ⟨w.heap.size, 2, none⟩) (by simp [World.size_alloc] <;> omega)]; simp [go_sem]
  have c3 : ((on ux).alloc (.cells #[.int .u8 k, .int .u8 l, .int .i64 c, .int .i64 f, .int .i64 t] 29)).cell? ⟨w.heap.size, 3, none⟩ = some (.int .i64 0) := by rw [hR.cell (p := ⟨w.heap.size, 3, none⟩) (by simp [World.size_alloc] <;> omega)]; simp [go_sem]
  have f3 : ((on ux).alloc (.cells #[.int .u8 k, .int .u8 l, .int .i64 c, .int .i64 f, .int .i64 t] 29)).frozen? ⟨w.heap.size, 3, none⟩ = false := by rw [hR.frozen (p := ⟨w.heap.size, 3, none⟩) (by simp [World.size_alloc] <;> omega)]; simp [go_sem]
  have c4 : ((on ux).alloc (.cells #[.int .u8 k, .int .u8 l, .int .i64 c, .int .i64 f, .int .i64 t] 29)).cell? ⟨w.heap.size, 4, none⟩ = some (.int .i64 0) := by rw [hR.cell (p := ⟨w.heap.size, 4, none⟩) (by simp [World.size_alloc] <;> omega)]; simp [go_sem]
  have f4 : ((on ux).alloc (.cells #[.int .u8 k, .int .u8 l, .int .i64 c, .int .i64 f, .int .i64 t] 29)).frozen? ⟨w.heap.size, 4, none⟩ = false := by rw [hR.frozen (p := ⟨w.heap.size, 4, none⟩) (by simp [World.size_alloc] <;> omega)]; simp [go_sem]
  have c5 : ((on ux).alloc (.cells #[.int .u8 k, .int .u8 l, .int .i64 c, .int .i64 f, .int .i64 t] 29)).cell? ⟨(on ux).heap.size, 0, none⟩ = some (.int .u8 k) := by simp [go_sem]
  have f5 : ((on ux).alloc (.cells #[.int .u8 k, .int .u8 l, .int .i64 c, .int .i64 f, .int .i64 t] 29)).frozen? ⟨(on ux).heap.size, 0, none⟩ = false := by simp [go_sem]
  have c6 : ((on ux).alloc (.cells #[.int .u8 k, .int .u8 l, .int .i64 c, .int .i64 f, .int .i64 t] 29)).cell? ⟨(on ux).heap.size, 1, none⟩ = some (.int .u8 l) := by simp [go_sem]
  have f6 : ((on ux).alloc (.cells #[.int .u8 k, .int .u8 l, .int .i64 c, .int .i64 f, .int .i64 t] 29)).frozen? ⟨(on ux).heap.size, 1, none⟩ = false := by simp [go_sem]
  have c7 : ((on ux).alloc (.cells #[.int .u8 k, .int .u8 l, .int .i64 c, .int .i64 f, .int .i64 t] 29)).cell? ⟨(on ux).heap.size, 2, none⟩ = some (.int .i64 c) := by simp [go_sem]
  have f7 : ((on ux).alloc (.cells #[.int .u8 k, .int .u8 l, .int .i64 c, .int .i64 f, .int .i64 t] 29)).frozen? ⟨(on ux).heap.size, 2, none⟩ = false := by simp [go_sem]
  have c8 : ((on ux).alloc (.cells #[.int .u8 k, .int .u8 l, .int .i64 c, .int .i64 f, .int .i64 t] 29)).cell? ⟨(on ux).heap.size, 3, none⟩ = some (.int .i64 f) := by simp [go_sem]
  have f8 : ((on ux).alloc (.cells #[.int .u8 k, .int .u8 l, .int .i64 c, .int .i64 f, .int .i64 t] 29)).frozen? ⟨(on ux).heap.size, 3, none⟩ = false := by simp [go_sem]
  have c9 : ((on ux).alloc (.cells #[.int .u8 k, .int .u8 l, .int .i64 c, .int .i64 f, .int .i64 t] 29)).cell? ⟨(on ux).heap.size, 4, none⟩ = some (.int .i64 t) := by simp [go_sem]
  have f9 : ((on ux).alloc (.cells #[.int .u8 k, .int .u8 l, .int .i64 c, .int .i64 f, .int .i64 t] 29)).frozen? ⟨(on ux).heap.size, 4, none⟩ = false := by simp [go_sem]
  have hZ : Below (w.alloc (.cells #[.int .u8 0, .int .u8 0, .int .i64 0, .int .i64 0, .int .i64 0] 29)).heap.size (w.alloc (.cells #[.int .u8 0, .int .u8 0, .int .i64 0, .int .i64 0, .int .i64 0] 29)) (on ux) := by repeat first | (with_reducible exact Below.refl _ _) | (with_reducible refine below_on ?_ _) | (with_reducible refine below_alloc ?_ _)
  have z0 : w.heap.size < (on ux).heap.size := Nat.lt_of_lt_of_le (show w.heap.size < (w.alloc (.cells #[.int .u8 0, .int .u8 0, .int .i64 0, .int .i64 0, .int .i64 0] 29)).heap.size by simp [World.size_alloc] <;> omega) hZ.size
  clear hZ
  have hB : Below w.heap.size w ((on ux).alloc (.cells #[.int .u8 k, .int .u8 l, .int .i64 c, .int .i64 f, .int .i64 t] 29)) := by repeat first | (with_reducible exact Below.refl _ _) | (with_reducible refine below_on ?_ _) | (with_reducible refine below_alloc ?_ _)
  clear hR
  generalize ((on ux).alloc (.cells #[.int .u8 k, .int .u8 l, .int .i64 c, .int .i64 f, .int .i64 t] 29)) = Wn at *
  generalize (on ux).heap.size = Bn at *
  clear ux
  go_wp2_with (first | (go_at_call 29; (with_reducible refine (stext_ok k l c f t _ (hS' _ (by repeat first | (with_reducible exact hB) | (with_reducible refine below_on ?_ _) | (with_reducible refine below_alloc ?_ _) | (with_reducible refine below_set ?_ (by simp; try omega) _))).tab a1 a2 b1 b2 b3 b4 e1 e2 e3).mono ?_); rintro e wx ⟨rfl, hx⟩; obtain ⟨ux, rfl⟩ := after hx; clear hx) | fail)
  exact bodyPost_ret (v := .tuple #[sg k l c f t, .int .i64 0]) (by simp [results, Tryz.results28, go_sem, c0, c1, c2, c3, c4]) rfl ⟨rfl, (by repeat first | (with_reducible exact hB) | (with_reducible refine below_on ?_ _) | (with_reducible refine below_alloc ?_ _) | (with_reducible refine below_set ?_ (by simp; try omega) _))⟩

set_option maxRecDepth 100000 in
set_option maxHeartbeats 4000000 in
theorem sparse_other (s : ByteArray) (k l c f t : Int) (w : World) (hS : Std w) (RD : ∀ w, Std w → Calls Tryz.prog 55 #[.string s] w fun e w' => e = .returned (sg k l c f t) ∧ Below w.heap.size w w') (a1 : 1 ≤ k) (a2 : k ≤ 3) (b1 : 1 ≤ l) (b2 : l ≤ 4) (b3 : -4096 ≤ c) (b4 : c ≤ 4096) (e1 : f < t) (e2 : -4096 ≤ f) (e3 : t ≤ 4096) (ht : (textS k l c f t == s.toList) = false) : Calls Tryz.prog 28 #[.string s] w fun e w' => e = .returned (.tuple #[sg 0 0 0 0 0, .int .i64 4]) ∧ Below w.heap.size w w' := by
  have hS' : ∀ W, Below w.heap.size w W → Std W := fun W h => std_below hS h
  have hne : (textS k l c f t == []) = false := rfl
  have hn2 : (textS k l c f t == (ByteArray.mk #[]).toList) = false := by rw [show (ByteArray.mk #[]).toList = [] from toList_mk []]; rfl
  go_enter Tryz.func28, Tryz.ntmps28
  go_wp2_with (first | (go_at_call 55; (with_reducible refine (RD _ (hS' _ (by repeat first | (with_reducible exact Below.refl _ _) | (with_reducible refine below_on ?_ _) | (with_reducible refine below_alloc ?_ _) | (with_reducible refine below_set ?_ (by simp; try omega) _)))).mono ?_); rintro e wx ⟨rfl, hx⟩; obtain ⟨ux, rfl⟩ := after hx; clear hx) | fail)
  have hR : Below (w.alloc (.cells #[.int .u8 0, .int .u8 0, .int .i64 0, .int .i64 0, .int .i64 0] 29)).heap.size (w.alloc (.cells #[.int .u8 0, .int .u8 0, .int .i64 0, .int .i64 0, .int .i64 0] 29)) ((on ux).alloc (.cells #[.int .u8 k, .int .u8 l, .int .i64 c, .int .i64 f, .int .i64 t] 29)) := by repeat first | (with_reducible exact Below.refl _ _) | (with_reducible refine below_on ?_ _) | (with_reducible refine below_alloc ?_ _)
  have c0 : ((on ux).alloc (.cells #[.int .u8 k, .int .u8 l, .int .i64 c, .int .i64 f, .int .i64 t] 29)).cell? ⟨w.heap.size, 0, none⟩ = some (.int .u8 0) := by rw [hR.cell (p := ⟨w.heap.size, 0, none⟩) (by simp [World.size_alloc] <;> omega)]; simp [go_sem]
  have f0 : ((on ux).alloc (.cells #[.int .u8 k, .int .u8 l, .int .i64 c, .int .i64 f, .int .i64 t] 29)).frozen? ⟨w.heap.size, 0, none⟩ = false := by rw [hR.frozen (p := ⟨w.heap.size, 0, none⟩) (by simp [World.size_alloc] <;> omega)]; simp [go_sem]
  have c1 : ((on ux).alloc (.cells #[.int .u8 k, .int .u8 l, .int .i64 c, .int .i64 f, .int .i64 t] 29)).cell? ⟨w.heap.size, 1, none⟩ = some (.int .u8 0) := by rw [hR.cell (p := ⟨w.heap.size, 1, none⟩) (by simp [World.size_alloc] <;> omega)]; simp [go_sem]
  have f1 : ((on ux).alloc (.cells #[.int .u8 k, .int .u8 l, .int .i64 c, .int .i64 f, .int .i64 t] 29)).frozen? ⟨w.heap.size, 1, none⟩ = false := by rw [hR.frozen (p := ⟨w.heap.size, 1, none⟩) (by simp [World.size_alloc] <;> omega)]; simp [go_sem]
  have c2 : ((on ux).alloc (.cells #[.int .u8 k, .int .u8 l, .int .i64 c, .int .i64 f, .int .i64 t] 29)).cell? ⟨w.heap.size, 2, none⟩ = some (.int .i64 0) := by rw [hR.cell (p := ⟨w.heap.size, 2, none⟩) (by simp [World.size_alloc] <;> omega)]; simp [go_sem]
  have f2 : ((on ux).alloc (.cells #[.int .u8 k, .int .u8 l, .int .i64 c, .int .i64 f, .int .i64 t] 29)).frozen? ⟨w.heap.size, 2, none⟩ = false := by rw [hR.frozen (p := ⟨w.heap.size, 2, none⟩) (by simp [World.size_alloc] <;> omega)]; simp [go_sem]
  have c3 : ((on ux).alloc (.cells #[.int .u8 k, .int .u8 l, .int .i64 c, .int .i64 f, .int .i64 t] 29)).cell? ⟨w.heap.size, 3, none⟩ = some (.int .i64 0) := by rw [hR.cell (p := ⟨w.heap.size, 3, none⟩) (by simp [World.size_alloc] <;> omega)]; simp [go_sem]
  have f3 : ((on ux).alloc (.cells #[.int .u8 k, .int .u8 l, .int .i64 c, .int .i64 f, .int .i64 t] 29)).frozen? ⟨w.heap.size, 3, none⟩ = false := by rw [hR.frozen (p := ⟨w.heap.size, 3, none⟩) (by simp [World.size_alloc] <;> omega)]; simp [go_sem]
  have c4 : ((on ux).alloc (.cells #[.int .u8 k, .int .u8 l, .int .i64 c, .int .i64 f, .int .i64 t] 29)).cell? ⟨w.heap.size, 4, none⟩ = some (.int .i64 0) := by rw [hR.cell (p := ⟨w.heap.size, 4, none⟩) (by simp [World.size_alloc] <;> omega)]; simp [go_sem]
  have f4 : ((on ux).alloc (.cells #[.int .u8 k, .int .u8 l, .int .i64 c, .int .i64 f, .int .i64 t] 29)).frozen? ⟨w.heap.size, 4, none⟩ = false := by rw [hR.frozen (p := ⟨w.heap.size, 4, none⟩) (by simp [World.size_alloc] <;> omega)]; simp [go_sem]
  have c5 : ((on ux).alloc (.cells #[.int .u8 k, .int .u8 l, .int .i64 c, .int .i64 f, .int .i64 t] 29)).cell? ⟨(on ux).heap.size, 0, none⟩ = some (.int .u8 k) := by simp [go_sem]
  have f5 : ((on ux).alloc (.cells #[.int .u8 k, .int .u8 l, .int .i64 c, .int .i64 f, .int .i64 t] 29)).frozen? ⟨(on ux).heap.size, 0, none⟩ = false := by simp [go_sem]
  have c6 : ((on ux).alloc (.cells #[.int .u8 k, .int .u8 l, .int .i64 c, .int .i64 f, .int .i64 t] 29)).cell? ⟨(on ux).heap.size, 1, none⟩ = some (.int .u8 l) := by simp [go_sem]
  have f6 : ((on ux).alloc (.cells #[.int .u8 k, .int .u8 l, .int .i64 c, .int .i64 f, .int .i64 t] 29)).frozen? ⟨(on ux).heap.size, 1, none⟩ = false := by simp [go_sem]
  have c7 : ((on ux).alloc (.cells #[.int .u8 k, .int .u8 l, .int .i64 c, .int .i64 f, .int .i64 t] 29)).cell? ⟨(on ux).heap.size, 2, none⟩ = some (.int .i64 c) := by simp [go_sem]
  have f7 : ((on ux).alloc (.cells #[.int .u8 k, .int .u8 l, .int .i64 c, .int .i64 f, .int .i64 t] 29)).frozen? ⟨(on ux).heap.size, 2, none⟩ = false := by simp [go_sem]
  have c8 : ((on ux).alloc (.cells #[.int .u8 k, .int .u8 l, .int .i64 c, .int .i64 f, .int .i64 t] 29)).cell? ⟨(on ux).heap.size, 3, none⟩ = some (.int .i64 f) := by simp [go_sem]
  have f8 : ((on ux).alloc (.cells #[.int .u8 k, .int .u8 l, .int .i64 c, .int .i64 f, .int .i64 t] 29)).frozen? ⟨(on ux).heap.size, 3, none⟩ = false := by simp [go_sem]
  have c9 : ((on ux).alloc (.cells #[.int .u8 k, .int .u8 l, .int .i64 c, .int .i64 f, .int .i64 t] 29)).cell? ⟨(on ux).heap.size, 4, none⟩ = some (.int .i64 t) := by simp [go_sem]
  have f9 : ((on ux).alloc (.cells #[.int .u8 k, .int .u8 l, .int .i64 c, .int .i64 f, .int .i64 t] 29)).frozen? ⟨(on ux).heap.size, 4, none⟩ = false := by simp [go_sem]
  have hZ : Below (w.alloc (.cells #[.int .u8 0, .int .u8 0, .int .i64 0, .int .i64 0, .int .i64 0] 29)).heap.size (w.alloc (.cells #[.int .u8 0, .int .u8 0, .int .i64 0, .int .i64 0, .int .i64 0] 29)) (on ux) := by repeat first | (with_reducible exact Below.refl _ _) | (with_reducible refine below_on ?_ _) | (with_reducible refine below_alloc ?_ _)
  have z0 : w.heap.size < (on ux).heap.size := Nat.lt_of_lt_of_le (show w.heap.size < (w.alloc (.cells #[.int .u8 0, .int .u8 0, .int .i64 0, .int .i64 0, .int .i64 0] 29)).heap.size by simp [World.size_alloc] <;> omega) hZ.size
  clear hZ
  have hB : Below w.heap.size w ((on ux).alloc (.cells #[.int .u8 k, .int .u8 l, .int .i64 c, .int .i64 f, .int .i64 t] 29)) := by repeat first | (with_reducible exact Below.refl _ _) | (with_reducible refine below_on ?_ _) | (with_reducible refine below_alloc ?_ _)
  clear hR
  generalize ((on ux).alloc (.cells #[.int .u8 k, .int .u8 l, .int .i64 c, .int .i64 f, .int .i64 t] 29)) = Wn at *
  generalize (on ux).heap.size = Bn at *
  clear ux
  go_wp2_with (first | (go_at_call 29; (with_reducible refine (stext_ok k l c f t _ (hS' _ (by repeat first | (with_reducible exact hB) | (with_reducible refine below_on ?_ _) | (with_reducible refine below_alloc ?_ _) | (with_reducible refine below_set ?_ (by simp; try omega) _))).tab a1 a2 b1 b2 b3 b4 e1 e2 e3).mono ?_); rintro e wx ⟨rfl, hx⟩; obtain ⟨ux, rfl⟩ := after hx; clear hx) | fail)
  exact bodyPost_ret (v := .tuple #[sg 0 0 0 0 0, .int .i64 4]) (by simp [results, Tryz.results28, go_sem, c0, c1, c2, c3, c4]) rfl ⟨rfl, (by repeat first | (with_reducible exact hB) | (with_reducible refine below_on ?_ _) | (with_reducible refine below_alloc ?_ _) | (with_reducible refine below_set ?_ (by simp; try omega) _))⟩

set_option maxRecDepth 100000 in
set_option maxHeartbeats 4000000 in
theorem sparse_bad (s : ByteArray) (k l c f t : Int) (w : World) (hS : Std w) (RD : ∀ w, Std w → Calls Tryz.prog 55 #[.string s] w fun e w' => e = .returned (sg k l c f t) ∧ Below w.heap.size w w') (h : k < 1 ∨ 3 < k ∨ l < 1 ∨ 4 < l ∨ c < -4096 ∨ 4096 < c ∨ t ≤ f ∨ f < -4096 ∨ 4096 < t) : Calls Tryz.prog 28 #[.string s] w fun e w' => e = .returned (.tuple #[sg 0 0 0 0 0, .int .i64 4]) ∧ Below w.heap.size w w' := by
  have hS' : ∀ W, Below w.heap.size w W → Std W := fun W h => std_below hS h
  have H : Hid (k < 1 ∨ 3 < k ∨ l < 1 ∨ 4 < l ∨ c < -4096 ∨ 4096 < c ∨ t ≤ f ∨ f < -4096 ∨ 4096 < t) := h
  clear h
  go_enter Tryz.func28, Tryz.ntmps28
  go_wp2_with (first | (go_at_call 55; (with_reducible refine (RD _ (hS' _ (by repeat first | (with_reducible exact Below.refl _ _) | (with_reducible refine below_on ?_ _) | (with_reducible refine below_alloc ?_ _) | (with_reducible refine below_set ?_ (by simp; try omega) _)))).mono ?_); rintro e wx ⟨rfl, hx⟩; obtain ⟨ux, rfl⟩ := after hx; clear hx) | fail)
  have hR : Below (w.alloc (.cells #[.int .u8 0, .int .u8 0, .int .i64 0, .int .i64 0, .int .i64 0] 29)).heap.size (w.alloc (.cells #[.int .u8 0, .int .u8 0, .int .i64 0, .int .i64 0, .int .i64 0] 29)) ((on ux).alloc (.cells #[.int .u8 k, .int .u8 l, .int .i64 c, .int .i64 f, .int .i64 t] 29)) := by repeat first | (with_reducible exact Below.refl _ _) | (with_reducible refine below_on ?_ _) | (with_reducible refine below_alloc ?_ _)
  have c0 : ((on ux).alloc (.cells #[.int .u8 k, .int .u8 l, .int .i64 c, .int .i64 f, .int .i64 t] 29)).cell? ⟨w.heap.size, 0, none⟩ = some (.int .u8 0) := by rw [hR.cell (p := ⟨w.heap.size, 0, none⟩) (by simp [World.size_alloc] <;> omega)]; simp [go_sem]
  have f0 : ((on ux).alloc (.cells #[.int .u8 k, .int .u8 l, .int .i64 c, .int .i64 f, .int .i64 t] 29)).frozen? ⟨w.heap.size, 0, none⟩ = false := by rw [hR.frozen (p := ⟨w.heap.size, 0, none⟩) (by simp [World.size_alloc] <;> omega)]; simp [go_sem]
  have c1 : ((on ux).alloc (.cells #[.int .u8 k, .int .u8 l, .int .i64 c, .int .i64 f, .int .i64 t] 29)).cell? ⟨w.heap.size, 1, none⟩ = some (.int .u8 0) := by rw [hR.cell (p := ⟨w.heap.size, 1, none⟩) (by simp [World.size_alloc] <;> omega)]; simp [go_sem]
  have f1 : ((on ux).alloc (.cells #[.int .u8 k, .int .u8 l, .int .i64 c, .int .i64 f, .int .i64 t] 29)).frozen? ⟨w.heap.size, 1, none⟩ = false := by rw [hR.frozen (p := ⟨w.heap.size, 1, none⟩) (by simp [World.size_alloc] <;> omega)]; simp [go_sem]
  have c2 : ((on ux).alloc (.cells #[.int .u8 k, .int .u8 l, .int .i64 c, .int .i64 f, .int .i64 t] 29)).cell? ⟨w.heap.size, 2, none⟩ = some (.int .i64 0) := by rw [hR.cell (p := ⟨w.heap.size, 2, none⟩) (by simp [World.size_alloc] <;> omega)]; simp [go_sem]
  have f2 : ((on ux).alloc (.cells #[.int .u8 k, .int .u8 l, .int .i64 c, .int .i64 f, .int .i64 t] 29)).frozen? ⟨w.heap.size, 2, none⟩ = false := by rw [hR.frozen (p := ⟨w.heap.size, 2, none⟩) (by simp [World.size_alloc] <;> omega)]; simp [go_sem]
  have c3 : ((on ux).alloc (.cells #[.int .u8 k, .int .u8 l, .int .i64 c, .int .i64 f, .int .i64 t] 29)).cell? ⟨w.heap.size, 3, none⟩ = some (.int .i64 0) := by rw [hR.cell (p := ⟨w.heap.size, 3, none⟩) (by simp [World.size_alloc] <;> omega)]; simp [go_sem]
  have f3 : ((on ux).alloc (.cells #[.int .u8 k, .int .u8 l, .int .i64 c, .int .i64 f, .int .i64 t] 29)).frozen? ⟨w.heap.size, 3, none⟩ = false := by rw [hR.frozen (p := ⟨w.heap.size, 3, none⟩) (by simp [World.size_alloc] <;> omega)]; simp [go_sem]
  have c4 : ((on ux).alloc (.cells #[.int .u8 k, .int .u8 l, .int .i64 c, .int .i64 f, .int .i64 t] 29)).cell? ⟨w.heap.size, 4, none⟩ = some (.int .i64 0) := by rw [hR.cell (p := ⟨w.heap.size, 4, none⟩) (by simp [World.size_alloc] <;> omega)]; simp [go_sem]
  have f4 : ((on ux).alloc (.cells #[.int .u8 k, .int .u8 l, .int .i64 c, .int .i64 f, .int .i64 t] 29)).frozen? ⟨w.heap.size, 4, none⟩ = false := by rw [hR.frozen (p := ⟨w.heap.size, 4, none⟩) (by simp [World.size_alloc] <;> omega)]; simp [go_sem]
  have c5 : ((on ux).alloc (.cells #[.int .u8 k, .int .u8 l, .int .i64 c, .int .i64 f, .int .i64 t] 29)).cell? ⟨(on ux).heap.size, 0, none⟩ = some (.int .u8 k) := by simp [go_sem]
  have f5 : ((on ux).alloc (.cells #[.int .u8 k, .int .u8 l, .int .i64 c, .int .i64 f, .int .i64 t] 29)).frozen? ⟨(on ux).heap.size, 0, none⟩ = false := by simp [go_sem]
  have c6 : ((on ux).alloc (.cells #[.int .u8 k, .int .u8 l, .int .i64 c, .int .i64 f, .int .i64 t] 29)).cell? ⟨(on ux).heap.size, 1, none⟩ = some (.int .u8 l) := by simp [go_sem]
  have f6 : ((on ux).alloc (.cells #[.int .u8 k, .int .u8 l, .int .i64 c, .int .i64 f, .int .i64 t] 29)).frozen? ⟨(on ux).heap.size, 1, none⟩ = false := by simp [go_sem]
  have c7 : ((on ux).alloc (.cells #[.int .u8 k, .int .u8 l, .int .i64 c, .int .i64 f, .int .i64 t] 29)).cell? ⟨(on ux).heap.size, 2, none⟩ = some (.int .i64 c) := by simp [go_sem]
  have f7 : ((on ux).alloc (.cells #[.int .u8 k, .int .u8 l, .int .i64 c, .int .i64 f, .int .i64 t] 29)).frozen? ⟨(on ux).heap.size, 2, none⟩ = false := by simp [go_sem]
  have c8 : ((on ux).alloc (.cells #[.int .u8 k, .int .u8 l, .int .i64 c, .int .i64 f, .int .i64 t] 29)).cell? ⟨(on ux).heap.size, 3, none⟩ = some (.int .i64 f) := by simp [go_sem]
  have f8 : ((on ux).alloc (.cells #[.int .u8 k, .int .u8 l, .int .i64 c, .int .i64 f, .int .i64 t] 29)).frozen? ⟨(on ux).heap.size, 3, none⟩ = false := by simp [go_sem]
  have c9 : ((on ux).alloc (.cells #[.int .u8 k, .int .u8 l, .int .i64 c, .int .i64 f, .int .i64 t] 29)).cell? ⟨(on ux).heap.size, 4, none⟩ = some (.int .i64 t) := by simp [go_sem]
  have f9 : ((on ux).alloc (.cells #[.int .u8 k, .int .u8 l, .int .i64 c, .int .i64 f, .int .i64 t] 29)).frozen? ⟨(on ux).heap.size, 4, none⟩ = false := by simp [go_sem]
  have hZ : Below (w.alloc (.cells #[.int .u8 0, .int .u8 0, .int .i64 0, .int .i64 0, .int .i64 0] 29)).heap.size (w.alloc (.cells #[.int .u8 0, .int .u8 0, .int .i64 0, .int .i64 0, .int .i64 0] 29)) (on ux) := by repeat first | (with_reducible exact Below.refl _ _) | (with_reducible refine below_on ?_ _) | (with_reducible refine below_alloc ?_ _)
  have z0 : w.heap.size < (on ux).heap.size := Nat.lt_of_lt_of_le (show w.heap.size < (w.alloc (.cells #[.int .u8 0, .int .u8 0, .int .i64 0, .int .i64 0, .int .i64 0] 29)).heap.size by simp [World.size_alloc] <;> omega) hZ.size
  clear hZ
  have hB : Below w.heap.size w ((on ux).alloc (.cells #[.int .u8 k, .int .u8 l, .int .i64 c, .int .i64 f, .int .i64 t] 29)) := by repeat first | (with_reducible exact Below.refl _ _) | (with_reducible refine below_on ?_ _) | (with_reducible refine below_alloc ?_ _)
  clear hR
  generalize ((on ux).alloc (.cells #[.int .u8 k, .int .u8 l, .int .i64 c, .int .i64 f, .int .i64 t] 29)) = Wn at *
  generalize (on ux).heap.size = Bn at *
  clear ux
  go_wp2_with (first | (go_at_call 29; (with_reducible refine (stext_bad k l c f t _ H.out).mono ?_); rintro e wx ⟨rfl, hx⟩; obtain ⟨ux, rfl⟩ := after hx; clear hx) | fail)
  exact bodyPost_ret (v := .tuple #[sg 0 0 0 0 0, .int .i64 4]) (by simp [results, Tryz.results28, go_sem, c0, c1, c2, c3, c4]) rfl ⟨rfl, (by repeat first | (with_reducible exact hB) | (with_reducible refine below_on ?_ _) | (with_reducible refine below_alloc ?_ _) | (with_reducible refine below_set ?_ (by simp; try omega) _))⟩

theorem mk_toList (p : ByteArray) : (⟨p.data.toList.toArray⟩ : ByteArray) = p := by cases p; simp
theorem parse_det (s : ByteArray) (hs : s.size ≤ maxLen) : ∃ lk lc le : Int, ∀ W, Std W → Calls Tryz.prog 78 #[.string s] W fun e w' => e = .returned (.tuple #[ln lk lc, .int .i64 le]) ∧ Below W.heap.size W w' := by
  by_cases h : 1 ≤ rdK s ∧ rdK s ≤ 4 ∧ -4096 ≤ rdC s ∧ rdC s ≤ 4096
  · cases ht : textL (rdK s) (rdC s) == s.toList with
    | true => exact ⟨_, _, _, fun w hT => parse_ok s _ _ w hT.tab h.1 h.2.1 h.2.2.1 h.2.2.2 hs rfl rfl ht⟩
    | false => exact ⟨_, _, _, fun w hT => parse_other s _ _ w hT.tab h.1 h.2.1 h.2.2.1 h.2.2.2 hs rfl rfl ht⟩
  · exact ⟨_, _, _, fun w hT => parse_bad s _ _ w hT.tab (by omega) hs rfl rfl⟩
theorem index_det (p : List UInt8) (W : World) (hS : Std W) : Calls Tryz.prog 80 #[.string ⟨#[109, 118, 97]⟩, .string ⟨p.toArray⟩] W fun e w' => e = .returned (.int .i64 (Lib.index [109, 118, 97] p)) ∧ Below W.heap.size W w' := by
  obtain ⟨m, hm⟩ := hS.ml
  refine (Tryz.strings_Index ⟨#[109, 118, 97]⟩ ⟨p.toArray⟩ m W (by decide) hm).mono fun e w' ⟨h1, h2⟩ => ⟨?_, by rw [h2]; exact Below.refl _ _⟩
  rw [h1]
theorem read_ex (s : ByteArray) (hl : s.size ≤ 10000) : ∃ k l c f t : Int, 0 ≤ k ∧ ∀ w, Std w → Calls Tryz.prog 55 #[.string s] w fun e w' => e = .returned (sg k l c f t) ∧ Below w.heap.size w w' := by
  have h1 := Lib.splitB_length_le ⟨#[32]⟩ 0 (min 5 (s.size + 1) - 1) s
  have h2 := piece_size ⟨#[32]⟩ (min 5 (s.size + 1) - 1) s
  have h3 : Lib.splitB ⟨#[32]⟩ 0 (min 5 (s.size + 1) - 1) s ≠ [] := splitB_ne _ _ _ _
  have hl' : s.size < 4294967281 := by omega
  match hp : Lib.splitB ⟨#[32]⟩ 0 (min 5 (s.size + 1) - 1) s with
  | [] => exact absurd hp h3
  | [p0] => exact ⟨_, _, _, _, _, Int.le_refl _, fun w hS => read_1 s p0 w hS hl' hp⟩
  | [p0, p1] => exact ⟨_, _, _, _, _, Int.le_refl _, fun w hS => read_2 s p0 p1 w hS hl' hp⟩
  | [p0, p1, p2] => exact ⟨_, _, _, _, _, Int.le_refl _, fun w hS => read_3 s p0 p1 p2 w hS hl' hp⟩
  | [p0, p1, p2, p3] => exact ⟨_, _, _, _, _, Int.le_refl _, fun w hS => read_4 s p0 p1 p2 p3 w hS hl' hp⟩
  | [p0, p1, p2, p3, p4] =>
    rw [hp] at h2
    have g1 := h2 p1 (by simp)
    have g2 := h2 p2 (by simp)
    have g3 := h2 p3 (by simp)
    have g4 := h2 p4 (by simp)
    have n1 : p1.data.toList.length = p1.size := rfl
    have n2 : p2.data.toList.length = p2.size := rfl
    obtain ⟨lk, lc, le, PP⟩ := parse_det ⟨(p1.data.toList ++ [32] ++ p2.data.toList).toArray⟩ (by show (p1.data.toList ++ [32] ++ p2.data.toList).toArray.size ≤ _; unfold maxLen; simp only [List.size_toArray, List.length_append, List.length_singleton]; omega)
    have i1 := Lib.index_ge [109, 118, 97] p0.data.toList
    have i2 : Lib.index [109, 118, 97] p0.data.toList ≤ 3 := Lib.index_le [109, 118, 97] p0.data.toList
    exact ⟨_, _, _, _, _, by omega, fun w hS => read_5 s p0.data.toList p1.data.toList p2.data.toList p3.data.toList p4.data.toList lk lc le (atv p3.data.toList) (atv p4.data.toList) (Lib.index [109, 118, 97] p0.data.toList) w hS hl' (by simp only [mk_toList]; exact hp) (by omega) (by omega) i1 i2 PP
      (fun W hW => by rw [mk_toList]; exact (atoi_gen p3 W hW (by omega)).mono fun e w' h => h) (fun W hW => by rw [mk_toList]; exact (atoi_gen p4 W hW (by omega)).mono fun e w' h => h) (fun W hW => index_det _ W hW)⟩
  | _ :: _ :: _ :: _ :: _ :: _ :: _ => rw [hp] at h1; simp at h1; omega
theorem sparse_split (s : ByteArray) (hl : s.size ≤ 10000) : (∃ k l c f t : Int, 1 ≤ k ∧ k ≤ 3 ∧ 1 ≤ l ∧ l ≤ 4 ∧ -4096 ≤ c ∧ c ≤ 4096 ∧ f < t ∧ -4096 ≤ f ∧ t ≤ 4096 ∧ s = ⟨(textS k l c f t).toArray⟩ ∧ ∀ w, Std w → Calls Tryz.prog 28 #[.string s] w fun e w' => e = .returned (.tuple #[sg k l c f t, .int .i64 0]) ∧ Below w.heap.size w w') ∨
    (∀ w, Std w → Calls Tryz.prog 28 #[.string s] w fun e w' => e = .returned (.tuple #[sg 0 0 0 0 0, .int .i64 4]) ∧ Below w.heap.size w w') := by
  obtain ⟨k, l, c, f, t, h0, RD⟩ := read_ex s hl
  by_cases h : 1 ≤ k ∧ k ≤ 3 ∧ 1 ≤ l ∧ l ≤ 4 ∧ -4096 ≤ c ∧ c ≤ 4096 ∧ f < t ∧ -4096 ≤ f ∧ t ≤ 4096
  · obtain ⟨k1, k2, k3, k4, k5, k6, k7, k8, k9⟩ := h
    cases ht : textS k l c f t == s.toList with
    | true =>
      have e : s = ⟨(textS k l c f t).toArray⟩ := by
        have e1 := eq_of_beq ht
        cases s with
        | mk d =>
          congr 1
          have e2 : (ByteArray.mk d).toList = d.toList := by have := toList_mk d.toList; rwa [Array.toArray_toList] at this
          rw [e1, e2]
      exact .inl ⟨k, l, c, f, t, k1, k2, k3, k4, k5, k6, k7, k8, k9, e, fun w hS => sparse_ok s k l c f t w hS RD k1 k2 k3 k4 k5 k6 k7 k8 k9 ht⟩
    | false => exact .inr fun w hS => sparse_other s k l c f t w hS RD k1 k2 k3 k4 k5 k6 k7 k8 k9 ht
  · exact .inr fun w hS => sparse_bad s k l c f t w hS RD (by omega)
theorem letS_no32 (k : Int) : ∀ b ∈ [letS k], b ≠ 32 := by
  intro b hb
  rw [List.mem_singleton.1 hb]
  unfold letS
  split
  · decide
  · split <;> decide
theorem letter_no32 (l : Int) : ∀ b ∈ [letter l], b ≠ 32 := by
  intro b hb
  rw [List.mem_singleton.1 hb]
  unfold letter
  split
  · decide
  · split
    · decide
    · split <;> decide
theorem index_let (k : Int) (a1 : 1 ≤ k) (a2 : k ≤ 3) : Lib.index [109, 118, 97] [letS k] = k - 1 := by
  obtain rfl | rfl | rfl : k = 1 ∨ k = 2 ∨ k = 3 := by omega
  · decide +kernel
  · decide +kernel
  · decide +kernel
theorem sparse_text (k l c f t : Int) (w : World) (hS : Std w) (a1 : 1 ≤ k) (a2 : k ≤ 3) (b1 : 1 ≤ l) (b2 : l ≤ 4) (b3 : -4096 ≤ c) (b4 : c ≤ 4096) (e1 : f < t) (e2 : -4096 ≤ f) (e3 : t ≤ 4096) : Calls Tryz.prog 28 #[.string ⟨(textS k l c f t).toArray⟩] w fun e w' => e = .returned (.tuple #[sg k l c f t, .int .i64 0]) ∧ Below w.heap.size w w' := by
  have l1 := itoa_len c (by omega) (by omega)
  have l2 := itoa_len f (by omega) (by omega)
  have l3 := itoa_len t (by omega) (by omega)
  have hf : textS k l c f t = [letS k] ++ 32 :: ([letter l] ++ 32 :: (Lib.itoa c ++ 32 :: (Lib.itoa f ++ 32 :: Lib.itoa t))) := by
    unfold textS textL; simp
  have hz : (ByteArray.mk (textS k l c f t).toArray).size = 5 + (Lib.itoa c).length + (Lib.itoa f).length + (Lib.itoa t).length + 1 := by
    show (textS k l c f t).toArray.size = _
    rw [hf]; simp; omega
  refine sparse_ok _ k l c f t w hS (fun w hS => ?_) a1 a2 b1 b2 b3 b4 e1 e2 e3 (by rw [toList_mk]; simp)
  have PP : ∀ W, Std W → Calls Tryz.prog 78 #[.string ⟨([letter l] ++ [32] ++ Lib.itoa c).toArray⟩] W fun e w' => e = .returned (.tuple #[ln l c, .int .i64 0]) ∧ Below W.heap.size W w' := fun W hW => parse_text l c W hW.tab b1 b2 b3 b4
  have A : ∀ n : Int, -4096 ≤ n → n ≤ 4096 → ∀ W, Std W → Calls Tryz.prog 79 #[.string ⟨(Lib.itoa n).toArray⟩] W fun e w' => ∃ er, e = .returned (.tuple #[.int .i64 n, er]) ∧ Below W.heap.size W w' := fun n q1 q2 W hW => by
    have hl := itoa_len n (by omega) (by omega)
    have := atoi_gen ⟨(Lib.itoa n).toArray⟩ W hW (by show (Lib.itoa n).toArray.size ≤ _; simp; omega)
    unfold AtE at this
    rwa [show atv (ByteArray.mk (Lib.itoa n).toArray).data.toList = n from atv_itoa n (by omega) (by omega)] at this
  have := read_5 ⟨(textS k l c f t).toArray⟩ [letS k] [letter l] (Lib.itoa c) (Lib.itoa f) (Lib.itoa t) l c 0 f t (k - 1) w hS (by omega) (by
    rw [show min 5 ((ByteArray.mk (textS k l c f t).toArray).size + 1) - 1 = 4 by omega, hf]
    exact split_text5 _ _ _ _ _ (letS_no32 k) (letter_no32 l) (itoa_no32 c) (itoa_no32 f)) (by simp) (by omega) (by omega) (by omega) PP (A f (by omega) (by omega)) (A t (by omega) (by omega)) (fun W hW => by
      have := index_det [letS k] W hW
      rwa [index_let k a1 a2] at this)
  rwa [show k - 1 + 1 = k by omega] at this

end Go.Proofs.YtkmmnlhmfiabfaaGreatDoor
