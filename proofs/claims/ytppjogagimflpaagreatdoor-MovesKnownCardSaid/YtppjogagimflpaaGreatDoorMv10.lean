/-
  Says: what Parse of package moves gives.
-/
import Derived.Test.YtppjogagimflpaaGreatDoorMv9
set_option linter.unusedVariables false
set_option linter.unusedSimpArgs false
namespace Go.Proofs.YtppjogagimflpaaGreatDoor
open Go Go.RowKit

attribute [local go_sem] World.cell?_alloc_some frozen?_alloc_cells fz0 fz1 fz2 fz3 fz4 fz5

set_option maxRecDepth 100000 in
set_option maxHeartbeats 2000000 in
theorem mparse_ok (s : ByteArray) (a b c : Int) (w : World) (hS : Std w) (RD : ∀ w, Std w → Calls Tryz.prog 55 #[.string s] w fun e w' => e = .returned (mv a b c) ∧ Below w.heap.size w w') (m1 : 0 ≤ a) (m2 : a ≤ 7) (m3 : -16384 ≤ b) (m4 : b ≤ 16384) (m5 : -16384 ≤ c) (m6 : c ≤ 16384) (m7 : (b + c) % 2 = 0) (ht : (textM a b c == s.toList) = true) : Calls Tryz.prog 35 #[.string s] w fun e w' => e = .returned (.tuple #[mv a b c, .int .i64 0]) ∧ Below w.heap.size w w' := by
  have hS' : ∀ W, Below w.heap.size w W → Std W := fun W h => std_below hS h
  have HM7 : Hid ((b + c) % 2 = 0) := m7
  clear m7
  go_enter Tryz.func35, Tryz.ntmps35
  go_wp2_with (first | (go_at_call 55; with_reducible refine (RD _ (hS' _ (by repeat first | (with_reducible exact Below.refl _ _) | (with_reducible refine below_on ?_ _) | (with_reducible refine below_alloc ?_ _) | (with_reducible refine below_set ?_ (by simp; try omega) _)))).mono ?_; rintro e wx ⟨rfl, hx⟩; obtain ⟨ux, rfl⟩ := after hx; clear hx) | fail)
  have hR : Below (w.alloc (.cells #[.int .u8 0, .int .i64 0, .int .i64 0] 36)).heap.size (w.alloc (.cells #[.int .u8 0, .int .i64 0, .int .i64 0] 36)) ((on ux).alloc (.cells #[.int .u8 a, .int .i64 b, .int .i64 c] 36)) := by repeat first | (with_reducible exact Below.refl _ _) | (with_reducible refine below_on ?_ _) | (with_reducible refine below_alloc ?_ _)
  have c0 : ((on ux).alloc (.cells #[.int .u8 a, .int .i64 b, .int .i64 c] 36)).cell? ⟨w.heap.size, 0, none⟩ = some (.int .u8 0) := by rw [hR.cell (p := ⟨w.heap.size, 0, none⟩) (by simp [World.size_alloc] <;> omega)]; simp [go_sem]
  have f0 : ((on ux).alloc (.cells #[.int .u8 a, .int .i64 b, .int .i64 c] 36)).frozen? ⟨w.heap.size, 0, none⟩ = false := by rw [hR.frozen (p := ⟨w.heap.size, 0, none⟩) (by simp [World.size_alloc] <;> omega)]; simp [go_sem]
  have c1 : ((on ux).alloc (.cells #[.int .u8 a, .int .i64 b, .int .i64 c] 36)).cell? ⟨w.heap.size, 1, none⟩ = some (.int .i64 0) := by rw [hR.cell (p := ⟨w.heap.size, 1, none⟩) (by simp [World.size_alloc] <;> omega)]; simp [go_sem]
  have f1 : ((on ux).alloc (.cells #[.int .u8 a, .int .i64 b, .int .i64 c] 36)).frozen? ⟨w.heap.size, 1, none⟩ = false := by rw [hR.frozen (p := ⟨w.heap.size, 1, none⟩) (by simp [World.size_alloc] <;> omega)]; simp [go_sem]
  have c2 : ((on ux).alloc (.cells #[.int .u8 a, .int .i64 b, .int .i64 c] 36)).cell? ⟨w.heap.size, 2, none⟩ = some (.int .i64 0) := by rw [hR.cell (p := ⟨w.heap.size, 2, none⟩) (by simp [World.size_alloc] <;> omega)]; simp [go_sem]
  have f2 : ((on ux).alloc (.cells #[.int .u8 a, .int .i64 b, .int .i64 c] 36)).frozen? ⟨w.heap.size, 2, none⟩ = false := by rw [hR.frozen (p := ⟨w.heap.size, 2, none⟩) (by simp [World.size_alloc] <;> omega)]; simp [go_sem]
  have c3 : ((on ux).alloc (.cells #[.int .u8 a, .int .i64 b, .int .i64 c] 36)).cell? ⟨(on ux).heap.size, 0, none⟩ = some (.int .u8 a) := by simp [go_sem]
  have f3 : ((on ux).alloc (.cells #[.int .u8 a, .int .i64 b, .int .i64 c] 36)).frozen? ⟨(on ux).heap.size, 0, none⟩ = false := by simp [go_sem]
  have c4 : ((on ux).alloc (.cells #[.int .u8 a, .int .i64 b, .int .i64 c] 36)).cell? ⟨(on ux).heap.size, 1, none⟩ = some (.int .i64 b) := by simp [go_sem]
  have f4 : ((on ux).alloc (.cells #[.int .u8 a, .int .i64 b, .int .i64 c] 36)).frozen? ⟨(on ux).heap.size, 1, none⟩ = false := by simp [go_sem]
  have c5 : ((on ux).alloc (.cells #[.int .u8 a, .int .i64 b, .int .i64 c] 36)).cell? ⟨(on ux).heap.size, 2, none⟩ = some (.int .i64 c) := by simp [go_sem]
  have f5 : ((on ux).alloc (.cells #[.int .u8 a, .int .i64 b, .int .i64 c] 36)).frozen? ⟨(on ux).heap.size, 2, none⟩ = false := by simp [go_sem]
  have hZ : Below (w.alloc (.cells #[.int .u8 0, .int .i64 0, .int .i64 0] 36)).heap.size (w.alloc (.cells #[.int .u8 0, .int .i64 0, .int .i64 0] 36)) (on ux) := by repeat first | (with_reducible exact Below.refl _ _) | (with_reducible refine below_on ?_ _) | (with_reducible refine below_alloc ?_ _)
  have z0 : w.heap.size < (on ux).heap.size := Nat.lt_of_lt_of_le (show w.heap.size < (w.alloc (.cells #[.int .u8 0, .int .i64 0, .int .i64 0] 36)).heap.size by simp [World.size_alloc] <;> omega) hZ.size
  clear hZ
  have hB : Below w.heap.size w ((on ux).alloc (.cells #[.int .u8 a, .int .i64 b, .int .i64 c] 36)) := by repeat first | (with_reducible exact Below.refl _ _) | (with_reducible refine below_on ?_ _) | (with_reducible refine below_alloc ?_ _)
  clear hR
  generalize ((on ux).alloc (.cells #[.int .u8 a, .int .i64 b, .int .i64 c] 36)) = Wn at *
  generalize (on ux).heap.size = Bn at *
  clear ux
  go_wp2_with (first | (go_at_call 24; with_reducible refine (mcheck_ok a b c _ m1 m2 m3 m4 m5 m6 HM7.out).mono ?_; rintro e wx ⟨rfl, hx⟩; obtain ⟨ux, rfl⟩ := after hx; clear hx) | (go_at_call 36; with_reducible refine (mtext_ok a b c _ (hS' _ (by repeat first | (with_reducible exact hB) | (with_reducible refine below_on ?_ _) | (with_reducible refine below_alloc ?_ _) | (with_reducible refine below_set ?_ (by simp; try omega) _))).tab m1 m2 m3 m4 m5 m6 HM7.out).mono ?_; rintro e wx ⟨rfl, hx⟩; obtain ⟨ux, rfl⟩ := after hx; clear hx) | fail)
  exact bodyPost_ret (v := .tuple #[mv a b c, .int .i64 0]) (by simp [results, Tryz.results35, go_sem, c0, c1, c2]) rfl ⟨rfl, (by repeat first | (with_reducible exact hB) | (with_reducible refine below_on ?_ _) | (with_reducible refine below_alloc ?_ _) | (with_reducible refine below_set ?_ (by simp; try omega) _))⟩

set_option maxRecDepth 100000 in
set_option maxHeartbeats 2000000 in
theorem mparse_other (s : ByteArray) (a b c : Int) (w : World) (hS : Std w) (RD : ∀ w, Std w → Calls Tryz.prog 55 #[.string s] w fun e w' => e = .returned (mv a b c) ∧ Below w.heap.size w w') (m1 : 0 ≤ a) (m2 : a ≤ 7) (m3 : -16384 ≤ b) (m4 : b ≤ 16384) (m5 : -16384 ≤ c) (m6 : c ≤ 16384) (m7 : (b + c) % 2 = 0) (ht : (textM a b c == s.toList) = false) : Calls Tryz.prog 35 #[.string s] w fun e w' => e = .returned (.tuple #[mv 0 0 0, .int .i64 4]) ∧ Below w.heap.size w w' := by
  have hS' : ∀ W, Below w.heap.size w W → Std W := fun W h => std_below hS h
  have HM7 : Hid ((b + c) % 2 = 0) := m7
  clear m7
  go_enter Tryz.func35, Tryz.ntmps35
  go_wp2_with (first | (go_at_call 55; with_reducible refine (RD _ (hS' _ (by repeat first | (with_reducible exact Below.refl _ _) | (with_reducible refine below_on ?_ _) | (with_reducible refine below_alloc ?_ _) | (with_reducible refine below_set ?_ (by simp; try omega) _)))).mono ?_; rintro e wx ⟨rfl, hx⟩; obtain ⟨ux, rfl⟩ := after hx; clear hx) | fail)
  have hR : Below (w.alloc (.cells #[.int .u8 0, .int .i64 0, .int .i64 0] 36)).heap.size (w.alloc (.cells #[.int .u8 0, .int .i64 0, .int .i64 0] 36)) ((on ux).alloc (.cells #[.int .u8 a, .int .i64 b, .int .i64 c] 36)) := by repeat first | (with_reducible exact Below.refl _ _) | (with_reducible refine below_on ?_ _) | (with_reducible refine below_alloc ?_ _)
  have c0 : ((on ux).alloc (.cells #[.int .u8 a, .int .i64 b, .int .i64 c] 36)).cell? ⟨w.heap.size, 0, none⟩ = some (.int .u8 0) := by rw [hR.cell (p := ⟨w.heap.size, 0, none⟩) (by simp [World.size_alloc] <;> omega)]; simp [go_sem]
  have f0 : ((on ux).alloc (.cells #[.int .u8 a, .int .i64 b, .int .i64 c] 36)).frozen? ⟨w.heap.size, 0, none⟩ = false := by rw [hR.frozen (p := ⟨w.heap.size, 0, none⟩) (by simp [World.size_alloc] <;> omega)]; simp [go_sem]
  have c1 : ((on ux).alloc (.cells #[.int .u8 a, .int .i64 b, .int .i64 c] 36)).cell? ⟨w.heap.size, 1, none⟩ = some (.int .i64 0) := by rw [hR.cell (p := ⟨w.heap.size, 1, none⟩) (by simp [World.size_alloc] <;> omega)]; simp [go_sem]
  have f1 : ((on ux).alloc (.cells #[.int .u8 a, .int .i64 b, .int .i64 c] 36)).frozen? ⟨w.heap.size, 1, none⟩ = false := by rw [hR.frozen (p := ⟨w.heap.size, 1, none⟩) (by simp [World.size_alloc] <;> omega)]; simp [go_sem]
  have c2 : ((on ux).alloc (.cells #[.int .u8 a, .int .i64 b, .int .i64 c] 36)).cell? ⟨w.heap.size, 2, none⟩ = some (.int .i64 0) := by rw [hR.cell (p := ⟨w.heap.size, 2, none⟩) (by simp [World.size_alloc] <;> omega)]; simp [go_sem]
  have f2 : ((on ux).alloc (.cells #[.int .u8 a, .int .i64 b, .int .i64 c] 36)).frozen? ⟨w.heap.size, 2, none⟩ = false := by rw [hR.frozen (p := ⟨w.heap.size, 2, none⟩) (by simp [World.size_alloc] <;> omega)]; simp [go_sem]
  have c3 : ((on ux).alloc (.cells #[.int .u8 a, .int .i64 b, .int .i64 c] 36)).cell? ⟨(on ux).heap.size, 0, none⟩ = some (.int .u8 a) := by simp [go_sem]
  have f3 : ((on ux).alloc (.cells #[.int .u8 a, .int .i64 b, .int .i64 c] 36)).frozen? ⟨(on ux).heap.size, 0, none⟩ = false := by simp [go_sem]
  have c4 : ((on ux).alloc (.cells #[.int .u8 a, .int .i64 b, .int .i64 c] 36)).cell? ⟨(on ux).heap.size, 1, none⟩ = some (.int .i64 b) := by simp [go_sem]
  have f4 : ((on ux).alloc (.cells #[.int .u8 a, .int .i64 b, .int .i64 c] 36)).frozen? ⟨(on ux).heap.size, 1, none⟩ = false := by simp [go_sem]
  have c5 : ((on ux).alloc (.cells #[.int .u8 a, .int .i64 b, .int .i64 c] 36)).cell? ⟨(on ux).heap.size, 2, none⟩ = some (.int .i64 c) := by simp [go_sem]
  have f5 : ((on ux).alloc (.cells #[.int .u8 a, .int .i64 b, .int .i64 c] 36)).frozen? ⟨(on ux).heap.size, 2, none⟩ = false := by simp [go_sem]
  have hZ : Below (w.alloc (.cells #[.int .u8 0, .int .i64 0, .int .i64 0] 36)).heap.size (w.alloc (.cells #[.int .u8 0, .int .i64 0, .int .i64 0] 36)) (on ux) := by repeat first | (with_reducible exact Below.refl _ _) | (with_reducible refine below_on ?_ _) | (with_reducible refine below_alloc ?_ _)
  have z0 : w.heap.size < (on ux).heap.size := Nat.lt_of_lt_of_le (show w.heap.size < (w.alloc (.cells #[.int .u8 0, .int .i64 0, .int .i64 0] 36)).heap.size by simp [World.size_alloc] <;> omega) hZ.size
  clear hZ
  have hB : Below w.heap.size w ((on ux).alloc (.cells #[.int .u8 a, .int .i64 b, .int .i64 c] 36)) := by repeat first | (with_reducible exact Below.refl _ _) | (with_reducible refine below_on ?_ _) | (with_reducible refine below_alloc ?_ _)
  clear hR
  generalize ((on ux).alloc (.cells #[.int .u8 a, .int .i64 b, .int .i64 c] 36)) = Wn at *
  generalize (on ux).heap.size = Bn at *
  clear ux
  go_wp2_with (first | (go_at_call 24; with_reducible refine (mcheck_ok a b c _ m1 m2 m3 m4 m5 m6 HM7.out).mono ?_; rintro e wx ⟨rfl, hx⟩; obtain ⟨ux, rfl⟩ := after hx; clear hx) | (go_at_call 36; with_reducible refine (mtext_ok a b c _ (hS' _ (by repeat first | (with_reducible exact hB) | (with_reducible refine below_on ?_ _) | (with_reducible refine below_alloc ?_ _) | (with_reducible refine below_set ?_ (by simp; try omega) _))).tab m1 m2 m3 m4 m5 m6 HM7.out).mono ?_; rintro e wx ⟨rfl, hx⟩; obtain ⟨ux, rfl⟩ := after hx; clear hx) | fail)
  exact bodyPost_ret (v := .tuple #[mv 0 0 0, .int .i64 4]) (by simp [results, Tryz.results35, go_sem, c0, c1, c2]) rfl ⟨rfl, (by repeat first | (with_reducible exact hB) | (with_reducible refine below_on ?_ _) | (with_reducible refine below_alloc ?_ _) | (with_reducible refine below_set ?_ (by simp; try omega) _))⟩

set_option maxRecDepth 100000 in
set_option maxHeartbeats 2000000 in
theorem mparse_bad (s : ByteArray) (a b c : Int) (w : World) (hS : Std w) (RD : ∀ w, Std w → Calls Tryz.prog 55 #[.string s] w fun e w' => e = .returned (mv a b c) ∧ Below w.heap.size w w') (h : 7 < a ∨ b < -16384 ∨ 16384 < b ∨ c < -16384 ∨ 16384 < c ∨ (b + c) % 2 ≠ 0) : Calls Tryz.prog 35 #[.string s] w fun e w' => e = .returned (.tuple #[mv 0 0 0, .int .i64 4]) ∧ Below w.heap.size w w' := by
  have hS' : ∀ W, Below w.heap.size w W → Std W := fun W h => std_below hS h
  have H : Hid (7 < a ∨ b < -16384 ∨ 16384 < b ∨ c < -16384 ∨ 16384 < c ∨ (b + c) % 2 ≠ 0) := h
  clear h
  go_enter Tryz.func35, Tryz.ntmps35
  go_wp2_with (first | (go_at_call 55; with_reducible refine (RD _ (hS' _ (by repeat first | (with_reducible exact Below.refl _ _) | (with_reducible refine below_on ?_ _) | (with_reducible refine below_alloc ?_ _) | (with_reducible refine below_set ?_ (by simp; try omega) _)))).mono ?_; rintro e wx ⟨rfl, hx⟩; obtain ⟨ux, rfl⟩ := after hx; clear hx) | fail)
  have hR : Below (w.alloc (.cells #[.int .u8 0, .int .i64 0, .int .i64 0] 36)).heap.size (w.alloc (.cells #[.int .u8 0, .int .i64 0, .int .i64 0] 36)) ((on ux).alloc (.cells #[.int .u8 a, .int .i64 b, .int .i64 c] 36)) := by repeat first | (with_reducible exact Below.refl _ _) | (with_reducible refine below_on ?_ _) | (with_reducible refine below_alloc ?_ _)
  have c0 : ((on ux).alloc (.cells #[.int .u8 a, .int .i64 b, .int .i64 c] 36)).cell? ⟨w.heap.size, 0, none⟩ = some (.int .u8 0) := by rw [hR.cell (p := ⟨w.heap.size, 0, none⟩) (by simp [World.size_alloc] <;> omega)]; simp [go_sem]
  have f0 : ((on ux).alloc (.cells #[.int .u8 a, .int .i64 b, .int .i64 c] 36)).frozen? ⟨w.heap.size, 0, none⟩ = false := by rw [hR.frozen (p := ⟨w.heap.size, 0, none⟩) (by simp [World.size_alloc] <;> omega)]; simp [go_sem]
  have c1 : ((on ux).alloc (.cells #[.int .u8 a, .int .i64 b, .int .i64 c] 36)).cell? ⟨w.heap.size, 1, none⟩ = some (.int .i64 0) := by rw [hR.cell (p := ⟨w.heap.size, 1, none⟩) (by simp [World.size_alloc] <;> omega)]; simp [go_sem]
  have f1 : ((on ux).alloc (.cells #[.int .u8 a, .int .i64 b, .int .i64 c] 36)).frozen? ⟨w.heap.size, 1, none⟩ = false := by rw [hR.frozen (p := ⟨w.heap.size, 1, none⟩) (by simp [World.size_alloc] <;> omega)]; simp [go_sem]
  have c2 : ((on ux).alloc (.cells #[.int .u8 a, .int .i64 b, .int .i64 c] 36)).cell? ⟨w.heap.size, 2, none⟩ = some (.int .i64 0) := by rw [hR.cell (p := ⟨w.heap.size, 2, none⟩) (by simp [World.size_alloc] <;> omega)]; simp [go_sem]
  have f2 : ((on ux).alloc (.cells #[.int .u8 a, .int .i64 b, .int .i64 c] 36)).frozen? ⟨w.heap.size, 2, none⟩ = false := by rw [hR.frozen (p := ⟨w.heap.size, 2, none⟩) (by simp [World.size_alloc] <;> omega)]; simp [go_sem]
  have c3 : ((on ux).alloc (.cells #[.int .u8 a, .int .i64 b, .int .i64 c] 36)).cell? ⟨(on ux).heap.size, 0, none⟩ = some (.int .u8 a) := by simp [go_sem]
  have f3 : ((on ux).alloc (.cells #[.int .u8 a, .int .i64 b, .int .i64 c] 36)).frozen? ⟨(on ux).heap.size, 0, none⟩ = false := by simp [go_sem]
  have c4 : ((on ux).alloc (.cells #[.int .u8 a, .int .i64 b, .int .i64 c] 36)).cell? ⟨(on ux).heap.size, 1, none⟩ = some (.int .i64 b) := by simp [go_sem]
  have f4 : ((on ux).alloc (.cells #[.int .u8 a, .int .i64 b, .int .i64 c] 36)).frozen? ⟨(on ux).heap.size, 1, none⟩ = false := by simp [go_sem]
  have c5 : ((on ux).alloc (.cells #[.int .u8 a, .int .i64 b, .int .i64 c] 36)).cell? ⟨(on ux).heap.size, 2, none⟩ = some (.int .i64 c) := by simp [go_sem]
  have f5 : ((on ux).alloc (.cells #[.int .u8 a, .int .i64 b, .int .i64 c] 36)).frozen? ⟨(on ux).heap.size, 2, none⟩ = false := by simp [go_sem]
  have hZ : Below (w.alloc (.cells #[.int .u8 0, .int .i64 0, .int .i64 0] 36)).heap.size (w.alloc (.cells #[.int .u8 0, .int .i64 0, .int .i64 0] 36)) (on ux) := by repeat first | (with_reducible exact Below.refl _ _) | (with_reducible refine below_on ?_ _) | (with_reducible refine below_alloc ?_ _)
  have z0 : w.heap.size < (on ux).heap.size := Nat.lt_of_lt_of_le (show w.heap.size < (w.alloc (.cells #[.int .u8 0, .int .i64 0, .int .i64 0] 36)).heap.size by simp [World.size_alloc] <;> omega) hZ.size
  clear hZ
  have hB : Below w.heap.size w ((on ux).alloc (.cells #[.int .u8 a, .int .i64 b, .int .i64 c] 36)) := by repeat first | (with_reducible exact Below.refl _ _) | (with_reducible refine below_on ?_ _) | (with_reducible refine below_alloc ?_ _)
  clear hR
  generalize ((on ux).alloc (.cells #[.int .u8 a, .int .i64 b, .int .i64 c] 36)) = Wn at *
  generalize (on ux).heap.size = Bn at *
  clear ux
  go_wp2_with (first | (go_at_call 24; with_reducible refine (mcheck_bad a b c _ H.out).mono ?_; rintro e wx ⟨rfl, hx⟩; obtain ⟨ux, rfl⟩ := after hx; clear hx) | fail)
  exact bodyPost_ret (v := .tuple #[mv 0 0 0, .int .i64 4]) (by simp [results, Tryz.results35, go_sem, c0, c1, c2]) rfl ⟨rfl, (by repeat first | (with_reducible exact hB) | (with_reducible refine below_on ?_ _) | (with_reducible refine below_alloc ?_ _) | (with_reducible refine below_set ?_ (by simp; try omega) _))⟩

/-- Parse, at every string: the move whose text it is; else ErrForm. -/
def MParsePost (s : ByteArray) (w : World) (e : Ending) (w' : World) : Prop :=
  ((∃ t X Y : Int, 0 ≤ t ∧ t ≤ 7 ∧ -16384 ≤ X ∧ X ≤ 16384 ∧ -16384 ≤ Y ∧ Y ≤ 16384 ∧ (X + Y) % 2 = 0 ∧ s.toList = textM t X Y ∧ e = .returned (.tuple #[mv t X Y, .int .i64 0])) ∨ e = .returned (.tuple #[mv 0 0 0, .int .i64 4])) ∧ Below w.heap.size w w'
theorem mparse_any (s : ByteArray) (w : World) (hS : Std w) (hl : s.size < 4294967281) : Calls Tryz.prog 35 #[.string s] w (MParsePost s w) := by
  obtain ⟨a, b, c, h1, h2, RD⟩ := read_ex s hl
  by_cases h : a ≤ 7 ∧ -16384 ≤ b ∧ b ≤ 16384 ∧ -16384 ≤ c ∧ c ≤ 16384 ∧ (b + c) % 2 = 0
  · obtain ⟨k1, k2, k3, k4, k5, k6⟩ := h
    cases ht : textM a b c == s.toList with
    | true => exact (mparse_ok s a b c w hS RD h1 k1 k2 k3 k4 k5 k6 ht).mono fun e w' ⟨he, hb⟩ => ⟨.inl ⟨_, _, _, h1, k1, k2, k3, k4, k5, k6, (eq_of_beq ht).symm, he⟩, hb⟩
    | false => exact (mparse_other s a b c w hS RD h1 k1 k2 k3 k4 k5 k6 ht).mono fun e w' ⟨he, hb⟩ => ⟨.inr he, hb⟩
  · exact (mparse_bad s a b c w hS RD (by omega)).mono fun e w' ⟨he, hb⟩ => ⟨.inr he, hb⟩
theorem mparse_k (w : World) (hS : Std w) : Calls Tryz.prog 35 #[.string ⟨#[48, 32, 49, 32, 48]⟩] w fun e w' => e = .returned (.tuple #[mv 0 0 0, .int .i64 4]) ∧ Below w.heap.size w w' :=
  mparse_bad _ 0 1 0 w hS (fun w hS => by
    have := read_3 ⟨#[48, 32, 49, 32, 48]⟩ ⟨#[48]⟩ ⟨#[49]⟩ ⟨#[48]⟩ w hS (by decide) (by decide +kernel) (by decide) (by decide) (by decide)
    rwa [show atv (ByteArray.mk #[48]).data.toList = 0 by decide +kernel, show atv (ByteArray.mk #[49]).data.toList = 1 by decide +kernel] at this) (by omega)

end Go.Proofs.YtppjogagimflpaaGreatDoor
