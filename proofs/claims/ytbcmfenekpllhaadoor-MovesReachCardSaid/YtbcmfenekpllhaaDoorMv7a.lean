/-
  Says: which two points twoPoints gives.
-/
import Derived.Test.YtbcmfenekpllhaaDoorMv4
import Derived.Test.YtbcmfenekpllhaaDoorFnM
import Derived.Test.YtbcmfenekpllhaaDoorMvz
import Derived.Deep.RegionHeld3
import Derived.RowKit3
set_option linter.unusedVariables false
set_option linter.unusedSimpArgs false
namespace Go.Proofs.YtbcmfenekpllhaaDoor
open Go Go.RowKit

attribute [local go_sem] World.cell?_alloc_some frozen?_alloc_cells fz0 fz1 fz2 fz3 fz4 fz5

/-- Two points of a line, in whole units. -/
def lx1 (k c : Int) : Int := if k = 1 then c else 0
def ly1 (k c : Int) : Int := if k = 1 then 0 else c
def lx2 (k c : Int) : Int := if k = 1 then c else 1
def ly2 (k c : Int) : Int := if k = 1 then 1 else if k = 2 then c else if k = 3 then c - 1 else c + 1
theorem lx11 (c : Int) : lx1 1 c = c := rfl
theorem ly11 (c : Int) : ly1 1 c = 0 := rfl
theorem lx21 (c : Int) : lx2 1 c = c := rfl
theorem ly21 (c : Int) : ly2 1 c = 1 := rfl
theorem lx12 (c : Int) : lx1 2 c = 0 := rfl
theorem ly12 (c : Int) : ly1 2 c = c := rfl
theorem lx22 (c : Int) : lx2 2 c = 1 := rfl
theorem ly22 (c : Int) : ly2 2 c = c := rfl
theorem lx13 (c : Int) : lx1 3 c = 0 := rfl
theorem ly13 (c : Int) : ly1 3 c = c := rfl
theorem lx23 (c : Int) : lx2 3 c = 1 := rfl
theorem ly23 (c : Int) : ly2 3 c = c - 1 := rfl
theorem lx14 (c : Int) : lx1 4 c = 0 := rfl
theorem ly14 (c : Int) : ly1 4 c = c := rfl
theorem lx24 (c : Int) : lx2 4 c = 1 := rfl
theorem ly24 (c : Int) : ly2 4 c = c + 1 := rfl

set_option maxRecDepth 100000 in
set_option maxHeartbeats 2000000 in
theorem tpts_1 (c : Int) (w : World) (h3 : -4096 ≤ c) (h4 : c ≤ 4096) : Calls Tryd.prog 86 #[ln 1 c] w fun e w' => e = .returned (.tuple #[pt (2 * (c)) (2 * (0)), pt (2 * (c)) (2 * (1))]) ∧ Below w.heap.size w w' := by
  have M0 : ∀ W, Calls Tryd.prog 50 #[ln 1 c, ln 2 0] W fun e w' => e = .returned (.tuple #[pt (2 * (c)) (2 * (0)), .int .i64 0]) ∧ Below W.heap.size W w' := fun W => by
    refine (meet_12 c 0 W h3 h4 (by omega) (by omega)).mono fun e w' h => ⟨h.1.trans ?_, h.2⟩
    congr 6 <;> omega
  have M1 : ∀ W, Calls Tryd.prog 50 #[ln 1 c, ln 2 1] W fun e w' => e = .returned (.tuple #[pt (2 * (c)) (2 * (1)), .int .i64 0]) ∧ Below W.heap.size W w' := fun W => by
    refine (meet_12 c 1 W h3 h4 (by omega) (by omega)).mono fun e w' h => ⟨h.1.trans ?_, h.2⟩
    congr 6 <;> omega
  go_enter Tryd.func86, Tryd.ntmps86
  go_wp2_with (first | (go_at_call 50; with_reducible refine (M0 _).mono ?_; rintro e wx ⟨rfl, hx⟩; obtain ⟨ux, rfl⟩ := after hx; clear hx) | fail)
  have hR : Below (((w.alloc (.cells #[.int .u8 1, .int .i64 c] 24)).alloc (.cells #[.int .i64 (0), .int .i64 (0)] 31)).alloc (.cells #[.int .i64 (0), .int .i64 (0)] 31)).heap.size (((w.alloc (.cells #[.int .u8 1, .int .i64 c] 24)).alloc (.cells #[.int .i64 (0), .int .i64 (0)] 31)).alloc (.cells #[.int .i64 (0), .int .i64 (0)] 31)) ((on ux).alloc (.cells #[.int .i64 (2 * c), .int .i64 (0)] 31)) := by repeat first | (with_reducible exact Below.refl _ _) | (with_reducible refine below_on ?_ _) | (with_reducible refine below_alloc ?_ _)
  have c0 : ((on ux).alloc (.cells #[.int .i64 (2 * c), .int .i64 (0)] 31)).cell? ⟨w.heap.size, 0, none⟩ = some (.int .u8 1) := by rw [hR.cell (p := ⟨w.heap.size, 0, none⟩) (by simp [World.size_alloc] <;> omega)]; simp [go_sem]
  have f0 : ((on ux).alloc (.cells #[.int .i64 (2 * c), .int .i64 (0)] 31)).frozen? ⟨w.heap.size, 0, none⟩ = false := by rw [hR.frozen (p := ⟨w.heap.size, 0, none⟩) (by simp [World.size_alloc] <;> omega)]; simp [go_sem]
  have c1 : ((on ux).alloc (.cells #[.int .i64 (2 * c), .int .i64 (0)] 31)).cell? ⟨w.heap.size, 1, none⟩ = some (.int .i64 c) := by rw [hR.cell (p := ⟨w.heap.size, 1, none⟩) (by simp [World.size_alloc] <;> omega)]; simp [go_sem]
  have f1 : ((on ux).alloc (.cells #[.int .i64 (2 * c), .int .i64 (0)] 31)).frozen? ⟨w.heap.size, 1, none⟩ = false := by rw [hR.frozen (p := ⟨w.heap.size, 1, none⟩) (by simp [World.size_alloc] <;> omega)]; simp [go_sem]
  have c2 : ((on ux).alloc (.cells #[.int .i64 (2 * c), .int .i64 (0)] 31)).cell? ⟨w.heap.size + 1, 0, none⟩ = some (.int .i64 0) := by rw [hR.cell (p := ⟨w.heap.size + 1, 0, none⟩) (by simp [World.size_alloc] <;> omega)]; simp [go_sem]
  have f2 : ((on ux).alloc (.cells #[.int .i64 (2 * c), .int .i64 (0)] 31)).frozen? ⟨w.heap.size + 1, 0, none⟩ = false := by rw [hR.frozen (p := ⟨w.heap.size + 1, 0, none⟩) (by simp [World.size_alloc] <;> omega)]; simp [go_sem]
  have c3 : ((on ux).alloc (.cells #[.int .i64 (2 * c), .int .i64 (0)] 31)).cell? ⟨w.heap.size + 1, 1, none⟩ = some (.int .i64 0) := by rw [hR.cell (p := ⟨w.heap.size + 1, 1, none⟩) (by simp [World.size_alloc] <;> omega)]; simp [go_sem]
  have f3 : ((on ux).alloc (.cells #[.int .i64 (2 * c), .int .i64 (0)] 31)).frozen? ⟨w.heap.size + 1, 1, none⟩ = false := by rw [hR.frozen (p := ⟨w.heap.size + 1, 1, none⟩) (by simp [World.size_alloc] <;> omega)]; simp [go_sem]
  have c4 : ((on ux).alloc (.cells #[.int .i64 (2 * c), .int .i64 (0)] 31)).cell? ⟨w.heap.size + 1 + 1, 0, none⟩ = some (.int .i64 0) := by rw [hR.cell (p := ⟨w.heap.size + 1 + 1, 0, none⟩) (by simp [World.size_alloc] <;> omega)]; simp [go_sem]
  have f4 : ((on ux).alloc (.cells #[.int .i64 (2 * c), .int .i64 (0)] 31)).frozen? ⟨w.heap.size + 1 + 1, 0, none⟩ = false := by rw [hR.frozen (p := ⟨w.heap.size + 1 + 1, 0, none⟩) (by simp [World.size_alloc] <;> omega)]; simp [go_sem]
  have c5 : ((on ux).alloc (.cells #[.int .i64 (2 * c), .int .i64 (0)] 31)).cell? ⟨w.heap.size + 1 + 1, 1, none⟩ = some (.int .i64 0) := by rw [hR.cell (p := ⟨w.heap.size + 1 + 1, 1, none⟩) (by simp [World.size_alloc] <;> omega)]; simp [go_sem]
  have f5 : ((on ux).alloc (.cells #[.int .i64 (2 * c), .int .i64 (0)] 31)).frozen? ⟨w.heap.size + 1 + 1, 1, none⟩ = false := by rw [hR.frozen (p := ⟨w.heap.size + 1 + 1, 1, none⟩) (by simp [World.size_alloc] <;> omega)]; simp [go_sem]
  have c6 : ((on ux).alloc (.cells #[.int .i64 (2 * c), .int .i64 (0)] 31)).cell? ⟨(on ux).heap.size, 0, none⟩ = some (.int .i64 (2 * c)) := by simp [go_sem]
  have f6 : ((on ux).alloc (.cells #[.int .i64 (2 * c), .int .i64 (0)] 31)).frozen? ⟨(on ux).heap.size, 0, none⟩ = false := by simp [go_sem]
  have c7 : ((on ux).alloc (.cells #[.int .i64 (2 * c), .int .i64 (0)] 31)).cell? ⟨(on ux).heap.size, 1, none⟩ = some (.int .i64 (0)) := by simp [go_sem]
  have f7 : ((on ux).alloc (.cells #[.int .i64 (2 * c), .int .i64 (0)] 31)).frozen? ⟨(on ux).heap.size, 1, none⟩ = false := by simp [go_sem]
  have hZ : Below (((w.alloc (.cells #[.int .u8 1, .int .i64 c] 24)).alloc (.cells #[.int .i64 (0), .int .i64 (0)] 31)).alloc (.cells #[.int .i64 (0), .int .i64 (0)] 31)).heap.size (((w.alloc (.cells #[.int .u8 1, .int .i64 c] 24)).alloc (.cells #[.int .i64 (0), .int .i64 (0)] 31)).alloc (.cells #[.int .i64 (0), .int .i64 (0)] 31)) (on ux) := by repeat first | (with_reducible exact Below.refl _ _) | (with_reducible refine below_on ?_ _) | (with_reducible refine below_alloc ?_ _)
  have z0 : w.heap.size < (on ux).heap.size := Nat.lt_of_lt_of_le (show w.heap.size < (((w.alloc (.cells #[.int .u8 1, .int .i64 c] 24)).alloc (.cells #[.int .i64 (0), .int .i64 (0)] 31)).alloc (.cells #[.int .i64 (0), .int .i64 (0)] 31)).heap.size by simp [World.size_alloc] <;> omega) hZ.size
  have z1 : w.heap.size + 1 < (on ux).heap.size := Nat.lt_of_lt_of_le (show w.heap.size + 1 < (((w.alloc (.cells #[.int .u8 1, .int .i64 c] 24)).alloc (.cells #[.int .i64 (0), .int .i64 (0)] 31)).alloc (.cells #[.int .i64 (0), .int .i64 (0)] 31)).heap.size by simp [World.size_alloc] <;> omega) hZ.size
  have z2 : w.heap.size + 1 + 1 < (on ux).heap.size := Nat.lt_of_lt_of_le (show w.heap.size + 1 + 1 < (((w.alloc (.cells #[.int .u8 1, .int .i64 c] 24)).alloc (.cells #[.int .i64 (0), .int .i64 (0)] 31)).alloc (.cells #[.int .i64 (0), .int .i64 (0)] 31)).heap.size by simp [World.size_alloc] <;> omega) hZ.size
  clear hZ
  have hB : Below w.heap.size w ((on ux).alloc (.cells #[.int .i64 (2 * c), .int .i64 (0)] 31)) := by repeat first | (with_reducible exact Below.refl _ _) | (with_reducible refine below_on ?_ _) | (with_reducible refine below_alloc ?_ _)
  clear hR
  generalize ((on ux).alloc (.cells #[.int .i64 (2 * c), .int .i64 (0)] 31)) = Wn at *
  generalize (on ux).heap.size = Bn at *
  clear ux
  go_wp2_with (first | (go_at_call 50; with_reducible refine (M1 _).mono ?_; rintro e wx ⟨rfl, hx⟩; obtain ⟨ux, rfl⟩ := after hx; clear hx) | fail)
  have hR : Below (Wn).heap.size (Wn) ((on ux).alloc (.cells #[.int .i64 (2 * c), .int .i64 (2)] 31)) := by repeat first | (with_reducible exact Below.refl _ _) | (with_reducible refine below_on ?_ _) | (with_reducible refine below_alloc ?_ _)
  have c0' : ((on ux).alloc (.cells #[.int .i64 (2 * c), .int .i64 (2)] 31)).cell? ⟨w.heap.size, 0, none⟩ = some (.int .u8 1) := (hR.cell (World.block_lt_of_cell? _ _ c0)).trans c0
  have f0' : ((on ux).alloc (.cells #[.int .i64 (2 * c), .int .i64 (2)] 31)).frozen? ⟨w.heap.size, 0, none⟩ = false := (hR.frozen (World.block_lt_of_cell? _ _ c0)).trans f0
  have c1' : ((on ux).alloc (.cells #[.int .i64 (2 * c), .int .i64 (2)] 31)).cell? ⟨w.heap.size, 1, none⟩ = some (.int .i64 c) := (hR.cell (World.block_lt_of_cell? _ _ c1)).trans c1
  have f1' : ((on ux).alloc (.cells #[.int .i64 (2 * c), .int .i64 (2)] 31)).frozen? ⟨w.heap.size, 1, none⟩ = false := (hR.frozen (World.block_lt_of_cell? _ _ c1)).trans f1
  have c2' : ((on ux).alloc (.cells #[.int .i64 (2 * c), .int .i64 (2)] 31)).cell? ⟨w.heap.size + 1, 0, none⟩ = some (.int .i64 0) := (hR.cell (World.block_lt_of_cell? _ _ c2)).trans c2
  have f2' : ((on ux).alloc (.cells #[.int .i64 (2 * c), .int .i64 (2)] 31)).frozen? ⟨w.heap.size + 1, 0, none⟩ = false := (hR.frozen (World.block_lt_of_cell? _ _ c2)).trans f2
  have c3' : ((on ux).alloc (.cells #[.int .i64 (2 * c), .int .i64 (2)] 31)).cell? ⟨w.heap.size + 1, 1, none⟩ = some (.int .i64 0) := (hR.cell (World.block_lt_of_cell? _ _ c3)).trans c3
  have f3' : ((on ux).alloc (.cells #[.int .i64 (2 * c), .int .i64 (2)] 31)).frozen? ⟨w.heap.size + 1, 1, none⟩ = false := (hR.frozen (World.block_lt_of_cell? _ _ c3)).trans f3
  have c4' : ((on ux).alloc (.cells #[.int .i64 (2 * c), .int .i64 (2)] 31)).cell? ⟨w.heap.size + 1 + 1, 0, none⟩ = some (.int .i64 0) := (hR.cell (World.block_lt_of_cell? _ _ c4)).trans c4
  have f4' : ((on ux).alloc (.cells #[.int .i64 (2 * c), .int .i64 (2)] 31)).frozen? ⟨w.heap.size + 1 + 1, 0, none⟩ = false := (hR.frozen (World.block_lt_of_cell? _ _ c4)).trans f4
  have c5' : ((on ux).alloc (.cells #[.int .i64 (2 * c), .int .i64 (2)] 31)).cell? ⟨w.heap.size + 1 + 1, 1, none⟩ = some (.int .i64 0) := (hR.cell (World.block_lt_of_cell? _ _ c5)).trans c5
  have f5' : ((on ux).alloc (.cells #[.int .i64 (2 * c), .int .i64 (2)] 31)).frozen? ⟨w.heap.size + 1 + 1, 1, none⟩ = false := (hR.frozen (World.block_lt_of_cell? _ _ c5)).trans f5
  have c6' : ((on ux).alloc (.cells #[.int .i64 (2 * c), .int .i64 (2)] 31)).cell? ⟨Bn, 0, none⟩ = some (.int .i64 (2 * c)) := (hR.cell (World.block_lt_of_cell? _ _ c6)).trans c6
  have c7' : ((on ux).alloc (.cells #[.int .i64 (2 * c), .int .i64 (2)] 31)).cell? ⟨Bn, 1, none⟩ = some (.int .i64 (0)) := (hR.cell (World.block_lt_of_cell? _ _ c7)).trans c7
  have Bm00 : ((on ux).alloc (.cells #[.int .i64 (2 * c), .int .i64 (2)] 31)).cell? ⟨(on ux).heap.size, 0, none⟩ = some (.int .i64 (2 * c)) := by simp [go_sem]
  have Bm01 : ((on ux).alloc (.cells #[.int .i64 (2 * c), .int .i64 (2)] 31)).cell? ⟨(on ux).heap.size, 1, none⟩ = some (.int .i64 (2)) := by simp [go_sem]
  have Bmn0 : w.heap.size + 1 < (on ux).heap.size := Nat.lt_of_lt_of_le (World.block_lt_of_cell? _ _ c2) (on_size ux)
  have Bmn1 : w.heap.size + 1 + 1 < (on ux).heap.size := Nat.lt_of_lt_of_le (World.block_lt_of_cell? _ _ c4) (on_size ux)
  have hB2 : Below w.heap.size w ((on ux).alloc (.cells #[.int .i64 (2 * c), .int .i64 (2)] 31)) := by repeat first | (with_reducible exact hB) | (with_reducible refine below_on ?_ _) | (with_reducible refine below_alloc ?_ _)
  clear hR c0 c1 c2 c3 c4 c5 c6 c7 f0 f1 f2 f3 f4 f5 hB
  generalize ((on ux).alloc (.cells #[.int .i64 (2 * c), .int .i64 (2)] 31)) = Wm at *
  generalize (on ux).heap.size = Bm at *
  clear ux
  have Bmp0 : w.heap.size + 1 ≠ Bm := Nat.ne_of_lt Bmn0
  have Bmq0 : Bm ≠ w.heap.size + 1 := Nat.ne_of_gt Bmn0
  clear Bmn0
  have Bmp1 : w.heap.size + 1 + 1 ≠ Bm := Nat.ne_of_lt Bmn1
  have Bmq1 : Bm ≠ w.heap.size + 1 + 1 := Nat.ne_of_gt Bmn1
  clear Bmn1
  go_region
  all_goals go_wp2_with fail
  all_goals exact bodyPost_ret (v := .tuple #[pt (2 * (c)) (2 * (0)), pt (2 * (c)) (2 * (1))]) (by simp [results, Tryd.results86, go_sem, c2', c3', c4', c5']) rfl ⟨rfl, (by repeat first | (with_reducible exact hB2) | (with_reducible refine below_drew ?_) | (with_reducible refine below_on ?_ _) | (with_reducible refine below_alloc ?_ _) | (with_reducible refine below_set ?_ (by simp; try omega) _))⟩

set_option maxRecDepth 100000 in
set_option maxHeartbeats 2000000 in
theorem tpts_2 (c : Int) (w : World) (h3 : -4096 ≤ c) (h4 : c ≤ 4096) : Calls Tryd.prog 86 #[ln 2 c] w fun e w' => e = .returned (.tuple #[pt (2 * (0)) (2 * (c)), pt (2 * (1)) (2 * (c))]) ∧ Below w.heap.size w w' := by
  have M0 : ∀ W, Calls Tryd.prog 50 #[ln 2 c, ln 1 0] W fun e w' => e = .returned (.tuple #[pt (2 * (0)) (2 * (c)), .int .i64 0]) ∧ Below W.heap.size W w' := fun W => by
    refine (meet_21 c 0 W h3 h4 (by omega) (by omega)).mono fun e w' h => ⟨h.1.trans ?_, h.2⟩
    congr 6 <;> omega
  have M1 : ∀ W, Calls Tryd.prog 50 #[ln 2 c, ln 1 1] W fun e w' => e = .returned (.tuple #[pt (2 * (1)) (2 * (c)), .int .i64 0]) ∧ Below W.heap.size W w' := fun W => by
    refine (meet_21 c 1 W h3 h4 (by omega) (by omega)).mono fun e w' h => ⟨h.1.trans ?_, h.2⟩
    congr 6 <;> omega
  go_enter Tryd.func86, Tryd.ntmps86
  go_wp2_with (first | (go_at_call 50; with_reducible refine (M0 _).mono ?_; rintro e wx ⟨rfl, hx⟩; obtain ⟨ux, rfl⟩ := after hx; clear hx) | fail)
  have hR : Below (((w.alloc (.cells #[.int .u8 2, .int .i64 c] 24)).alloc (.cells #[.int .i64 (0), .int .i64 (0)] 31)).alloc (.cells #[.int .i64 (0), .int .i64 (0)] 31)).heap.size (((w.alloc (.cells #[.int .u8 2, .int .i64 c] 24)).alloc (.cells #[.int .i64 (0), .int .i64 (0)] 31)).alloc (.cells #[.int .i64 (0), .int .i64 (0)] 31)) ((on ux).alloc (.cells #[.int .i64 (0), .int .i64 (2 * c)] 31)) := by repeat first | (with_reducible exact Below.refl _ _) | (with_reducible refine below_on ?_ _) | (with_reducible refine below_alloc ?_ _)
  have c0 : ((on ux).alloc (.cells #[.int .i64 (0), .int .i64 (2 * c)] 31)).cell? ⟨w.heap.size, 0, none⟩ = some (.int .u8 2) := by rw [hR.cell (p := ⟨w.heap.size, 0, none⟩) (by simp [World.size_alloc] <;> omega)]; simp [go_sem]
  have f0 : ((on ux).alloc (.cells #[.int .i64 (0), .int .i64 (2 * c)] 31)).frozen? ⟨w.heap.size, 0, none⟩ = false := by rw [hR.frozen (p := ⟨w.heap.size, 0, none⟩) (by simp [World.size_alloc] <;> omega)]; simp [go_sem]
  have c1 : ((on ux).alloc (.cells #[.int .i64 (0), .int .i64 (2 * c)] 31)).cell? ⟨w.heap.size, 1, none⟩ = some (.int .i64 c) := by rw [hR.cell (p := ⟨w.heap.size, 1, none⟩) (by simp [World.size_alloc] <;> omega)]; simp [go_sem]
  have f1 : ((on ux).alloc (.cells #[.int .i64 (0), .int .i64 (2 * c)] 31)).frozen? ⟨w.heap.size, 1, none⟩ = false := by rw [hR.frozen (p := ⟨w.heap.size, 1, none⟩) (by simp [World.size_alloc] <;> omega)]; simp [go_sem]
  have c2 : ((on ux).alloc (.cells #[.int .i64 (0), .int .i64 (2 * c)] 31)).cell? ⟨w.heap.size + 1, 0, none⟩ = some (.int .i64 0) := by rw [hR.cell (p := ⟨w.heap.size + 1, 0, none⟩) (by simp [World.size_alloc] <;> omega)]; simp [go_sem]
  have f2 : ((on ux).alloc (.cells #[.int .i64 (0), .int .i64 (2 * c)] 31)).frozen? ⟨w.heap.size + 1, 0, none⟩ = false := by rw [hR.frozen (p := ⟨w.heap.size + 1, 0, none⟩) (by simp [World.size_alloc] <;> omega)]; simp [go_sem]
  have c3 : ((on ux).alloc (.cells #[.int .i64 (0), .int .i64 (2 * c)] 31)).cell? ⟨w.heap.size + 1, 1, none⟩ = some (.int .i64 0) := by rw [hR.cell (p := ⟨w.heap.size + 1, 1, none⟩) (by simp [World.size_alloc] <;> omega)]; simp [go_sem]
  have f3 : ((on ux).alloc (.cells #[.int .i64 (0), .int .i64 (2 * c)] 31)).frozen? ⟨w.heap.size + 1, 1, none⟩ = false := by rw [hR.frozen (p := ⟨w.heap.size + 1, 1, none⟩) (by simp [World.size_alloc] <;> omega)]; simp [go_sem]
  have c4 : ((on ux).alloc (.cells #[.int .i64 (0), .int .i64 (2 * c)] 31)).cell? ⟨w.heap.size + 1 + 1, 0, none⟩ = some (.int .i64 0) := by rw [hR.cell (p := ⟨w.heap.size + 1 + 1, 0, none⟩) (by simp [World.size_alloc] <;> omega)]; simp [go_sem]
  have f4 : ((on ux).alloc (.cells #[.int .i64 (0), .int .i64 (2 * c)] 31)).frozen? ⟨w.heap.size + 1 + 1, 0, none⟩ = false := by rw [hR.frozen (p := ⟨w.heap.size + 1 + 1, 0, none⟩) (by simp [World.size_alloc] <;> omega)]; simp [go_sem]
  have c5 : ((on ux).alloc (.cells #[.int .i64 (0), .int .i64 (2 * c)] 31)).cell? ⟨w.heap.size + 1 + 1, 1, none⟩ = some (.int .i64 0) := by rw [hR.cell (p := ⟨w.heap.size + 1 + 1, 1, none⟩) (by simp [World.size_alloc] <;> omega)]; simp [go_sem]
  have f5 : ((on ux).alloc (.cells #[.int .i64 (0), .int .i64 (2 * c)] 31)).frozen? ⟨w.heap.size + 1 + 1, 1, none⟩ = false := by rw [hR.frozen (p := ⟨w.heap.size + 1 + 1, 1, none⟩) (by simp [World.size_alloc] <;> omega)]; simp [go_sem]
  have c6 : ((on ux).alloc (.cells #[.int .i64 (0), .int .i64 (2 * c)] 31)).cell? ⟨(on ux).heap.size, 0, none⟩ = some (.int .i64 (0)) := by simp [go_sem]
  have f6 : ((on ux).alloc (.cells #[.int .i64 (0), .int .i64 (2 * c)] 31)).frozen? ⟨(on ux).heap.size, 0, none⟩ = false := by simp [go_sem]
  have c7 : ((on ux).alloc (.cells #[.int .i64 (0), .int .i64 (2 * c)] 31)).cell? ⟨(on ux).heap.size, 1, none⟩ = some (.int .i64 (2 * c)) := by simp [go_sem]
  have f7 : ((on ux).alloc (.cells #[.int .i64 (0), .int .i64 (2 * c)] 31)).frozen? ⟨(on ux).heap.size, 1, none⟩ = false := by simp [go_sem]
  have hZ : Below (((w.alloc (.cells #[.int .u8 2, .int .i64 c] 24)).alloc (.cells #[.int .i64 (0), .int .i64 (0)] 31)).alloc (.cells #[.int .i64 (0), .int .i64 (0)] 31)).heap.size (((w.alloc (.cells #[.int .u8 2, .int .i64 c] 24)).alloc (.cells #[.int .i64 (0), .int .i64 (0)] 31)).alloc (.cells #[.int .i64 (0), .int .i64 (0)] 31)) (on ux) := by repeat first | (with_reducible exact Below.refl _ _) | (with_reducible refine below_on ?_ _) | (with_reducible refine below_alloc ?_ _)
  have z0 : w.heap.size < (on ux).heap.size := Nat.lt_of_lt_of_le (show w.heap.size < (((w.alloc (.cells #[.int .u8 2, .int .i64 c] 24)).alloc (.cells #[.int .i64 (0), .int .i64 (0)] 31)).alloc (.cells #[.int .i64 (0), .int .i64 (0)] 31)).heap.size by simp [World.size_alloc] <;> omega) hZ.size
  have z1 : w.heap.size + 1 < (on ux).heap.size := Nat.lt_of_lt_of_le (show w.heap.size + 1 < (((w.alloc (.cells #[.int .u8 2, .int .i64 c] 24)).alloc (.cells #[.int .i64 (0), .int .i64 (0)] 31)).alloc (.cells #[.int .i64 (0), .int .i64 (0)] 31)).heap.size by simp [World.size_alloc] <;> omega) hZ.size
  have z2 : w.heap.size + 1 + 1 < (on ux).heap.size := Nat.lt_of_lt_of_le (show w.heap.size + 1 + 1 < (((w.alloc (.cells #[.int .u8 2, .int .i64 c] 24)).alloc (.cells #[.int .i64 (0), .int .i64 (0)] 31)).alloc (.cells #[.int .i64 (0), .int .i64 (0)] 31)).heap.size by simp [World.size_alloc] <;> omega) hZ.size
  clear hZ
  have hB : Below w.heap.size w ((on ux).alloc (.cells #[.int .i64 (0), .int .i64 (2 * c)] 31)) := by repeat first | (with_reducible exact Below.refl _ _) | (with_reducible refine below_on ?_ _) | (with_reducible refine below_alloc ?_ _)
  clear hR
  generalize ((on ux).alloc (.cells #[.int .i64 (0), .int .i64 (2 * c)] 31)) = Wn at *
  generalize (on ux).heap.size = Bn at *
  clear ux
  go_wp2_with (first | (go_at_call 50; with_reducible refine (M1 _).mono ?_; rintro e wx ⟨rfl, hx⟩; obtain ⟨ux, rfl⟩ := after hx; clear hx) | fail)
  have hR : Below (Wn).heap.size (Wn) ((on ux).alloc (.cells #[.int .i64 (2), .int .i64 (2 * c)] 31)) := by repeat first | (with_reducible exact Below.refl _ _) | (with_reducible refine below_on ?_ _) | (with_reducible refine below_alloc ?_ _)
  have c0' : ((on ux).alloc (.cells #[.int .i64 (2), .int .i64 (2 * c)] 31)).cell? ⟨w.heap.size, 0, none⟩ = some (.int .u8 2) := (hR.cell (World.block_lt_of_cell? _ _ c0)).trans c0
  have f0' : ((on ux).alloc (.cells #[.int .i64 (2), .int .i64 (2 * c)] 31)).frozen? ⟨w.heap.size, 0, none⟩ = false := (hR.frozen (World.block_lt_of_cell? _ _ c0)).trans f0
  have c1' : ((on ux).alloc (.cells #[.int .i64 (2), .int .i64 (2 * c)] 31)).cell? ⟨w.heap.size, 1, none⟩ = some (.int .i64 c) := (hR.cell (World.block_lt_of_cell? _ _ c1)).trans c1
  have f1' : ((on ux).alloc (.cells #[.int .i64 (2), .int .i64 (2 * c)] 31)).frozen? ⟨w.heap.size, 1, none⟩ = false := (hR.frozen (World.block_lt_of_cell? _ _ c1)).trans f1
  have c2' : ((on ux).alloc (.cells #[.int .i64 (2), .int .i64 (2 * c)] 31)).cell? ⟨w.heap.size + 1, 0, none⟩ = some (.int .i64 0) := (hR.cell (World.block_lt_of_cell? _ _ c2)).trans c2
  have f2' : ((on ux).alloc (.cells #[.int .i64 (2), .int .i64 (2 * c)] 31)).frozen? ⟨w.heap.size + 1, 0, none⟩ = false := (hR.frozen (World.block_lt_of_cell? _ _ c2)).trans f2
  have c3' : ((on ux).alloc (.cells #[.int .i64 (2), .int .i64 (2 * c)] 31)).cell? ⟨w.heap.size + 1, 1, none⟩ = some (.int .i64 0) := (hR.cell (World.block_lt_of_cell? _ _ c3)).trans c3
  have f3' : ((on ux).alloc (.cells #[.int .i64 (2), .int .i64 (2 * c)] 31)).frozen? ⟨w.heap.size + 1, 1, none⟩ = false := (hR.frozen (World.block_lt_of_cell? _ _ c3)).trans f3
  have c4' : ((on ux).alloc (.cells #[.int .i64 (2), .int .i64 (2 * c)] 31)).cell? ⟨w.heap.size + 1 + 1, 0, none⟩ = some (.int .i64 0) := (hR.cell (World.block_lt_of_cell? _ _ c4)).trans c4
  have f4' : ((on ux).alloc (.cells #[.int .i64 (2), .int .i64 (2 * c)] 31)).frozen? ⟨w.heap.size + 1 + 1, 0, none⟩ = false := (hR.frozen (World.block_lt_of_cell? _ _ c4)).trans f4
  have c5' : ((on ux).alloc (.cells #[.int .i64 (2), .int .i64 (2 * c)] 31)).cell? ⟨w.heap.size + 1 + 1, 1, none⟩ = some (.int .i64 0) := (hR.cell (World.block_lt_of_cell? _ _ c5)).trans c5
  have f5' : ((on ux).alloc (.cells #[.int .i64 (2), .int .i64 (2 * c)] 31)).frozen? ⟨w.heap.size + 1 + 1, 1, none⟩ = false := (hR.frozen (World.block_lt_of_cell? _ _ c5)).trans f5
  have c6' : ((on ux).alloc (.cells #[.int .i64 (2), .int .i64 (2 * c)] 31)).cell? ⟨Bn, 0, none⟩ = some (.int .i64 (0)) := (hR.cell (World.block_lt_of_cell? _ _ c6)).trans c6
  have c7' : ((on ux).alloc (.cells #[.int .i64 (2), .int .i64 (2 * c)] 31)).cell? ⟨Bn, 1, none⟩ = some (.int .i64 (2 * c)) := (hR.cell (World.block_lt_of_cell? _ _ c7)).trans c7
  have Bm00 : ((on ux).alloc (.cells #[.int .i64 (2), .int .i64 (2 * c)] 31)).cell? ⟨(on ux).heap.size, 0, none⟩ = some (.int .i64 (2)) := by simp [go_sem]
  have Bm01 : ((on ux).alloc (.cells #[.int .i64 (2), .int .i64 (2 * c)] 31)).cell? ⟨(on ux).heap.size, 1, none⟩ = some (.int .i64 (2 * c)) := by simp [go_sem]
  have Bmn0 : w.heap.size + 1 < (on ux).heap.size := Nat.lt_of_lt_of_le (World.block_lt_of_cell? _ _ c2) (on_size ux)
  have Bmn1 : w.heap.size + 1 + 1 < (on ux).heap.size := Nat.lt_of_lt_of_le (World.block_lt_of_cell? _ _ c4) (on_size ux)
  have hB2 : Below w.heap.size w ((on ux).alloc (.cells #[.int .i64 (2), .int .i64 (2 * c)] 31)) := by repeat first | (with_reducible exact hB) | (with_reducible refine below_on ?_ _) | (with_reducible refine below_alloc ?_ _)
  clear hR c0 c1 c2 c3 c4 c5 c6 c7 f0 f1 f2 f3 f4 f5 hB
  generalize ((on ux).alloc (.cells #[.int .i64 (2), .int .i64 (2 * c)] 31)) = Wm at *
  generalize (on ux).heap.size = Bm at *
  clear ux
  have Bmp0 : w.heap.size + 1 ≠ Bm := Nat.ne_of_lt Bmn0
  have Bmq0 : Bm ≠ w.heap.size + 1 := Nat.ne_of_gt Bmn0
  clear Bmn0
  have Bmp1 : w.heap.size + 1 + 1 ≠ Bm := Nat.ne_of_lt Bmn1
  have Bmq1 : Bm ≠ w.heap.size + 1 + 1 := Nat.ne_of_gt Bmn1
  clear Bmn1
  go_region
  all_goals go_wp2_with fail
  all_goals exact bodyPost_ret (v := .tuple #[pt (2 * (0)) (2 * (c)), pt (2 * (1)) (2 * (c))]) (by simp [results, Tryd.results86, go_sem, c2', c3', c4', c5']) rfl ⟨rfl, (by repeat first | (with_reducible exact hB2) | (with_reducible refine below_drew ?_) | (with_reducible refine below_on ?_ _) | (with_reducible refine below_alloc ?_ _) | (with_reducible refine below_set ?_ (by simp; try omega) _))⟩

set_option maxRecDepth 100000 in
set_option maxHeartbeats 2000000 in
theorem tpts_3 (c : Int) (w : World) (h3 : -4096 ≤ c) (h4 : c ≤ 4096) : Calls Tryd.prog 86 #[ln 3 c] w fun e w' => e = .returned (.tuple #[pt (2 * (0)) (2 * (c)), pt (2 * (1)) (2 * (c - 1))]) ∧ Below w.heap.size w w' := by
  have M0 : ∀ W, Calls Tryd.prog 50 #[ln 3 c, ln 1 0] W fun e w' => e = .returned (.tuple #[pt (2 * (0)) (2 * (c)), .int .i64 0]) ∧ Below W.heap.size W w' := fun W => by
    refine (meet_31 c 0 W h3 h4 (by omega) (by omega)).mono fun e w' h => ⟨h.1.trans ?_, h.2⟩
    congr 6 <;> omega
  have M1 : ∀ W, Calls Tryd.prog 50 #[ln 3 c, ln 1 1] W fun e w' => e = .returned (.tuple #[pt (2 * (1)) (2 * (c - 1)), .int .i64 0]) ∧ Below W.heap.size W w' := fun W => by
    refine (meet_31 c 1 W h3 h4 (by omega) (by omega)).mono fun e w' h => ⟨h.1.trans ?_, h.2⟩
    congr 6 <;> omega
  go_enter Tryd.func86, Tryd.ntmps86
  go_wp2_with (first | (go_at_call 50; with_reducible refine (M0 _).mono ?_; rintro e wx ⟨rfl, hx⟩; obtain ⟨ux, rfl⟩ := after hx; clear hx) | fail)
  have hR : Below (((w.alloc (.cells #[.int .u8 3, .int .i64 c] 24)).alloc (.cells #[.int .i64 (0), .int .i64 (0)] 31)).alloc (.cells #[.int .i64 (0), .int .i64 (0)] 31)).heap.size (((w.alloc (.cells #[.int .u8 3, .int .i64 c] 24)).alloc (.cells #[.int .i64 (0), .int .i64 (0)] 31)).alloc (.cells #[.int .i64 (0), .int .i64 (0)] 31)) ((on ux).alloc (.cells #[.int .i64 (0), .int .i64 (2 * c)] 31)) := by repeat first | (with_reducible exact Below.refl _ _) | (with_reducible refine below_on ?_ _) | (with_reducible refine below_alloc ?_ _)
  have c0 : ((on ux).alloc (.cells #[.int .i64 (0), .int .i64 (2 * c)] 31)).cell? ⟨w.heap.size, 0, none⟩ = some (.int .u8 3) := by rw [hR.cell (p := ⟨w.heap.size, 0, none⟩) (by simp [World.size_alloc] <;> omega)]; simp [go_sem]
  have f0 : ((on ux).alloc (.cells #[.int .i64 (0), .int .i64 (2 * c)] 31)).frozen? ⟨w.heap.size, 0, none⟩ = false := by rw [hR.frozen (p := ⟨w.heap.size, 0, none⟩) (by simp [World.size_alloc] <;> omega)]; simp [go_sem]
  have c1 : ((on ux).alloc (.cells #[.int .i64 (0), .int .i64 (2 * c)] 31)).cell? ⟨w.heap.size, 1, none⟩ = some (.int .i64 c) := by rw [hR.cell (p := ⟨w.heap.size, 1, none⟩) (by simp [World.size_alloc] <;> omega)]; simp [go_sem]
  have f1 : ((on ux).alloc (.cells #[.int .i64 (0), .int .i64 (2 * c)] 31)).frozen? ⟨w.heap.size, 1, none⟩ = false := by rw [hR.frozen (p := ⟨w.heap.size, 1, none⟩) (by simp [World.size_alloc] <;> omega)]; simp [go_sem]
  have c2 : ((on ux).alloc (.cells #[.int .i64 (0), .int .i64 (2 * c)] 31)).cell? ⟨w.heap.size + 1, 0, none⟩ = some (.int .i64 0) := by rw [hR.cell (p := ⟨w.heap.size + 1, 0, none⟩) (by simp [World.size_alloc] <;> omega)]; simp [go_sem]
  have f2 : ((on ux).alloc (.cells #[.int .i64 (0), .int .i64 (2 * c)] 31)).frozen? ⟨w.heap.size + 1, 0, none⟩ = false := by rw [hR.frozen (p := ⟨w.heap.size + 1, 0, none⟩) (by simp [World.size_alloc] <;> omega)]; simp [go_sem]
  have c3 : ((on ux).alloc (.cells #[.int .i64 (0), .int .i64 (2 * c)] 31)).cell? ⟨w.heap.size + 1, 1, none⟩ = some (.int .i64 0) := by rw [hR.cell (p := ⟨w.heap.size + 1, 1, none⟩) (by simp [World.size_alloc] <;> omega)]; simp [go_sem]
  have f3 : ((on ux).alloc (.cells #[.int .i64 (0), .int .i64 (2 * c)] 31)).frozen? ⟨w.heap.size + 1, 1, none⟩ = false := by rw [hR.frozen (p := ⟨w.heap.size + 1, 1, none⟩) (by simp [World.size_alloc] <;> omega)]; simp [go_sem]
  have c4 : ((on ux).alloc (.cells #[.int .i64 (0), .int .i64 (2 * c)] 31)).cell? ⟨w.heap.size + 1 + 1, 0, none⟩ = some (.int .i64 0) := by rw [hR.cell (p := ⟨w.heap.size + 1 + 1, 0, none⟩) (by simp [World.size_alloc] <;> omega)]; simp [go_sem]
  have f4 : ((on ux).alloc (.cells #[.int .i64 (0), .int .i64 (2 * c)] 31)).frozen? ⟨w.heap.size + 1 + 1, 0, none⟩ = false := by rw [hR.frozen (p := ⟨w.heap.size + 1 + 1, 0, none⟩) (by simp [World.size_alloc] <;> omega)]; simp [go_sem]
  have c5 : ((on ux).alloc (.cells #[.int .i64 (0), .int .i64 (2 * c)] 31)).cell? ⟨w.heap.size + 1 + 1, 1, none⟩ = some (.int .i64 0) := by rw [hR.cell (p := ⟨w.heap.size + 1 + 1, 1, none⟩) (by simp [World.size_alloc] <;> omega)]; simp [go_sem]
  have f5 : ((on ux).alloc (.cells #[.int .i64 (0), .int .i64 (2 * c)] 31)).frozen? ⟨w.heap.size + 1 + 1, 1, none⟩ = false := by rw [hR.frozen (p := ⟨w.heap.size + 1 + 1, 1, none⟩) (by simp [World.size_alloc] <;> omega)]; simp [go_sem]
  have c6 : ((on ux).alloc (.cells #[.int .i64 (0), .int .i64 (2 * c)] 31)).cell? ⟨(on ux).heap.size, 0, none⟩ = some (.int .i64 (0)) := by simp [go_sem]
  have f6 : ((on ux).alloc (.cells #[.int .i64 (0), .int .i64 (2 * c)] 31)).frozen? ⟨(on ux).heap.size, 0, none⟩ = false := by simp [go_sem]
  have c7 : ((on ux).alloc (.cells #[.int .i64 (0), .int .i64 (2 * c)] 31)).cell? ⟨(on ux).heap.size, 1, none⟩ = some (.int .i64 (2 * c)) := by simp [go_sem]
  have f7 : ((on ux).alloc (.cells #[.int .i64 (0), .int .i64 (2 * c)] 31)).frozen? ⟨(on ux).heap.size, 1, none⟩ = false := by simp [go_sem]
  have hZ : Below (((w.alloc (.cells #[.int .u8 3, .int .i64 c] 24)).alloc (.cells #[.int .i64 (0), .int .i64 (0)] 31)).alloc (.cells #[.int .i64 (0), .int .i64 (0)] 31)).heap.size (((w.alloc (.cells #[.int .u8 3, .int .i64 c] 24)).alloc (.cells #[.int .i64 (0), .int .i64 (0)] 31)).alloc (.cells #[.int .i64 (0), .int .i64 (0)] 31)) (on ux) := by repeat first | (with_reducible exact Below.refl _ _) | (with_reducible refine below_on ?_ _) | (with_reducible refine below_alloc ?_ _)
  have z0 : w.heap.size < (on ux).heap.size := Nat.lt_of_lt_of_le (show w.heap.size < (((w.alloc (.cells #[.int .u8 3, .int .i64 c] 24)).alloc (.cells #[.int .i64 (0), .int .i64 (0)] 31)).alloc (.cells #[.int .i64 (0), .int .i64 (0)] 31)).heap.size by simp [World.size_alloc] <;> omega) hZ.size
  have z1 : w.heap.size + 1 < (on ux).heap.size := Nat.lt_of_lt_of_le (show w.heap.size + 1 < (((w.alloc (.cells #[.int .u8 3, .int .i64 c] 24)).alloc (.cells #[.int .i64 (0), .int .i64 (0)] 31)).alloc (.cells #[.int .i64 (0), .int .i64 (0)] 31)).heap.size by simp [World.size_alloc] <;> omega) hZ.size
  have z2 : w.heap.size + 1 + 1 < (on ux).heap.size := Nat.lt_of_lt_of_le (show w.heap.size + 1 + 1 < (((w.alloc (.cells #[.int .u8 3, .int .i64 c] 24)).alloc (.cells #[.int .i64 (0), .int .i64 (0)] 31)).alloc (.cells #[.int .i64 (0), .int .i64 (0)] 31)).heap.size by simp [World.size_alloc] <;> omega) hZ.size
  clear hZ
  have hB : Below w.heap.size w ((on ux).alloc (.cells #[.int .i64 (0), .int .i64 (2 * c)] 31)) := by repeat first | (with_reducible exact Below.refl _ _) | (with_reducible refine below_on ?_ _) | (with_reducible refine below_alloc ?_ _)
  clear hR
  generalize ((on ux).alloc (.cells #[.int .i64 (0), .int .i64 (2 * c)] 31)) = Wn at *
  generalize (on ux).heap.size = Bn at *
  clear ux
  go_wp2_with (first | (go_at_call 50; with_reducible refine (M1 _).mono ?_; rintro e wx ⟨rfl, hx⟩; obtain ⟨ux, rfl⟩ := after hx; clear hx) | fail)
  have hR : Below (Wn).heap.size (Wn) ((on ux).alloc (.cells #[.int .i64 (2), .int .i64 (2 * (c - 1))] 31)) := by repeat first | (with_reducible exact Below.refl _ _) | (with_reducible refine below_on ?_ _) | (with_reducible refine below_alloc ?_ _)
  have c0' : ((on ux).alloc (.cells #[.int .i64 (2), .int .i64 (2 * (c - 1))] 31)).cell? ⟨w.heap.size, 0, none⟩ = some (.int .u8 3) := (hR.cell (World.block_lt_of_cell? _ _ c0)).trans c0
  have f0' : ((on ux).alloc (.cells #[.int .i64 (2), .int .i64 (2 * (c - 1))] 31)).frozen? ⟨w.heap.size, 0, none⟩ = false := (hR.frozen (World.block_lt_of_cell? _ _ c0)).trans f0
  have c1' : ((on ux).alloc (.cells #[.int .i64 (2), .int .i64 (2 * (c - 1))] 31)).cell? ⟨w.heap.size, 1, none⟩ = some (.int .i64 c) := (hR.cell (World.block_lt_of_cell? _ _ c1)).trans c1
  have f1' : ((on ux).alloc (.cells #[.int .i64 (2), .int .i64 (2 * (c - 1))] 31)).frozen? ⟨w.heap.size, 1, none⟩ = false := (hR.frozen (World.block_lt_of_cell? _ _ c1)).trans f1
  have c2' : ((on ux).alloc (.cells #[.int .i64 (2), .int .i64 (2 * (c - 1))] 31)).cell? ⟨w.heap.size + 1, 0, none⟩ = some (.int .i64 0) := (hR.cell (World.block_lt_of_cell? _ _ c2)).trans c2
  have f2' : ((on ux).alloc (.cells #[.int .i64 (2), .int .i64 (2 * (c - 1))] 31)).frozen? ⟨w.heap.size + 1, 0, none⟩ = false := (hR.frozen (World.block_lt_of_cell? _ _ c2)).trans f2
  have c3' : ((on ux).alloc (.cells #[.int .i64 (2), .int .i64 (2 * (c - 1))] 31)).cell? ⟨w.heap.size + 1, 1, none⟩ = some (.int .i64 0) := (hR.cell (World.block_lt_of_cell? _ _ c3)).trans c3
  have f3' : ((on ux).alloc (.cells #[.int .i64 (2), .int .i64 (2 * (c - 1))] 31)).frozen? ⟨w.heap.size + 1, 1, none⟩ = false := (hR.frozen (World.block_lt_of_cell? _ _ c3)).trans f3
  have c4' : ((on ux).alloc (.cells #[.int .i64 (2), .int .i64 (2 * (c - 1))] 31)).cell? ⟨w.heap.size + 1 + 1, 0, none⟩ = some (.int .i64 0) := (hR.cell (World.block_lt_of_cell? _ _ c4)).trans c4
  have f4' : ((on ux).alloc (.cells #[.int .i64 (2), .int .i64 (2 * (c - 1))] 31)).frozen? ⟨w.heap.size + 1 + 1, 0, none⟩ = false := (hR.frozen (World.block_lt_of_cell? _ _ c4)).trans f4
  have c5' : ((on ux).alloc (.cells #[.int .i64 (2), .int .i64 (2 * (c - 1))] 31)).cell? ⟨w.heap.size + 1 + 1, 1, none⟩ = some (.int .i64 0) := (hR.cell (World.block_lt_of_cell? _ _ c5)).trans c5
  have f5' : ((on ux).alloc (.cells #[.int .i64 (2), .int .i64 (2 * (c - 1))] 31)).frozen? ⟨w.heap.size + 1 + 1, 1, none⟩ = false := (hR.frozen (World.block_lt_of_cell? _ _ c5)).trans f5
  have c6' : ((on ux).alloc (.cells #[.int .i64 (2), .int .i64 (2 * (c - 1))] 31)).cell? ⟨Bn, 0, none⟩ = some (.int .i64 (0)) := (hR.cell (World.block_lt_of_cell? _ _ c6)).trans c6
  have c7' : ((on ux).alloc (.cells #[.int .i64 (2), .int .i64 (2 * (c - 1))] 31)).cell? ⟨Bn, 1, none⟩ = some (.int .i64 (2 * c)) := (hR.cell (World.block_lt_of_cell? _ _ c7)).trans c7
  have Bm00 : ((on ux).alloc (.cells #[.int .i64 (2), .int .i64 (2 * (c - 1))] 31)).cell? ⟨(on ux).heap.size, 0, none⟩ = some (.int .i64 (2)) := by simp [go_sem]
  have Bm01 : ((on ux).alloc (.cells #[.int .i64 (2), .int .i64 (2 * (c - 1))] 31)).cell? ⟨(on ux).heap.size, 1, none⟩ = some (.int .i64 (2 * (c - 1))) := by simp [go_sem]
  have Bmn0 : w.heap.size + 1 < (on ux).heap.size := Nat.lt_of_lt_of_le (World.block_lt_of_cell? _ _ c2) (on_size ux)
  have Bmn1 : w.heap.size + 1 + 1 < (on ux).heap.size := Nat.lt_of_lt_of_le (World.block_lt_of_cell? _ _ c4) (on_size ux)
  have hB2 : Below w.heap.size w ((on ux).alloc (.cells #[.int .i64 (2), .int .i64 (2 * (c - 1))] 31)) := by repeat first | (with_reducible exact hB) | (with_reducible refine below_on ?_ _) | (with_reducible refine below_alloc ?_ _)
  clear hR c0 c1 c2 c3 c4 c5 c6 c7 f0 f1 f2 f3 f4 f5 hB
  generalize ((on ux).alloc (.cells #[.int .i64 (2), .int .i64 (2 * (c - 1))] 31)) = Wm at *
  generalize (on ux).heap.size = Bm at *
  clear ux
  have Bmp0 : w.heap.size + 1 ≠ Bm := Nat.ne_of_lt Bmn0
  have Bmq0 : Bm ≠ w.heap.size + 1 := Nat.ne_of_gt Bmn0
  clear Bmn0
  have Bmp1 : w.heap.size + 1 + 1 ≠ Bm := Nat.ne_of_lt Bmn1
  have Bmq1 : Bm ≠ w.heap.size + 1 + 1 := Nat.ne_of_gt Bmn1
  clear Bmn1
  go_region
  all_goals go_wp2_with fail
  all_goals exact bodyPost_ret (v := .tuple #[pt (2 * (0)) (2 * (c)), pt (2 * (1)) (2 * (c - 1))]) (by simp [results, Tryd.results86, go_sem, c2', c3', c4', c5']) rfl ⟨rfl, (by repeat first | (with_reducible exact hB2) | (with_reducible refine below_drew ?_) | (with_reducible refine below_on ?_ _) | (with_reducible refine below_alloc ?_ _) | (with_reducible refine below_set ?_ (by simp; try omega) _))⟩

set_option maxRecDepth 100000 in
set_option maxHeartbeats 2000000 in
theorem tpts_4 (c : Int) (w : World) (h3 : -4096 ≤ c) (h4 : c ≤ 4096) : Calls Tryd.prog 86 #[ln 4 c] w fun e w' => e = .returned (.tuple #[pt (2 * (0)) (2 * (c)), pt (2 * (1)) (2 * (c + 1))]) ∧ Below w.heap.size w w' := by
  have M0 : ∀ W, Calls Tryd.prog 50 #[ln 4 c, ln 1 0] W fun e w' => e = .returned (.tuple #[pt (2 * (0)) (2 * (c)), .int .i64 0]) ∧ Below W.heap.size W w' := fun W => by
    refine (meet_41 c 0 W h3 h4 (by omega) (by omega)).mono fun e w' h => ⟨h.1.trans ?_, h.2⟩
    congr 6 <;> omega
  have M1 : ∀ W, Calls Tryd.prog 50 #[ln 4 c, ln 1 1] W fun e w' => e = .returned (.tuple #[pt (2 * (1)) (2 * (c + 1)), .int .i64 0]) ∧ Below W.heap.size W w' := fun W => by
    refine (meet_41 c 1 W h3 h4 (by omega) (by omega)).mono fun e w' h => ⟨h.1.trans ?_, h.2⟩
    congr 6 <;> omega
  go_enter Tryd.func86, Tryd.ntmps86
  go_wp2_with (first | (go_at_call 50; with_reducible refine (M0 _).mono ?_; rintro e wx ⟨rfl, hx⟩; obtain ⟨ux, rfl⟩ := after hx; clear hx) | fail)
  have hR : Below (((w.alloc (.cells #[.int .u8 4, .int .i64 c] 24)).alloc (.cells #[.int .i64 (0), .int .i64 (0)] 31)).alloc (.cells #[.int .i64 (0), .int .i64 (0)] 31)).heap.size (((w.alloc (.cells #[.int .u8 4, .int .i64 c] 24)).alloc (.cells #[.int .i64 (0), .int .i64 (0)] 31)).alloc (.cells #[.int .i64 (0), .int .i64 (0)] 31)) ((on ux).alloc (.cells #[.int .i64 (0), .int .i64 (2 * c)] 31)) := by repeat first | (with_reducible exact Below.refl _ _) | (with_reducible refine below_on ?_ _) | (with_reducible refine below_alloc ?_ _)
  have c0 : ((on ux).alloc (.cells #[.int .i64 (0), .int .i64 (2 * c)] 31)).cell? ⟨w.heap.size, 0, none⟩ = some (.int .u8 4) := by rw [hR.cell (p := ⟨w.heap.size, 0, none⟩) (by simp [World.size_alloc] <;> omega)]; simp [go_sem]
  have f0 : ((on ux).alloc (.cells #[.int .i64 (0), .int .i64 (2 * c)] 31)).frozen? ⟨w.heap.size, 0, none⟩ = false := by rw [hR.frozen (p := ⟨w.heap.size, 0, none⟩) (by simp [World.size_alloc] <;> omega)]; simp [go_sem]
  have c1 : ((on ux).alloc (.cells #[.int .i64 (0), .int .i64 (2 * c)] 31)).cell? ⟨w.heap.size, 1, none⟩ = some (.int .i64 c) := by rw [hR.cell (p := ⟨w.heap.size, 1, none⟩) (by simp [World.size_alloc] <;> omega)]; simp [go_sem]
  have f1 : ((on ux).alloc (.cells #[.int .i64 (0), .int .i64 (2 * c)] 31)).frozen? ⟨w.heap.size, 1, none⟩ = false := by rw [hR.frozen (p := ⟨w.heap.size, 1, none⟩) (by simp [World.size_alloc] <;> omega)]; simp [go_sem]
  have c2 : ((on ux).alloc (.cells #[.int .i64 (0), .int .i64 (2 * c)] 31)).cell? ⟨w.heap.size + 1, 0, none⟩ = some (.int .i64 0) := by rw [hR.cell (p := ⟨w.heap.size + 1, 0, none⟩) (by simp [World.size_alloc] <;> omega)]; simp [go_sem]
  have f2 : ((on ux).alloc (.cells #[.int .i64 (0), .int .i64 (2 * c)] 31)).frozen? ⟨w.heap.size + 1, 0, none⟩ = false := by rw [hR.frozen (p := ⟨w.heap.size + 1, 0, none⟩) (by simp [World.size_alloc] <;> omega)]; simp [go_sem]
  have c3 : ((on ux).alloc (.cells #[.int .i64 (0), .int .i64 (2 * c)] 31)).cell? ⟨w.heap.size + 1, 1, none⟩ = some (.int .i64 0) := by rw [hR.cell (p := ⟨w.heap.size + 1, 1, none⟩) (by simp [World.size_alloc] <;> omega)]; simp [go_sem]
  have f3 : ((on ux).alloc (.cells #[.int .i64 (0), .int .i64 (2 * c)] 31)).frozen? ⟨w.heap.size + 1, 1, none⟩ = false := by rw [hR.frozen (p := ⟨w.heap.size + 1, 1, none⟩) (by simp [World.size_alloc] <;> omega)]; simp [go_sem]
  have c4 : ((on ux).alloc (.cells #[.int .i64 (0), .int .i64 (2 * c)] 31)).cell? ⟨w.heap.size + 1 + 1, 0, none⟩ = some (.int .i64 0) := by rw [hR.cell (p := ⟨w.heap.size + 1 + 1, 0, none⟩) (by simp [World.size_alloc] <;> omega)]; simp [go_sem]
  have f4 : ((on ux).alloc (.cells #[.int .i64 (0), .int .i64 (2 * c)] 31)).frozen? ⟨w.heap.size + 1 + 1, 0, none⟩ = false := by rw [hR.frozen (p := ⟨w.heap.size + 1 + 1, 0, none⟩) (by simp [World.size_alloc] <;> omega)]; simp [go_sem]
  have c5 : ((on ux).alloc (.cells #[.int .i64 (0), .int .i64 (2 * c)] 31)).cell? ⟨w.heap.size + 1 + 1, 1, none⟩ = some (.int .i64 0) := by rw [hR.cell (p := ⟨w.heap.size + 1 + 1, 1, none⟩) (by simp [World.size_alloc] <;> omega)]; simp [go_sem]
  have f5 : ((on ux).alloc (.cells #[.int .i64 (0), .int .i64 (2 * c)] 31)).frozen? ⟨w.heap.size + 1 + 1, 1, none⟩ = false := by rw [hR.frozen (p := ⟨w.heap.size + 1 + 1, 1, none⟩) (by simp [World.size_alloc] <;> omega)]; simp [go_sem]
  have c6 : ((on ux).alloc (.cells #[.int .i64 (0), .int .i64 (2 * c)] 31)).cell? ⟨(on ux).heap.size, 0, none⟩ = some (.int .i64 (0)) := by simp [go_sem]
  have f6 : ((on ux).alloc (.cells #[.int .i64 (0), .int .i64 (2 * c)] 31)).frozen? ⟨(on ux).heap.size, 0, none⟩ = false := by simp [go_sem]
  have c7 : ((on ux).alloc (.cells #[.int .i64 (0), .int .i64 (2 * c)] 31)).cell? ⟨(on ux).heap.size, 1, none⟩ = some (.int .i64 (2 * c)) := by simp [go_sem]
  have f7 : ((on ux).alloc (.cells #[.int .i64 (0), .int .i64 (2 * c)] 31)).frozen? ⟨(on ux).heap.size, 1, none⟩ = false := by simp [go_sem]
  have hZ : Below (((w.alloc (.cells #[.int .u8 4, .int .i64 c] 24)).alloc (.cells #[.int .i64 (0), .int .i64 (0)] 31)).alloc (.cells #[.int .i64 (0), .int .i64 (0)] 31)).heap.size (((w.alloc (.cells #[.int .u8 4, .int .i64 c] 24)).alloc (.cells #[.int .i64 (0), .int .i64 (0)] 31)).alloc (.cells #[.int .i64 (0), .int .i64 (0)] 31)) (on ux) := by repeat first | (with_reducible exact Below.refl _ _) | (with_reducible refine below_on ?_ _) | (with_reducible refine below_alloc ?_ _)
  have z0 : w.heap.size < (on ux).heap.size := Nat.lt_of_lt_of_le (show w.heap.size < (((w.alloc (.cells #[.int .u8 4, .int .i64 c] 24)).alloc (.cells #[.int .i64 (0), .int .i64 (0)] 31)).alloc (.cells #[.int .i64 (0), .int .i64 (0)] 31)).heap.size by simp [World.size_alloc] <;> omega) hZ.size
  have z1 : w.heap.size + 1 < (on ux).heap.size := Nat.lt_of_lt_of_le (show w.heap.size + 1 < (((w.alloc (.cells #[.int .u8 4, .int .i64 c] 24)).alloc (.cells #[.int .i64 (0), .int .i64 (0)] 31)).alloc (.cells #[.int .i64 (0), .int .i64 (0)] 31)).heap.size by simp [World.size_alloc] <;> omega) hZ.size
  have z2 : w.heap.size + 1 + 1 < (on ux).heap.size := Nat.lt_of_lt_of_le (show w.heap.size + 1 + 1 < (((w.alloc (.cells #[.int .u8 4, .int .i64 c] 24)).alloc (.cells #[.int .i64 (0), .int .i64 (0)] 31)).alloc (.cells #[.int .i64 (0), .int .i64 (0)] 31)).heap.size by simp [World.size_alloc] <;> omega) hZ.size
  clear hZ
  have hB : Below w.heap.size w ((on ux).alloc (.cells #[.int .i64 (0), .int .i64 (2 * c)] 31)) := by repeat first | (with_reducible exact Below.refl _ _) | (with_reducible refine below_on ?_ _) | (with_reducible refine below_alloc ?_ _)
  clear hR
  generalize ((on ux).alloc (.cells #[.int .i64 (0), .int .i64 (2 * c)] 31)) = Wn at *
  generalize (on ux).heap.size = Bn at *
  clear ux
  go_wp2_with (first | (go_at_call 50; with_reducible refine (M1 _).mono ?_; rintro e wx ⟨rfl, hx⟩; obtain ⟨ux, rfl⟩ := after hx; clear hx) | fail)
  have hR : Below (Wn).heap.size (Wn) ((on ux).alloc (.cells #[.int .i64 (2), .int .i64 (2 * (c + 1))] 31)) := by repeat first | (with_reducible exact Below.refl _ _) | (with_reducible refine below_on ?_ _) | (with_reducible refine below_alloc ?_ _)
  have c0' : ((on ux).alloc (.cells #[.int .i64 (2), .int .i64 (2 * (c + 1))] 31)).cell? ⟨w.heap.size, 0, none⟩ = some (.int .u8 4) := (hR.cell (World.block_lt_of_cell? _ _ c0)).trans c0
  have f0' : ((on ux).alloc (.cells #[.int .i64 (2), .int .i64 (2 * (c + 1))] 31)).frozen? ⟨w.heap.size, 0, none⟩ = false := (hR.frozen (World.block_lt_of_cell? _ _ c0)).trans f0
  have c1' : ((on ux).alloc (.cells #[.int .i64 (2), .int .i64 (2 * (c + 1))] 31)).cell? ⟨w.heap.size, 1, none⟩ = some (.int .i64 c) := (hR.cell (World.block_lt_of_cell? _ _ c1)).trans c1
  have f1' : ((on ux).alloc (.cells #[.int .i64 (2), .int .i64 (2 * (c + 1))] 31)).frozen? ⟨w.heap.size, 1, none⟩ = false := (hR.frozen (World.block_lt_of_cell? _ _ c1)).trans f1
  have c2' : ((on ux).alloc (.cells #[.int .i64 (2), .int .i64 (2 * (c + 1))] 31)).cell? ⟨w.heap.size + 1, 0, none⟩ = some (.int .i64 0) := (hR.cell (World.block_lt_of_cell? _ _ c2)).trans c2
  have f2' : ((on ux).alloc (.cells #[.int .i64 (2), .int .i64 (2 * (c + 1))] 31)).frozen? ⟨w.heap.size + 1, 0, none⟩ = false := (hR.frozen (World.block_lt_of_cell? _ _ c2)).trans f2
  have c3' : ((on ux).alloc (.cells #[.int .i64 (2), .int .i64 (2 * (c + 1))] 31)).cell? ⟨w.heap.size + 1, 1, none⟩ = some (.int .i64 0) := (hR.cell (World.block_lt_of_cell? _ _ c3)).trans c3
  have f3' : ((on ux).alloc (.cells #[.int .i64 (2), .int .i64 (2 * (c + 1))] 31)).frozen? ⟨w.heap.size + 1, 1, none⟩ = false := (hR.frozen (World.block_lt_of_cell? _ _ c3)).trans f3
  have c4' : ((on ux).alloc (.cells #[.int .i64 (2), .int .i64 (2 * (c + 1))] 31)).cell? ⟨w.heap.size + 1 + 1, 0, none⟩ = some (.int .i64 0) := (hR.cell (World.block_lt_of_cell? _ _ c4)).trans c4
  have f4' : ((on ux).alloc (.cells #[.int .i64 (2), .int .i64 (2 * (c + 1))] 31)).frozen? ⟨w.heap.size + 1 + 1, 0, none⟩ = false := (hR.frozen (World.block_lt_of_cell? _ _ c4)).trans f4
  have c5' : ((on ux).alloc (.cells #[.int .i64 (2), .int .i64 (2 * (c + 1))] 31)).cell? ⟨w.heap.size + 1 + 1, 1, none⟩ = some (.int .i64 0) := (hR.cell (World.block_lt_of_cell? _ _ c5)).trans c5
  have f5' : ((on ux).alloc (.cells #[.int .i64 (2), .int .i64 (2 * (c + 1))] 31)).frozen? ⟨w.heap.size + 1 + 1, 1, none⟩ = false := (hR.frozen (World.block_lt_of_cell? _ _ c5)).trans f5
  have c6' : ((on ux).alloc (.cells #[.int .i64 (2), .int .i64 (2 * (c + 1))] 31)).cell? ⟨Bn, 0, none⟩ = some (.int .i64 (0)) := (hR.cell (World.block_lt_of_cell? _ _ c6)).trans c6
  have c7' : ((on ux).alloc (.cells #[.int .i64 (2), .int .i64 (2 * (c + 1))] 31)).cell? ⟨Bn, 1, none⟩ = some (.int .i64 (2 * c)) := (hR.cell (World.block_lt_of_cell? _ _ c7)).trans c7
  have Bm00 : ((on ux).alloc (.cells #[.int .i64 (2), .int .i64 (2 * (c + 1))] 31)).cell? ⟨(on ux).heap.size, 0, none⟩ = some (.int .i64 (2)) := by simp [go_sem]
  have Bm01 : ((on ux).alloc (.cells #[.int .i64 (2), .int .i64 (2 * (c + 1))] 31)).cell? ⟨(on ux).heap.size, 1, none⟩ = some (.int .i64 (2 * (c + 1))) := by simp [go_sem]
  have Bmn0 : w.heap.size + 1 < (on ux).heap.size := Nat.lt_of_lt_of_le (World.block_lt_of_cell? _ _ c2) (on_size ux)
  have Bmn1 : w.heap.size + 1 + 1 < (on ux).heap.size := Nat.lt_of_lt_of_le (World.block_lt_of_cell? _ _ c4) (on_size ux)
  have hB2 : Below w.heap.size w ((on ux).alloc (.cells #[.int .i64 (2), .int .i64 (2 * (c + 1))] 31)) := by repeat first | (with_reducible exact hB) | (with_reducible refine below_on ?_ _) | (with_reducible refine below_alloc ?_ _)
  clear hR c0 c1 c2 c3 c4 c5 c6 c7 f0 f1 f2 f3 f4 f5 hB
  generalize ((on ux).alloc (.cells #[.int .i64 (2), .int .i64 (2 * (c + 1))] 31)) = Wm at *
  generalize (on ux).heap.size = Bm at *
  clear ux
  have Bmp0 : w.heap.size + 1 ≠ Bm := Nat.ne_of_lt Bmn0
  have Bmq0 : Bm ≠ w.heap.size + 1 := Nat.ne_of_gt Bmn0
  clear Bmn0
  have Bmp1 : w.heap.size + 1 + 1 ≠ Bm := Nat.ne_of_lt Bmn1
  have Bmq1 : Bm ≠ w.heap.size + 1 + 1 := Nat.ne_of_gt Bmn1
  clear Bmn1
  go_region
  all_goals go_wp2_with fail
  all_goals exact bodyPost_ret (v := .tuple #[pt (2 * (0)) (2 * (c)), pt (2 * (1)) (2 * (c + 1))]) (by simp [results, Tryd.results86, go_sem, c2', c3', c4', c5']) rfl ⟨rfl, (by repeat first | (with_reducible exact hB2) | (with_reducible refine below_drew ?_) | (with_reducible refine below_on ?_ _) | (with_reducible refine below_alloc ?_ _) | (with_reducible refine below_set ?_ (by simp; try omega) _))⟩

theorem tpts_any (k c : Int) (w : World) (h1 : 1 ≤ k) (h2 : k ≤ 4) (h3 : -4096 ≤ c) (h4 : c ≤ 4096) : Calls Tryd.prog 86 #[ln k c] w fun e w' => e = .returned (.tuple #[pt (2 * lx1 k c) (2 * ly1 k c), pt (2 * lx2 k c) (2 * ly2 k c)]) ∧ Below w.heap.size w w' := by
  obtain rfl | rfl | rfl | rfl : k = 1 ∨ k = 2 ∨ k = 3 ∨ k = 4 := by omega
  · exact tpts_1 c w h3 h4
  · exact tpts_2 c w h3 h4
  · exact tpts_3 c w h3 h4
  · exact tpts_4 c w h3 h4

theorem sgn_ne {n : Int} (h : n ≠ 0) : (sgn n == 0) = false := by
  unfold sgn
  split
  · rfl
  · split
    · rfl
    · omega
theorem lp_range (k c : Int) (h1 : 1 ≤ k) (h2 : k ≤ 4) (h3 : -4096 ≤ c) (h4 : c ≤ 4096) : -4100 ≤ lx1 k c ∧ lx1 k c ≤ 4100 ∧ -4100 ≤ ly1 k c ∧ ly1 k c ≤ 4100 ∧ -4100 ≤ lx2 k c ∧ lx2 k c ≤ 4100 ∧ -4100 ≤ ly2 k c ∧ ly2 k c ≤ 4100 := by
  obtain rfl | rfl | rfl | rfl : k = 1 ∨ k = 2 ∨ k = 3 ∨ k = 4 := by omega
  · rw [lx11, ly11, lx21, ly21]; omega
  · rw [lx12, ly12, lx22, ly22]; omega
  · rw [lx13, ly13, lx23, ly23]; omega
  · rw [lx14, ly14, lx24, ly24]; omega

end Go.Proofs.YtbcmfenekpllhaaDoor
