/-
  Says: what limited and slope give.
-/
import Derived.Test.YtppjogagimflpaaGreatDoorFnB
set_option linter.unusedVariables false
set_option linter.unusedSimpArgs false
namespace Go.Proofs.YtppjogagimflpaaGreatDoor
open Go Go.RowKit

set_option maxHeartbeats 400000 in
theorem limited_ok (k c : Int) (w : World) (h3 : -4096 ≤ c) (h4 : c ≤ 4096) :
    Calls Tryz.prog 60 #[ln k c] w fun e w' => e = .returned (.tuple #[ln k c, .int .i64 0]) ∧ Below w.heap.size w w' := by
  go_enter Tryz.func60, Tryz.ntmps60
  go_wp2
  exact bodyPost_ret (v := .tuple #[ln k c, .int .i64 0]) (by simp [results, Tryz.results60, go_sem]) rfl ⟨rfl, by repeat first | exact Below.refl _ _ | exact below_alloc (Below.refl _ _) _ | refine below_alloc ?_ _ | refine below_set ?_ (by simp; try omega) _⟩
set_option maxHeartbeats 400000 in
theorem limited_bad (k c : Int) (w : World) (h : c < -4096 ∨ 4096 < c) :
    Calls Tryz.prog 60 #[ln k c] w fun e w' => e = .returned (.tuple #[ln 0 0, .int .i64 3]) ∧ Below w.heap.size w w' := by
  by_cases h1 : -4096 ≤ c
  · have h2 : ¬ c ≤ 4096 := by omega
    clear h
    go_enter Tryz.func60, Tryz.ntmps60
    go_wp2
    exact bodyPost_ret (v := .tuple #[ln 0 0, .int .i64 3]) (by simp [results, Tryz.results60, go_sem]) rfl ⟨rfl, by repeat first | exact Below.refl _ _ | exact below_alloc (Below.refl _ _) _ | refine below_alloc ?_ _ | refine below_set ?_ (by simp; try omega) _⟩
  · clear h
    go_enter Tryz.func60, Tryz.ntmps60
    go_wp2
    exact bodyPost_ret (v := .tuple #[ln 0 0, .int .i64 3]) (by simp [results, Tryz.results60, go_sem]) rfl ⟨rfl, by repeat first | exact Below.refl _ _ | exact below_alloc (Below.refl _ _) _ | refine below_alloc ?_ _ | refine below_set ?_ (by simp; try omega) _⟩

set_option maxRecDepth 100000 in
set_option maxHeartbeats 400000 in
theorem slope_1 (w : World) : Calls Tryz.prog 64 #[.int .u8 1] w fun e w' => e = .returned (pt (1) (0)) ∧ Below w.heap.size w w' := by
  go_enter Tryz.func64, Tryz.ntmps64
  go_wp2_with (first | (go_at_call 59; refine (way_1 _).mono ?_; rintro e w1 ⟨rfl, hb1⟩; obtain ⟨u1, rfl⟩ := after hb1; clear hb1) | (go_at_call 65; refine (value_1 1 0 _ (by omega) (by omega) (by omega) (by omega)).mono ?_; rintro e w2 ⟨rfl, hb2⟩; obtain ⟨u2, rfl⟩ := after hb2; clear hb2) | (go_at_call 65; refine (value_1 0 1 _ (by omega) (by omega) (by omega) (by omega)).mono ?_; rintro e w3 ⟨rfl, hb3⟩; obtain ⟨u3, rfl⟩ := after hb3; clear hb3) | fail)
  exact bodyPost_ret (v := pt (1) (0)) (by simp [results, Tryz.results64, go_sem]) rfl ⟨rfl, below_set (below_set (below_on (below_on (below_on (below_alloc (Below.refl _ _) _) u1) u2) u3) (by simp) _) (by simp) _⟩

set_option maxRecDepth 100000 in
set_option maxHeartbeats 400000 in
theorem slope_2 (w : World) : Calls Tryz.prog 64 #[.int .u8 2] w fun e w' => e = .returned (pt (0) (1)) ∧ Below w.heap.size w w' := by
  go_enter Tryz.func64, Tryz.ntmps64
  go_wp2_with (first | (go_at_call 59; refine (way_2 _).mono ?_; rintro e w1 ⟨rfl, hb1⟩; obtain ⟨u1, rfl⟩ := after hb1; clear hb1) | (go_at_call 68; refine (value_2 1 0 _ (by omega) (by omega) (by omega) (by omega)).mono ?_; rintro e w2 ⟨rfl, hb2⟩; obtain ⟨u2, rfl⟩ := after hb2; clear hb2) | (go_at_call 68; refine (value_2 0 1 _ (by omega) (by omega) (by omega) (by omega)).mono ?_; rintro e w3 ⟨rfl, hb3⟩; obtain ⟨u3, rfl⟩ := after hb3; clear hb3) | fail)
  exact bodyPost_ret (v := pt (0) (1)) (by simp [results, Tryz.results64, go_sem]) rfl ⟨rfl, below_set (below_set (below_on (below_on (below_on (below_alloc (Below.refl _ _) _) u1) u2) u3) (by simp) _) (by simp) _⟩

set_option maxRecDepth 100000 in
set_option maxHeartbeats 400000 in
theorem slope_3 (w : World) : Calls Tryz.prog 64 #[.int .u8 3] w fun e w' => e = .returned (pt (1) (1)) ∧ Below w.heap.size w w' := by
  go_enter Tryz.func64, Tryz.ntmps64
  go_wp2_with (first | (go_at_call 59; refine (way_3 _).mono ?_; rintro e w1 ⟨rfl, hb1⟩; obtain ⟨u1, rfl⟩ := after hb1; clear hb1) | (go_at_call 71; refine (value_3 1 0 _ (by omega) (by omega) (by omega) (by omega)).mono ?_; rintro e w2 ⟨rfl, hb2⟩; obtain ⟨u2, rfl⟩ := after hb2; clear hb2) | (go_at_call 71; refine (value_3 0 1 _ (by omega) (by omega) (by omega) (by omega)).mono ?_; rintro e w3 ⟨rfl, hb3⟩; obtain ⟨u3, rfl⟩ := after hb3; clear hb3) | fail)
  exact bodyPost_ret (v := pt (1) (1)) (by simp [results, Tryz.results64, go_sem]) rfl ⟨rfl, below_set (below_set (below_on (below_on (below_on (below_alloc (Below.refl _ _) _) u1) u2) u3) (by simp) _) (by simp) _⟩

set_option maxRecDepth 100000 in
set_option maxHeartbeats 400000 in
theorem slope_4 (w : World) : Calls Tryz.prog 64 #[.int .u8 4] w fun e w' => e = .returned (pt (-1) (1)) ∧ Below w.heap.size w w' := by
  go_enter Tryz.func64, Tryz.ntmps64
  go_wp2_with (first | (go_at_call 59; refine (way_4 _).mono ?_; rintro e w1 ⟨rfl, hb1⟩; obtain ⟨u1, rfl⟩ := after hb1; clear hb1) | (go_at_call 74; refine (value_4 1 0 _ (by omega) (by omega) (by omega) (by omega)).mono ?_; rintro e w2 ⟨rfl, hb2⟩; obtain ⟨u2, rfl⟩ := after hb2; clear hb2) | (go_at_call 74; refine (value_4 0 1 _ (by omega) (by omega) (by omega) (by omega)).mono ?_; rintro e w3 ⟨rfl, hb3⟩; obtain ⟨u3, rfl⟩ := after hb3; clear hb3) | fail)
  exact bodyPost_ret (v := pt (-1) (1)) (by simp [results, Tryz.results64, go_sem]) rfl ⟨rfl, below_set (below_set (below_on (below_on (below_on (below_alloc (Below.refl _ _) _) u1) u2) u3) (by simp) _) (by simp) _⟩

end Go.Proofs.YtppjogagimflpaaGreatDoor
