/-
  Says: small facts on Through and on even numbers.
-/
import Derived.Test.YtbcmfenekpllhaaDoorLaw0
import Derived.Deep.RegionHeld3
set_option linter.unusedVariables false
set_option linter.unusedSimpArgs false
namespace Go.Proofs.YtbcmfenekpllhaaDoor
open Go Go.RowKit

theorem tm_even (n : Int) (h : n % 2 = 0) : n.tmod 2 = 0 := by
  obtain ⟨m, rfl⟩ : ∃ m, n = 2 * m := ⟨n / 2, by omega⟩
  exact Int.mul_tmod_right _ _
theorem tm_odd (n : Int) (h : n % 2 ≠ 0) : n.tmod 2 ≠ 0 := fun e => by
  have := Int.dvd_of_tmod_eq_zero e
  omega
theorem tm_odd1 (n : Int) (h : n % 2 ≠ 0) : (n.tmod 2 == 0) = false := by simpa using tm_odd n h
theorem tm_odd2 (n : Int) (h : n % 2 ≠ 0) : (n.tmod 2 != 0) = true := by simpa using tm_odd n h
/-- A line goes through: its text aside, the error is no ErrNone. -/
def ThrE (w : World) (e : Ending) (w' : World) : Prop := ∃ a b r : Int, e = .returned (.tuple #[ln a b, .int .i64 r]) ∧ (r == 7) = false ∧ (r != 7) = true ∧ Below w.heap.size w w'
theorem far0_wide (k c x y : Int) (w : World) (a1 : 1 ≤ k) (a2 : k ≤ 4) (h5 : -65536 ≤ x) (h6 : x ≤ 65536) (h7 : -65536 ≤ y) (h8 : y ≤ 65536) (h3 : -4096 ≤ c) (h4 : c ≤ 4096) (he : val k x y = 2 * c) : Calls Tryd.prog 53 #[ln k c, pt x y] w fun e w' => e = .returned (.int .i64 0) ∧ Below w.heap.size w w' := by
  have := far_any k c x y w a1 a2 (by omega) (by omega) (by omega) (by omega) h3 h4
  rwa [show val k x y - 2 * c = 0 by omega] at this

theorem thr_even1 (x y : Int) (w : World) (h5 : -65536 ≤ x) (h6 : x ≤ 65536) (h7 : -65536 ≤ y) (h8 : y ≤ 65536) (h : (x) % 2 = 0) : Calls Tryd.prog 51 #[.int .u8 1, pt x y] w (ThrE w) := by
  by_cases hr : -4096 ≤ (x) / 2 ∧ (x) / 2 ≤ 4096
  · exact (through_ok1 x y w h5 h6 h7 h8 ((x) / 2) (by omega) hr.1 hr.2).mono fun e w' ⟨he, hb⟩ => ⟨_, _, _, he, rfl, rfl, hb⟩
  · exact (through_far1 x y w h5 h6 h7 h8 ((x) / 2) (by omega) (by omega)).mono fun e w' ⟨he, hb⟩ => ⟨_, _, _, he, rfl, rfl, hb⟩

theorem thr_even2 (x y : Int) (w : World) (h5 : -65536 ≤ x) (h6 : x ≤ 65536) (h7 : -65536 ≤ y) (h8 : y ≤ 65536) (h : (y) % 2 = 0) : Calls Tryd.prog 51 #[.int .u8 2, pt x y] w (ThrE w) := by
  by_cases hr : -4096 ≤ (y) / 2 ∧ (y) / 2 ≤ 4096
  · exact (through_ok2 x y w h5 h6 h7 h8 ((y) / 2) (by omega) hr.1 hr.2).mono fun e w' ⟨he, hb⟩ => ⟨_, _, _, he, rfl, rfl, hb⟩
  · exact (through_far2 x y w h5 h6 h7 h8 ((y) / 2) (by omega) (by omega)).mono fun e w' ⟨he, hb⟩ => ⟨_, _, _, he, rfl, rfl, hb⟩

theorem thr_even3 (x y : Int) (w : World) (h5 : -65536 ≤ x) (h6 : x ≤ 65536) (h7 : -65536 ≤ y) (h8 : y ≤ 65536) (h : (x + y) % 2 = 0) : Calls Tryd.prog 51 #[.int .u8 3, pt x y] w (ThrE w) := by
  by_cases hr : -4096 ≤ (x + y) / 2 ∧ (x + y) / 2 ≤ 4096
  · exact (through_ok3 x y w h5 h6 h7 h8 ((x + y) / 2) (by omega) hr.1 hr.2).mono fun e w' ⟨he, hb⟩ => ⟨_, _, _, he, rfl, rfl, hb⟩
  · exact (through_far3 x y w h5 h6 h7 h8 ((x + y) / 2) (by omega) (by omega)).mono fun e w' ⟨he, hb⟩ => ⟨_, _, _, he, rfl, rfl, hb⟩

theorem thr_even4 (x y : Int) (w : World) (h5 : -65536 ≤ x) (h6 : x ≤ 65536) (h7 : -65536 ≤ y) (h8 : y ≤ 65536) (h : (y - x) % 2 = 0) : Calls Tryd.prog 51 #[.int .u8 4, pt x y] w (ThrE w) := by
  by_cases hr : -4096 ≤ (y - x) / 2 ∧ (y - x) / 2 ≤ 4096
  · exact (through_ok4 x y w h5 h6 h7 h8 ((y - x) / 2) (by omega) hr.1 hr.2).mono fun e w' ⟨he, hb⟩ => ⟨_, _, _, he, rfl, rfl, hb⟩
  · exact (through_far4 x y w h5 h6 h7 h8 ((y - x) / 2) (by omega) (by omega)).mono fun e w' ⟨he, hb⟩ => ⟨_, _, _, he, rfl, rfl, hb⟩

end Go.Proofs.YtbcmfenekpllhaaDoor
