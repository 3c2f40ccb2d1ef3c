/-
  Says: what wayOf gives for each of the four kinds, whatever the world: it makes memory, and changes none.
-/
import Derived.Test.YtkmmnlhmfiabfaaGreatDoorFnA
namespace Go.Proofs.YtkmmnlhmfiabfaaGreatDoor
open Go Go.RowKit

theorem way_at1 : ∀ w, (Instr.index 206 (.agg #[.int .i32 0, .nilFunc, .nilFunc, .nilFunc, .int .u8 0, .int .u8 0, .int .u8 0, .int .u8 0, .int .u8 0, .int .i32 120, .func (.func 121) #[] #[], .func (.func 122) #[] #[], .func (.func 123) #[] #[], .int .u8 0, .int .u8 1, .int .u8 2, .int .u8 4, .int .u8 3, .int .i32 121, .func (.func 124) #[] #[], .func (.func 125) #[] #[], .func (.func 126) #[] #[], .int .u8 0, .int .u8 1, .int .u8 2, .int .u8 4, .int .u8 3, .int .i32 117, .func (.func 127) #[] #[], .func (.func 128) #[] #[], .func (.func 129) #[] #[], .int .u8 0, .int .u8 2, .int .u8 1, .int .u8 3, .int .u8 4, .int .i32 100, .func (.func 130) #[] #[], .func (.func 131) #[] #[], .func (.func 132) #[] #[], .int .u8 0, .int .u8 2, .int .u8 1, .int .u8 3, .int .u8 4]) (.int .u8 1)).run Tryz.prog w = .ok (.agg #[.int .i32 120, .func (.func 121) #[] #[], .func (.func 122) #[] #[], .func (.func 123) #[] #[], .int .u8 0, .int .u8 1, .int .u8 2, .int .u8 4, .int .u8 3]) w := fun _ => by kernel_rfl
theorem way_at2 : ∀ w, (Instr.index 206 (.agg #[.int .i32 0, .nilFunc, .nilFunc, .nilFunc, .int .u8 0, .int .u8 0, .int .u8 0, .int .u8 0, .int .u8 0, .int .i32 120, .func (.func 121) #[] #[], .func (.func 122) #[] #[], .func (.func 123) #[] #[], .int .u8 0, .int .u8 1, .int .u8 2, .int .u8 4, .int .u8 3, .int .i32 121, .func (.func 124) #[] #[], .func (.func 125) #[] #[], .func (.func 126) #[] #[], .int .u8 0, .int .u8 1, .int .u8 2, .int .u8 4, .int .u8 3, .int .i32 117, .func (.func 127) #[] #[], .func (.func 128) #[] #[], .func (.func 129) #[] #[], .int .u8 0, .int .u8 2, .int .u8 1, .int .u8 3, .int .u8 4, .int .i32 100, .func (.func 130) #[] #[], .func (.func 131) #[] #[], .func (.func 132) #[] #[], .int .u8 0, .int .u8 2, .int .u8 1, .int .u8 3, .int .u8 4]) (.int .u8 2)).run Tryz.prog w = .ok (.agg #[.int .i32 121, .func (.func 124) #[] #[], .func (.func 125) #[] #[], .func (.func 126) #[] #[], .int .u8 0, .int .u8 1, .int .u8 2, .int .u8 4, .int .u8 3]) w := fun _ => by kernel_rfl
theorem way_at3 : ∀ w, (Instr.index 206 (.agg #[.int .i32 0, .nilFunc, .nilFunc, .nilFunc, .int .u8 0, .int .u8 0, .int .u8 0, .int .u8 0, .int .u8 0, .int .i32 120, .func (.func 121) #[] #[], .func (.func 122) #[] #[], .func (.func 123) #[] #[], .int .u8 0, .int .u8 1, .int .u8 2, .int .u8 4, .int .u8 3, .int .i32 121, .func (.func 124) #[] #[], .func (.func 125) #[] #[], .func (.func 126) #[] #[], .int .u8 0, .int .u8 1, .int .u8 2, .int .u8 4, .int .u8 3, .int .i32 117, .func (.func 127) #[] #[], .func (.func 128) #[] #[], .func (.func 129) #[] #[], .int .u8 0, .int .u8 2, .int .u8 1, .int .u8 3, .int .u8 4, .int .i32 100, .func (.func 130) #[] #[], .func (.func 131) #[] #[], .func (.func 132) #[] #[], .int .u8 0, .int .u8 2, .int .u8 1, .int .u8 3, .int .u8 4]) (.int .u8 3)).run Tryz.prog w = .ok (.agg #[.int .i32 117, .func (.func 127) #[] #[], .func (.func 128) #[] #[], .func (.func 129) #[] #[], .int .u8 0, .int .u8 2, .int .u8 1, .int .u8 3, .int .u8 4]) w := fun _ => by kernel_rfl
theorem way_at4 : ∀ w, (Instr.index 206 (.agg #[.int .i32 0, .nilFunc, .nilFunc, .nilFunc, .int .u8 0, .int .u8 0, .int .u8 0, .int .u8 0, .int .u8 0, .int .i32 120, .func (.func 121) #[] #[], .func (.func 122) #[] #[], .func (.func 123) #[] #[], .int .u8 0, .int .u8 1, .int .u8 2, .int .u8 4, .int .u8 3, .int .i32 121, .func (.func 124) #[] #[], .func (.func 125) #[] #[], .func (.func 126) #[] #[], .int .u8 0, .int .u8 1, .int .u8 2, .int .u8 4, .int .u8 3, .int .i32 117, .func (.func 127) #[] #[], .func (.func 128) #[] #[], .func (.func 129) #[] #[], .int .u8 0, .int .u8 2, .int .u8 1, .int .u8 3, .int .u8 4, .int .i32 100, .func (.func 130) #[] #[], .func (.func 131) #[] #[], .func (.func 132) #[] #[], .int .u8 0, .int .u8 2, .int .u8 1, .int .u8 3, .int .u8 4]) (.int .u8 4)).run Tryz.prog w = .ok (.agg #[.int .i32 100, .func (.func 130) #[] #[], .func (.func 131) #[] #[], .func (.func 132) #[] #[], .int .u8 0, .int .u8 2, .int .u8 1, .int .u8 3, .int .u8 4]) w := fun _ => by kernel_rfl

theorem way_1 (w : World) : Calls Tryz.prog 81 #[.int .u8 1] w fun e w' => e = .returned (.agg #[.int .i32 120, .func (.func 121) #[] #[], .func (.func 122) #[] #[], .func (.func 123) #[] #[], .int .u8 0, .int .u8 1, .int .u8 2, .int .u8 4, .int .u8 3]) ∧ Below w.heap.size w w' := by
  have hx := way_at1
  go_enter Tryz.func81, Tryz.ntmps81
  go_wp2
  exact bodyPost_ret (v := .agg #[.int .i32 120, .func (.func 121) #[] #[], .func (.func 122) #[] #[], .func (.func 123) #[] #[], .int .u8 0, .int .u8 1, .int .u8 2, .int .u8 4, .int .u8 3]) (by simp [results, Tryz.results81, go_sem]) rfl ⟨rfl, (((Below.refl _ _).alloc (Nat.le_refl _) _).alloc (by simp) _).alloc (by simp; omega) _⟩

theorem way_2 (w : World) : Calls Tryz.prog 81 #[.int .u8 2] w fun e w' => e = .returned (.agg #[.int .i32 121, .func (.func 124) #[] #[], .func (.func 125) #[] #[], .func (.func 126) #[] #[], .int .u8 0, .int .u8 1, .int .u8 2, .int .u8 4, .int .u8 3]) ∧ Below w.heap.size w w' := by
  have hx := way_at2
  go_enter Tryz.func81, Tryz.ntmps81
  go_wp2
  exact bodyPost_ret (v := .agg #[.int .i32 121, .func (.func 124) #[] #[], .func (.func 125) #[] #[], .func (.func 126) #[] #[], .int .u8 0, .int .u8 1, .int .u8 2, .int .u8 4, .int .u8 3]) (by simp [results, Tryz.results81, go_sem]) rfl ⟨rfl, (((Below.refl _ _).alloc (Nat.le_refl _) _).alloc (by simp) _).alloc (by simp; omega) _⟩

theorem way_3 (w : World) : Calls Tryz.prog 81 #[.int .u8 3] w fun e w' => e = .returned (.agg #[.int .i32 117, .func (.func 127) #[] #[], .func (.func 128) #[] #[], .func (.func 129) #[] #[], .int .u8 0, .int .u8 2, .int .u8 1, .int .u8 3, .int .u8 4]) ∧ Below w.heap.size w w' := by
  have hx := way_at3
  go_enter Tryz.func81, Tryz.ntmps81
  go_wp2
  exact bodyPost_ret (v := .agg #[.int .i32 117, .func (.func 127) #[] #[], .func (.func 128) #[] #[], .func (.func 129) #[] #[], .int .u8 0, .int .u8 2, .int .u8 1, .int .u8 3, .int .u8 4]) (by simp [results, Tryz.results81, go_sem]) rfl ⟨rfl, (((Below.refl _ _).alloc (Nat.le_refl _) _).alloc (by simp) _).alloc (by simp; omega) _⟩

theorem way_4 (w : World) : Calls Tryz.prog 81 #[.int .u8 4] w fun e w' => e = .returned (.agg #[.int .i32 100, .func (.func 130) #[] #[], .func (.func 131) #[] #[], .func (.func 132) #[] #[], .int .u8 0, .int .u8 2, .int .u8 1, .int .u8 3, .int .u8 4]) ∧ Below w.heap.size w w' := by
  have hx := way_at4
  go_enter Tryz.func81, Tryz.ntmps81
  go_wp2
  exact bodyPost_ret (v := .agg #[.int .i32 100, .func (.func 130) #[] #[], .func (.func 131) #[] #[], .func (.func 132) #[] #[], .int .u8 0, .int .u8 2, .int .u8 1, .int .u8 3, .int .u8 4]) (by simp [results, Tryz.results81, go_sem]) rfl ⟨rfl, (((Below.refl _ _).alloc (Nat.le_refl _) _).alloc (by simp) _).alloc (by simp; omega) _⟩

end Go.Proofs.YtkmmnlhmfiabfaaGreatDoor
