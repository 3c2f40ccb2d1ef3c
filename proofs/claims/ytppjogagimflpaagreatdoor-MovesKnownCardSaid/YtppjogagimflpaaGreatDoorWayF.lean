/-
  Says: which part of what wayOf gives each of its fields is.
-/
import Derived.Test.YtppjogagimflpaaGreatDoorWay
namespace Go.Proofs.YtppjogagimflpaaGreatDoor
open Go Go.RowKit

@[go_sem] theorem way_field10 : ∀ w, (Instr.field 102 (.agg #[.int .i32 120, .func (.func 65) #[] #[], .func (.func 66) #[] #[], .func (.func 67) #[] #[], .int .u8 0, .int .u8 1, .int .u8 2, .int .u8 4, .int .u8 3]) 0).run Tryz.prog w = .ok (.int .i32 120) w := fun _ => by kernel_rfl
@[go_sem] theorem way_field11 : ∀ w, (Instr.field 102 (.agg #[.int .i32 120, .func (.func 65) #[] #[], .func (.func 66) #[] #[], .func (.func 67) #[] #[], .int .u8 0, .int .u8 1, .int .u8 2, .int .u8 4, .int .u8 3]) 1).run Tryz.prog w = .ok (.func (.func 65) #[] #[]) w := fun _ => by kernel_rfl
@[go_sem] theorem way_field12 : ∀ w, (Instr.field 102 (.agg #[.int .i32 120, .func (.func 65) #[] #[], .func (.func 66) #[] #[], .func (.func 67) #[] #[], .int .u8 0, .int .u8 1, .int .u8 2, .int .u8 4, .int .u8 3]) 2).run Tryz.prog w = .ok (.func (.func 66) #[] #[]) w := fun _ => by kernel_rfl
@[go_sem] theorem way_field13 : ∀ w, (Instr.field 102 (.agg #[.int .i32 120, .func (.func 65) #[] #[], .func (.func 66) #[] #[], .func (.func 67) #[] #[], .int .u8 0, .int .u8 1, .int .u8 2, .int .u8 4, .int .u8 3]) 3).run Tryz.prog w = .ok (.func (.func 67) #[] #[]) w := fun _ => by kernel_rfl
@[go_sem] theorem way_field20 : ∀ w, (Instr.field 102 (.agg #[.int .i32 121, .func (.func 68) #[] #[], .func (.func 69) #[] #[], .func (.func 70) #[] #[], .int .u8 0, .int .u8 1, .int .u8 2, .int .u8 4, .int .u8 3]) 0).run Tryz.prog w = .ok (.int .i32 121) w := fun _ => by kernel_rfl
@[go_sem] theorem way_field21 : ∀ w, (Instr.field 102 (.agg #[.int .i32 121, .func (.func 68) #[] #[], .func (.func 69) #[] #[], .func (.func 70) #[] #[], .int .u8 0, .int .u8 1, .int .u8 2, .int .u8 4, .int .u8 3]) 1).run Tryz.prog w = .ok (.func (.func 68) #[] #[]) w := fun _ => by kernel_rfl
@[go_sem] theorem way_field22 : ∀ w, (Instr.field 102 (.agg #[.int .i32 121, .func (.func 68) #[] #[], .func (.func 69) #[] #[], .func (.func 70) #[] #[], .int .u8 0, .int .u8 1, .int .u8 2, .int .u8 4, .int .u8 3]) 2).run Tryz.prog w = .ok (.func (.func 69) #[] #[]) w := fun _ => by kernel_rfl
@[go_sem] theorem way_field23 : ∀ w, (Instr.field 102 (.agg #[.int .i32 121, .func (.func 68) #[] #[], .func (.func 69) #[] #[], .func (.func 70) #[] #[], .int .u8 0, .int .u8 1, .int .u8 2, .int .u8 4, .int .u8 3]) 3).run Tryz.prog w = .ok (.func (.func 70) #[] #[]) w := fun _ => by kernel_rfl
@[go_sem] theorem way_field30 : ∀ w, (Instr.field 102 (.agg #[.int .i32 117, .func (.func 71) #[] #[], .func (.func 72) #[] #[], .func (.func 73) #[] #[], .int .u8 0, .int .u8 2, .int .u8 1, .int .u8 3, .int .u8 4]) 0).run Tryz.prog w = .ok (.int .i32 117) w := fun _ => by kernel_rfl
@[go_sem] theorem way_field31 : ∀ w, (Instr.field 102 (.agg #[.int .i32 117, .func (.func 71) #[] #[], .func (.func 72) #[] #[], .func (.func 73) #[] #[], .int .u8 0, .int .u8 2, .int .u8 1, .int .u8 3, .int .u8 4]) 1).run Tryz.prog w = .ok (.func (.func 71) #[] #[]) w := fun _ => by kernel_rfl
@[go_sem] theorem way_field32 : ∀ w, (Instr.field 102 (.agg #[.int .i32 117, .func (.func 71) #[] #[], .func (.func 72) #[] #[], .func (.func 73) #[] #[], .int .u8 0, .int .u8 2, .int .u8 1, .int .u8 3, .int .u8 4]) 2).run Tryz.prog w = .ok (.func (.func 72) #[] #[]) w := fun _ => by kernel_rfl
@[go_sem] theorem way_field33 : ∀ w, (Instr.field 102 (.agg #[.int .i32 117, .func (.func 71) #[] #[], .func (.func 72) #[] #[], .func (.func 73) #[] #[], .int .u8 0, .int .u8 2, .int .u8 1, .int .u8 3, .int .u8 4]) 3).run Tryz.prog w = .ok (.func (.func 73) #[] #[]) w := fun _ => by kernel_rfl
@[go_sem] theorem way_field40 : ∀ w, (Instr.field 102 (.agg #[.int .i32 100, .func (.func 74) #[] #[], .func (.func 75) #[] #[], .func (.func 76) #[] #[], .int .u8 0, .int .u8 2, .int .u8 1, .int .u8 3, .int .u8 4]) 0).run Tryz.prog w = .ok (.int .i32 100) w := fun _ => by kernel_rfl
@[go_sem] theorem way_field41 : ∀ w, (Instr.field 102 (.agg #[.int .i32 100, .func (.func 74) #[] #[], .func (.func 75) #[] #[], .func (.func 76) #[] #[], .int .u8 0, .int .u8 2, .int .u8 1, .int .u8 3, .int .u8 4]) 1).run Tryz.prog w = .ok (.func (.func 74) #[] #[]) w := fun _ => by kernel_rfl
@[go_sem] theorem way_field42 : ∀ w, (Instr.field 102 (.agg #[.int .i32 100, .func (.func 74) #[] #[], .func (.func 75) #[] #[], .func (.func 76) #[] #[], .int .u8 0, .int .u8 2, .int .u8 1, .int .u8 3, .int .u8 4]) 2).run Tryz.prog w = .ok (.func (.func 75) #[] #[]) w := fun _ => by kernel_rfl
@[go_sem] theorem way_field43 : ∀ w, (Instr.field 102 (.agg #[.int .i32 100, .func (.func 74) #[] #[], .func (.func 75) #[] #[], .func (.func 76) #[] #[], .int .u8 0, .int .u8 2, .int .u8 1, .int .u8 3, .int .u8 4]) 3).run Tryz.prog w = .ok (.func (.func 76) #[] #[]) w := fun _ => by kernel_rfl

end Go.Proofs.YtppjogagimflpaaGreatDoor
