/-
  Says: which part of what wayOf gives each of its fields is.
-/
import Derived.Test.YtkmmnlhmfiabfaaGreatDoorWay
namespace Go.Proofs.YtkmmnlhmfiabfaaGreatDoor
open Go Go.RowKit

@[go_sem] theorem way_field10 : ∀ w, (Instr.field 163 (.agg #[.int .i32 120, .func (.func 121) #[] #[], .func (.func 122) #[] #[], .func (.func 123) #[] #[], .int .u8 0, .int .u8 1, .int .u8 2, .int .u8 4, .int .u8 3]) 0).run Tryz.prog w = .ok (.int .i32 120) w := fun _ => by kernel_rfl
@[go_sem] theorem way_field11 : ∀ w, (Instr.field 163 (.agg #[.int .i32 120, .func (.func 121) #[] #[], .func (.func 122) #[] #[], .func (.func 123) #[] #[], .int .u8 0, .int .u8 1, .int .u8 2, .int .u8 4, .int .u8 3]) 1).run Tryz.prog w = .ok (.func (.func 121) #[] #[]) w := fun _ => by kernel_rfl
@[go_sem] theorem way_field12 : ∀ w, (Instr.field 163 (.agg #[.int .i32 120, .func (.func 121) #[] #[], .func (.func 122) #[] #[], .func (.func 123) #[] #[], .int .u8 0, .int .u8 1, .int .u8 2, .int .u8 4, .int .u8 3]) 2).run Tryz.prog w = .ok (.func (.func 122) #[] #[]) w := fun _ => by kernel_rfl
@[go_sem] theorem way_field13 : ∀ w, (Instr.field 163 (.agg #[.int .i32 120, .func (.func 121) #[] #[], .func (.func 122) #[] #[], .func (.func 123) #[] #[], .int .u8 0, .int .u8 1, .int .u8 2, .int .u8 4, .int .u8 3]) 3).run Tryz.prog w = .ok (.func (.func 123) #[] #[]) w := fun _ => by kernel_rfl
@[go_sem] theorem way_field20 : ∀ w, (Instr.field 163 (.agg #[.int .i32 121, .func (.func 124) #[] #[], .func (.func 125) #[] #[], .func (.func 126) #[] #[], .int .u8 0, .int .u8 1, .int .u8 2, .int .u8 4, .int .u8 3]) 0).run Tryz.prog w = .ok (.int .i32 121) w := fun _ => by kernel_rfl
@[go_sem] theorem way_field21 : ∀ w, (Instr.field 163 (.agg #[.int .i32 121, .func (.func 124) #[] #[], .func (.func 125) #[] #[], .func (.func 126) #[] #[], .int .u8 0, .int .u8 1, .int .u8 2, .int .u8 4, .int .u8 3]) 1).run Tryz.prog w = .ok (.func (.func 124) #[] #[]) w := fun _ => by kernel_rfl
@[go_sem] theorem way_field22 : ∀ w, (Instr.field 163 (.agg #[.int .i32 121, .func (.func 124) #[] #[], .func (.func 125) #[] #[], .func (.func 126) #[] #[], .int .u8 0, .int .u8 1, .int .u8 2, .int .u8 4, .int .u8 3]) 2).run Tryz.prog w = .ok (.func (.func 125) #[] #[]) w := fun _ => by kernel_rfl
@[go_sem] theorem way_field23 : ∀ w, (Instr.field 163 (.agg #[.int .i32 121, .func (.func 124) #[] #[], .func (.func 125) #[] #[], .func (.func 126) #[] #[], .int .u8 0, .int .u8 1, .int .u8 2, .int .u8 4, .int .u8 3]) 3).run Tryz.prog w = .ok (.func (.func 126) #[] #[]) w := fun _ => by kernel_rfl
@[go_sem] theorem way_field30 : ∀ w, (Instr.field 163 (.agg #[.int .i32 117, .func (.func 127) #[] #[], .func (.func 128) #[] #[], .func (.func 129) #[] #[], .int .u8 0, .int .u8 2, .int .u8 1, .int .u8 3, .int .u8 4]) 0).run Tryz.prog w = .ok (.int .i32 117) w := fun _ => by kernel_rfl
@[go_sem] theorem way_field31 : ∀ w, (Instr.field 163 (.agg #[.int .i32 117, .func (.func 127) #[] #[], .func (.func 128) #[] #[], .func (.func 129) #[] #[], .int .u8 0, .int .u8 2, .int .u8 1, .int .u8 3, .int .u8 4]) 1).run Tryz.prog w = .ok (.func (.func 127) #[] #[]) w := fun _ => by kernel_rfl
@[go_sem] theorem way_field32 : ∀ w, (Instr.field 163 (.agg #[.int .i32 117, .func (.func 127) #[] #[], .func (.func 128) #[] #[], .func (.func 129) #[] #[], .int .u8 0, .int .u8 2, .int .u8 1, .int .u8 3, .int .u8 4]) 2).run Tryz.prog w = .ok (.func (.func 128) #[] #[]) w := fun _ => by kernel_rfl
@[go_sem] theorem way_field33 : ∀ w, (Instr.field 163 (.agg #[.int .i32 117, .func (.func 127) #[] #[], .func (.func 128) #[] #[], .func (.func 129) #[] #[], .int .u8 0, .int .u8 2, .int .u8 1, .int .u8 3, .int .u8 4]) 3).run Tryz.prog w = .ok (.func (.func 129) #[] #[]) w := fun _ => by kernel_rfl
@[go_sem] theorem way_field40 : ∀ w, (Instr.field 163 (.agg #[.int .i32 100, .func (.func 130) #[] #[], .func (.func 131) #[] #[], .func (.func 132) #[] #[], .int .u8 0, .int .u8 2, .int .u8 1, .int .u8 3, .int .u8 4]) 0).run Tryz.prog w = .ok (.int .i32 100) w := fun _ => by kernel_rfl
@[go_sem] theorem way_field41 : ∀ w, (Instr.field 163 (.agg #[.int .i32 100, .func (.func 130) #[] #[], .func (.func 131) #[] #[], .func (.func 132) #[] #[], .int .u8 0, .int .u8 2, .int .u8 1, .int .u8 3, .int .u8 4]) 1).run Tryz.prog w = .ok (.func (.func 130) #[] #[]) w := fun _ => by kernel_rfl
@[go_sem] theorem way_field42 : ∀ w, (Instr.field 163 (.agg #[.int .i32 100, .func (.func 130) #[] #[], .func (.func 131) #[] #[], .func (.func 132) #[] #[], .int .u8 0, .int .u8 2, .int .u8 1, .int .u8 3, .int .u8 4]) 2).run Tryz.prog w = .ok (.func (.func 131) #[] #[]) w := fun _ => by kernel_rfl
@[go_sem] theorem way_field43 : ∀ w, (Instr.field 163 (.agg #[.int .i32 100, .func (.func 130) #[] #[], .func (.func 131) #[] #[], .func (.func 132) #[] #[], .int .u8 0, .int .u8 2, .int .u8 1, .int .u8 3, .int .u8 4]) 3).run Tryz.prog w = .ok (.func (.func 132) #[] #[]) w := fun _ => by kernel_rfl

end Go.Proofs.YtkmmnlhmfiabfaaGreatDoor
