/-
  Says: which part of what wayOf gives each of its fields is.
-/
import Derived.Test.YtbnjbecmllmehaaDoorWay
namespace Go.Proofs.YtbnjbecmllmehaaDoor
open Go Go.RowKit

@[go_sem] theorem way_field10 : ∀ w, (Instr.field 66 (.agg #[.int .i32 120, .func (.func 39) #[] #[], .func (.func 40) #[] #[], .func (.func 41) #[] #[], .int .u8 0, .int .u8 1, .int .u8 2, .int .u8 4, .int .u8 3]) 0).run Tryd.prog w = .ok (.int .i32 120) w := fun _ => by kernel_rfl
@[go_sem] theorem way_field11 : ∀ w, (Instr.field 66 (.agg #[.int .i32 120, .func (.func 39) #[] #[], .func (.func 40) #[] #[], .func (.func 41) #[] #[], .int .u8 0, .int .u8 1, .int .u8 2, .int .u8 4, .int .u8 3]) 1).run Tryd.prog w = .ok (.func (.func 39) #[] #[]) w := fun _ => by kernel_rfl
@[go_sem] theorem way_field12 : ∀ w, (Instr.field 66 (.agg #[.int .i32 120, .func (.func 39) #[] #[], .func (.func 40) #[] #[], .func (.func 41) #[] #[], .int .u8 0, .int .u8 1, .int .u8 2, .int .u8 4, .int .u8 3]) 2).run Tryd.prog w = .ok (.func (.func 40) #[] #[]) w := fun _ => by kernel_rfl
@[go_sem] theorem way_field13 : ∀ w, (Instr.field 66 (.agg #[.int .i32 120, .func (.func 39) #[] #[], .func (.func 40) #[] #[], .func (.func 41) #[] #[], .int .u8 0, .int .u8 1, .int .u8 2, .int .u8 4, .int .u8 3]) 3).run Tryd.prog w = .ok (.func (.func 41) #[] #[]) w := fun _ => by kernel_rfl
@[go_sem] theorem way_field20 : ∀ w, (Instr.field 66 (.agg #[.int .i32 121, .func (.func 42) #[] #[], .func (.func 43) #[] #[], .func (.func 44) #[] #[], .int .u8 0, .int .u8 1, .int .u8 2, .int .u8 4, .int .u8 3]) 0).run Tryd.prog w = .ok (.int .i32 121) w := fun _ => by kernel_rfl
@[go_sem] theorem way_field21 : ∀ w, (Instr.field 66 (.agg #[.int .i32 121, .func (.func 42) #[] #[], .func (.func 43) #[] #[], .func (.func 44) #[] #[], .int .u8 0, .int .u8 1, .int .u8 2, .int .u8 4, .int .u8 3]) 1).run Tryd.prog w = .ok (.func (.func 42) #[] #[]) w := fun _ => by kernel_rfl
@[go_sem] theorem way_field22 : ∀ w, (Instr.field 66 (.agg #[.int .i32 121, .func (.func 42) #[] #[], .func (.func 43) #[] #[], .func (.func 44) #[] #[], .int .u8 0, .int .u8 1, .int .u8 2, .int .u8 4, .int .u8 3]) 2).run Tryd.prog w = .ok (.func (.func 43) #[] #[]) w := fun _ => by kernel_rfl
@[go_sem] theorem way_field23 : ∀ w, (Instr.field 66 (.agg #[.int .i32 121, .func (.func 42) #[] #[], .func (.func 43) #[] #[], .func (.func 44) #[] #[], .int .u8 0, .int .u8 1, .int .u8 2, .int .u8 4, .int .u8 3]) 3).run Tryd.prog w = .ok (.func (.func 44) #[] #[]) w := fun _ => by kernel_rfl
@[go_sem] theorem way_field30 : ∀ w, (Instr.field 66 (.agg #[.int .i32 117, .func (.func 45) #[] #[], .func (.func 46) #[] #[], .func (.func 47) #[] #[], .int .u8 0, .int .u8 2, .int .u8 1, .int .u8 3, .int .u8 4]) 0).run Tryd.prog w = .ok (.int .i32 117) w := fun _ => by kernel_rfl
@[go_sem] theorem way_field31 : ∀ w, (Instr.field 66 (.agg #[.int .i32 117, .func (.func 45) #[] #[], .func (.func 46) #[] #[], .func (.func 47) #[] #[], .int .u8 0, .int .u8 2, .int .u8 1, .int .u8 3, .int .u8 4]) 1).run Tryd.prog w = .ok (.func (.func 45) #[] #[]) w := fun _ => by kernel_rfl
@[go_sem] theorem way_field32 : ∀ w, (Instr.field 66 (.agg #[.int .i32 117, .func (.func 45) #[] #[], .func (.func 46) #[] #[], .func (.func 47) #[] #[], .int .u8 0, .int .u8 2, .int .u8 1, .int .u8 3, .int .u8 4]) 2).run Tryd.prog w = .ok (.func (.func 46) #[] #[]) w := fun _ => by kernel_rfl
@[go_sem] theorem way_field33 : ∀ w, (Instr.field 66 (.agg #[.int .i32 117, .func (.func 45) #[] #[], .func (.func 46) #[] #[], .func (.func 47) #[] #[], .int .u8 0, .int .u8 2, .int .u8 1, .int .u8 3, .int .u8 4]) 3).run Tryd.prog w = .ok (.func (.func 47) #[] #[]) w := fun _ => by kernel_rfl
@[go_sem] theorem way_field40 : ∀ w, (Instr.field 66 (.agg #[.int .i32 100, .func (.func 48) #[] #[], .func (.func 49) #[] #[], .func (.func 50) #[] #[], .int .u8 0, .int .u8 2, .int .u8 1, .int .u8 3, .int .u8 4]) 0).run Tryd.prog w = .ok (.int .i32 100) w := fun _ => by kernel_rfl
@[go_sem] theorem way_field41 : ∀ w, (Instr.field 66 (.agg #[.int .i32 100, .func (.func 48) #[] #[], .func (.func 49) #[] #[], .func (.func 50) #[] #[], .int .u8 0, .int .u8 2, .int .u8 1, .int .u8 3, .int .u8 4]) 1).run Tryd.prog w = .ok (.func (.func 48) #[] #[]) w := fun _ => by kernel_rfl
@[go_sem] theorem way_field42 : ∀ w, (Instr.field 66 (.agg #[.int .i32 100, .func (.func 48) #[] #[], .func (.func 49) #[] #[], .func (.func 50) #[] #[], .int .u8 0, .int .u8 2, .int .u8 1, .int .u8 3, .int .u8 4]) 2).run Tryd.prog w = .ok (.func (.func 49) #[] #[]) w := fun _ => by kernel_rfl
@[go_sem] theorem way_field43 : ∀ w, (Instr.field 66 (.agg #[.int .i32 100, .func (.func 48) #[] #[], .func (.func 49) #[] #[], .func (.func 50) #[] #[], .int .u8 0, .int .u8 2, .int .u8 1, .int .u8 3, .int .u8 4]) 3).run Tryd.prog w = .ok (.func (.func 50) #[] #[]) w := fun _ => by kernel_rfl

end Go.Proofs.YtbnjbecmllmehaaDoor
