/-
  Says: isUnit at all sheets of at most 5 by 5.
-/
import Derived.Test.YtbghfcllicfnpaaGreatDoorCu0
import Derived.Test.YtbghfcllicfnpaaGreatDoorCu1
import Derived.Test.YtbghfcllicfnpaaGreatDoorCu2
import Derived.KernelRfl
set_option maxRecDepth 1000000
set_option linter.unusedVariables false
set_option linter.unusedSimpArgs false
namespace Go.Proofs.YtbghfcllicfnpaaGreatDoor
open Go Go.Vx
attribute [local instance] anyKeeps
theorem isUnit_any (t : Nat → TypeId) {w h : Nat} (h1 : 1 ≤ w) (h2 : w ≤ 5) (h3 : 1 ≤ h) (h4 : h ≤ 5) (c e : Int) (h_e : 0 ≤ e ∧ e ≤ 255) : Known Tryz.prog (tabG t) 61 [va [vi w, vi h], .agg ⟨[.int .i64 c, .int .u8 e]⟩] (.bool (isUB w h c e)) := by
  have hw : w = 1 ∨ w = 2 ∨ w = 3 ∨ w = 4 ∨ w = 5 := by omega
  have hh : h = 1 ∨ h = 2 ∨ h = 3 ∨ h = 4 ∨ h = 5 := by omega
  rcases hw with rfl | rfl | rfl | rfl | rfl
  · rcases hh with rfl | rfl | rfl | rfl | rfl
    · exact iu_1_1 t c e h_e
    · exact iu_1_2 t c e h_e
    · exact iu_1_3 t c e h_e
    · exact iu_1_4 t c e h_e
    · exact iu_1_5 t c e h_e
  · rcases hh with rfl | rfl | rfl | rfl | rfl
    · exact iu_2_1 t c e h_e
    · exact iu_2_2 t c e h_e
    · exact iu_2_3 t c e h_e
    · exact iu_2_4 t c e h_e
    · exact iu_2_5 t c e h_e
  · rcases hh with rfl | rfl | rfl | rfl | rfl
    · exact iu_3_1 t c e h_e
    · exact iu_3_2 t c e h_e
    · exact iu_3_3 t c e h_e
    · exact iu_3_4 t c e h_e
    · exact iu_3_5 t c e h_e
  · rcases hh with rfl | rfl | rfl | rfl | rfl
    · exact iu_4_1 t c e h_e
    · exact iu_4_2 t c e h_e
    · exact iu_4_3 t c e h_e
    · exact iu_4_4 t c e h_e
    · exact iu_4_5 t c e h_e
  · rcases hh with rfl | rfl | rfl | rfl | rfl
    · exact iu_5_1 t c e h_e
    · exact iu_5_2 t c e h_e
    · exact iu_5_3 t c e h_e
    · exact iu_5_4 t c e h_e
    · exact iu_5_5 t c e h_e

end Go.Proofs.YtbghfcllicfnpaaGreatDoor
