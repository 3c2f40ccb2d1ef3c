/-
  Says: what calls answer, as the kernel runs them (level 0).
-/
import Derived.Test.YtkmmnlhmfiabfaaGreatDoorKr
import Derived.KernelRfl
set_option maxRecDepth 1000000
set_option linter.unusedVariables false
set_option linter.unusedSimpArgs false
namespace Go.Proofs.YtkmmnlhmfiabfaaGreatDoor
open Go Go.Vx
attribute [local instance] anySyms

noncomputable def d20 : List DeepE := [⟨45, [va [vi 4,vi 3,vr 0 0 30 9223372036854775808], va [vi 44,vu 2]], [r8], vu 0, []⟩, ⟨45, [va [vi 4,vi 3,vr 0 0 30 9223372036854775808], va [vi 45,vu 2]], [r8], vu 0, []⟩, ⟨45, [va [vi 4,vi 3,vr 0 0 30 9223372036854775808], va [vi 46,vu 1]], [r8], vu 0, []⟩, ⟨45, [va [vi 4,vi 3,vr 0 0 30 9223372036854775808], va [vi 4,vu 2]], [r8], vu 0, []⟩, ⟨45, [va [vi 4,vi 3,vr 0 0 30 9223372036854775808], va [vi 5,vu 0]], [r8], vu 0, []⟩, ⟨45, [va [vi 4,vi 3,vr 0 0 30 9223372036854775808], va [vi 5,vu 2]], [r8], vu 0, []⟩, ⟨45, [va [vi 4,vi 3,vr 0 0 30 9223372036854775808], va [vi 6,vu 0]], [r8], vu 0, []⟩, ⟨45, [va [vi 4,vi 3,vr 0 0 30 9223372036854775808], va [vi 6,vu 1]], [r8], vu 0, []⟩, ⟨62, [va [vi 5,vi 2]], [], vr 0 0 40 9223372036854775808, [r9]⟩, ⟨62, [va [vi 4,vi 3]], [], vr 0 0 48 9223372036854775808, [r10]⟩, ⟨62, [va [vi 3,vi 4]], [], vr 0 0 48 9223372036854775808, [r11]⟩, ⟨62, [va [vi 5,vi 3]], [], vr 0 0 60 9223372036854775808, [r12]⟩, ⟨62, [va [vi 4,vi 4]], [], vr 0 0 64 9223372036854775808, [r13]⟩, ⟨62, [va [vi 5,vi 4]], [], vr 0 0 80 9223372036854775808, [r14]⟩, ⟨62, [va [vi 5,vi 5]], [], vr 0 0 100 9223372036854775808, [r15]⟩, ⟨74, [vr 0 0 2 2], [r16], vn 0, []⟩, ⟨74, [vr 0 0 2 2], [r17], vn 0, []⟩, ⟨74, [vr 0 0 2 2], [r18], vn 0, []⟩, ⟨74, [vr 0 0 2 2], [r19], vn 0, []⟩, ⟨74, [vr 0 0 2 2], [r20], vn 0, []⟩, ⟨74, [vr 0 0 2 2], [r21], vn 0, []⟩]
theorem d20_run (t : Nat → TypeId) : allL (deepOk Tryz.prog (noOrc (tabG t)) (tabG t)) d20 = true := by kernel_rfl

noncomputable def d21 : List DeepE := [⟨74, [vr 0 0 2 2], [r22], vn 0, []⟩, ⟨74, [vr 0 0 2 2], [r23], vi 1, []⟩, ⟨74, [vr 0 0 2 2], [r24], vi 1, []⟩, ⟨74, [vr 0 0 2 2], [r25], vi 1, []⟩, ⟨74, [vr 0 0 2 2], [r26], vi 1, []⟩, ⟨74, [vr 0 0 2 2], [r27], vi 1, []⟩, ⟨74, [vr 0 0 2 2], [r28], vi 1, []⟩, ⟨175, [vr 0 0 29 9223372036854775808, vi 7, vi 14, vq 1 0, (vfn 48)], [r29, r30], vp [vi 7,vi 14], []⟩, ⟨175, [vr 0 0 30 9223372036854775808, vi 5, vi 10, vq 1 0, (vfn 48)], [r31, r30], vp [vi 5,vi 10], []⟩]
theorem d21_run (t : Nat → TypeId) : allL (deepOk Tryz.prog (noOrc (tabG t)) (tabG t)) d21 = true := by kernel_rfl

end Go.Proofs.YtkmmnlhmfiabfaaGreatDoor
