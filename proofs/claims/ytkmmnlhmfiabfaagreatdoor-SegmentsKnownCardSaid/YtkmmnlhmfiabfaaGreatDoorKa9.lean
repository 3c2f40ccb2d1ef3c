/-
  Says: what calls answer, as the kernel runs them (level 2).
-/
import Derived.Test.YtkmmnlhmfiabfaaGreatDoorKr
import Derived.Test.YtkmmnlhmfiabfaaGreatDoorKa0
import Derived.Test.YtkmmnlhmfiabfaaGreatDoorKa5
import Derived.Test.YtkmmnlhmfiabfaaGreatDoorKa6
import Derived.KernelRfl
set_option maxRecDepth 1000000
set_option linter.unusedVariables false
set_option linter.unusedSimpArgs false
namespace Go.Proofs.YtkmmnlhmfiabfaaGreatDoor
open Go Go.Vx
attribute [local instance] anySyms

noncomputable def d43 : List DeepE := [⟨39, [va [vi 4,vi 1,vr 0 0 8 9223372036854775808]], [r7], vi 0, []⟩, ⟨39, [va [vi 1,vi 3,vr 0 0 9 9223372036854775808]], [r148], vi 0, []⟩, ⟨39, [va [vi 2,vi 2,vr 0 0 16 9223372036854775808]], [r2], vi 0, []⟩, ⟨39, [va [vi 3,vi 2,vr 0 0 18 9223372036854775808]], [r3], vi 0, []⟩, ⟨39, [va [vi 2,vi 3,vr 0 0 19 9223372036854775808]], [r4], vi 0, []⟩, ⟨39, [va [vi 4,vi 2,vr 0 0 19 9223372036854775808]], [r5], vi 0, []⟩]
theorem d43_run (t : Nat → TypeId) : allL (deepOk Tryz.prog (valOrc (fun _ => false) (tabG t) (orcL (e3 ++ e23 ++ e24 ++ e26))) (tabG t)) d43 = true := by kernel_rfl

noncomputable def d44 : List DeepE := [⟨39, [va [vi 3,vi 3,vr 0 0 29 29]], [r149], vi 0, []⟩, ⟨39, [va [vi 3,vi 3,vr 0 0 29 9223372036854775808]], [r6], vi 0, []⟩, ⟨39, [va [vi 4,vi 3,vr 0 0 30 30]], [r150], vi 0, []⟩]
theorem d44_run (t : Nat → TypeId) : allL (deepOk Tryz.prog (valOrc (fun _ => false) (tabG t) (orcL (e3 ++ e23 ++ e24 ++ e26))) (tabG t)) d44 = true := by kernel_rfl

noncomputable def d45 : List DeepE := [⟨39, [va [vi 4,vi 3,vr 0 0 30 9223372036854775808]], [r8], vi 0, []⟩, ⟨41, [vr 0 0 2 9223372036854775808, (vfn 42)], [r151], vp [], []⟩, ⟨100, [vr 0 0 29 9223372036854775808, vi 0, vi 29, (vfn 42)], [r152], vp [vi 7,vi 0], []⟩, ⟨100, [vr 0 0 29 9223372036854775808, vi 10, vi 29, (vfn 42)], [r153], vp [vi 14,vi 0], []⟩, ⟨110, [vr 0 0 29 9223372036854775808, vi 0, vi 29, (vfn 48)], [r29], vp [vi 14,vi 1], []⟩, ⟨110, [vr 0 0 30 9223372036854775808, vi 0, vi 21, (vfn 48)], [r31], vp [vi 10,vi 1], []⟩, ⟨110, [vr 0 0 30 9223372036854775808, vi 0, vi 30, (vfn 48)], [r91], vp [vi 7,vi 0], []⟩]
theorem d45_run (t : Nat → TypeId) : allL (deepOk Tryz.prog (deepOrc Tryz.prog (tabG t) (orcL (e1 ++ e2 ++ e3 ++ e4 ++ e22 ++ e23 ++ e24 ++ e26)) 47890491361049797647537868831591039786066143099224064 (d32) noCuts) (tabG t)) d45 = true := by kernel_rfl

end Go.Proofs.YtkmmnlhmfiabfaaGreatDoor
