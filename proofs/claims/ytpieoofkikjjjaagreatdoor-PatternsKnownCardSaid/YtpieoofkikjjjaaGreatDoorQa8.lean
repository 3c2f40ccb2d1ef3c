/-
  Says: what calls answer, as the kernel runs them (level 4).
-/
import Derived.Test.YtpieoofkikjjjaaGreatDoorQr
import Derived.Test.YtpieoofkikjjjaaGreatDoorQa0
import Derived.Test.YtpieoofkikjjjaaGreatDoorQa1
import Derived.Test.YtpieoofkikjjjaaGreatDoorQa2
import Derived.Test.YtpieoofkikjjjaaGreatDoorQa4
import Derived.Test.YtpieoofkikjjjaaGreatDoorQa5
import Derived.Test.YtpieoofkikjjjaaGreatDoorQa6
import Derived.KernelRfl
set_option maxRecDepth 1000000
set_option linter.unusedVariables false
set_option linter.unusedSimpArgs false
namespace Go.Proofs.YtpieoofkikjjjaaGreatDoor
open Go Go.Vx
attribute [local instance] anySyms

noncomputable def d53 : List DeepE := [⟨35,[va [vi 3,vi 2,vr 0 0 13 9223372036854775808]],[r15],vp [va [vi 3,vi 2,vr 1 0 13 13],vi 0],[r16]⟩,⟨36,[va [vi 3,vi 2,vr 0 0 13 13]],[r145],vp [va [vi 3,vi 2,vr 1 0 13 13],vi 0],[r15]⟩,⟨37,[va [vi 4,vi 1,vr 0 0 5 9223372036854775808]],[r2],va [vi 4,vi 1,vr 1 0 5 9223372036854775808],[r87]⟩]
theorem d53_run (t : Nat → TypeId) : allL (deepOk Tryz.prog (ndOrc Tryz.prog (tabG t) (orcL (e0 ++ e2 ++ e3 ++ e4 ++ e5 ++ e6 ++ e12 ++ e13 ++ e14 ++ e18 ++ e23 ++ e24 ++ e31 ++ e33)) 275414777856 (d36 ++ d43 ++ d44) noCuts) (tabG t)) d53 = true := by kernel_rfl

noncomputable def d54 : List DeepE := [⟨37,[va [vi 4,vi 1,vr 0 0 12 9223372036854775808]],[r10],va [vi 4,vi 1,vr 1 0 12 9223372036854775808],[r114]⟩]
theorem d54_run (t : Nat → TypeId) : allL (deepOk Tryz.prog (ndOrc Tryz.prog (tabG t) (orcL (e24 ++ e33)) 536870912 (d36) noCuts) (tabG t)) d54 = true := by kernel_rfl

noncomputable def d55 : List DeepE := [⟨37,[va [vi 1,vi 4,vr 0 0 13 9223372036854775808]],[r11],va [vi 1,vi 4,vr 1 0 13 9223372036854775808],[r12]⟩]
theorem d55_run (t : Nat → TypeId) : allL (deepOk Tryz.prog (ndOrc Tryz.prog (tabG t) (orcL (e23 ++ e31)) 536870912 (d36) noCuts) (tabG t)) d55 = true := by kernel_rfl

noncomputable def d56 : List DeepE := [⟨37,[va [vi 2,vi 2,vr 0 0 12 9223372036854775808]],[r9],va [vi 2,vi 2,vr 1 0 12 9223372036854775808],[r113]⟩]
theorem d56_run (t : Nat → TypeId) : allL (deepOk Tryz.prog (ndOrc Tryz.prog (tabG t) (orcL (e23 ++ e31 ++ e32)) 536870912 (d36) noCuts) (tabG t)) d56 = true := by kernel_rfl

noncomputable def d57 : List DeepE := [⟨41,[va [vi 1,vi 1,vr 0 0 2 9223372036854775808]],[r148],vi 0,[]⟩,⟨41,[va [vi 3,vi 2,vr 0 0 2 2]],[r143],vi 6,[]⟩,⟨41,[va [vi 2,vi 1,vr 0 0 8 9223372036854775808]],[r99],vi 0,[]⟩,⟨41,[va [vi 3,vi 2,vr 0 0 3 3]],[r144],vi 7,[]⟩,⟨41,[va [vi 4,vi 1,vr 0 0 8 9223372036854775808]],[r100],vi 0,[]⟩,⟨41,[va [vi 2,vi 3,vr 0 0 6 9223372036854775808]],[r88],vi 0,[]⟩,⟨41,[va [vi 1,vi 4,vr 0 0 12 9223372036854775808]],[r112],vi 0,[]⟩]
theorem d57_run (t : Nat → TypeId) : allL (deepOk Tryz.prog (ndOrc Tryz.prog (tabG t) (orcL ([])) 536870912 (d36 ++ d37) noCuts) (tabG t)) d57 = true := by kernel_rfl

end Go.Proofs.YtpieoofkikjjjaaGreatDoor
