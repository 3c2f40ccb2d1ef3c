/-
  Says: what calls answer, as the kernel runs them (level 7).
-/
import Derived.Test.YtpieoofkikjjjaaGreatDoorQr
import Derived.Test.YtpieoofkikjjjaaGreatDoorQa0
import Derived.Test.YtpieoofkikjjjaaGreatDoorQa1
import Derived.Test.YtpieoofkikjjjaaGreatDoorQa13
import Derived.Test.YtpieoofkikjjjaaGreatDoorQa2
import Derived.Test.YtpieoofkikjjjaaGreatDoorQa20
import Derived.Test.YtpieoofkikjjjaaGreatDoorQa21
import Derived.Test.YtpieoofkikjjjaaGreatDoorQa3
import Derived.Test.YtpieoofkikjjjaaGreatDoorQa4
import Derived.Test.YtpieoofkikjjjaaGreatDoorQa5
import Derived.KernelRfl
set_option maxRecDepth 1000000
set_option linter.unusedVariables false
set_option linter.unusedSimpArgs false
namespace Go.Proofs.YtpieoofkikjjjaaGreatDoor
open Go Go.Vx
attribute [local instance] anySyms

noncomputable def d92 : List DeepE := [⟨9,[va [vu 2,vu 0,vr 0 0 6 9223372036854775808]],[r205],vt,[]⟩]
theorem d92_run (t : Nat → TypeId) : allL (deepOk Tryz.prog (ndOrc Tryz.prog (tabG t) (orcL (e31)) 516469819392 (d11 ++ d25 ++ d39 ++ d43 ++ d71 ++ d89) noCuts) (tabG t)) d92 = true := by kernel_rfl

noncomputable def d93 : List DeepE := [⟨9,[va [vu 13,vu 3,vr 0 0 39 9223372036854775808]],[r209],vt,[]⟩]
theorem d93_run (t : Nat → TypeId) : allL (deepOk Tryz.prog (ndOrc Tryz.prog (tabG t) (orcL (e0 ++ e2 ++ e3 ++ e4 ++ e5 ++ e6 ++ e9 ++ e13 ++ e14 ++ e15 ++ e16 ++ e23 ++ e31)) 413390604288 (d11 ++ d28 ++ d29 ++ d72 ++ d90) noCuts) (tabG t)) d93 = true := by kernel_rfl

noncomputable def d94 : List DeepE := [⟨9,[va [vu 14,vu 3,vr 0 0 42 9223372036854775808]],[r210],vt,[]⟩]
theorem d94_run (t : Nat → TypeId) : allL (deepOk Tryz.prog (ndOrc Tryz.prog (tabG t) (orcL (e1 ++ e2 ++ e3 ++ e4 ++ e5 ++ e6 ++ e9 ++ e13 ++ e14 ++ e16 ++ e17 ++ e23 ++ e31)) 413390604288 (d11 ++ d29 ++ d72 ++ d91) noCuts) (tabG t)) d94 = true := by kernel_rfl

end Go.Proofs.YtpieoofkikjjjaaGreatDoor
