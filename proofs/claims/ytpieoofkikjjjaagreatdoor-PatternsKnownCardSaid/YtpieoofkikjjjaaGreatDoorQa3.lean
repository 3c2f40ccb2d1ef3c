/-
  Says: what calls answer, as the kernel runs them (level 2).
-/
import Derived.Test.YtpieoofkikjjjaaGreatDoorQr
import Derived.Test.YtpieoofkikjjjaaGreatDoorQa0
import Derived.Test.YtpieoofkikjjjaaGreatDoorQa1
import Derived.KernelRfl
set_option maxRecDepth 1000000
set_option linter.unusedVariables false
set_option linter.unusedSimpArgs false
namespace Go.Proofs.YtpieoofkikjjjaaGreatDoor
open Go Go.Vx
attribute [local instance] anySyms

noncomputable def d28 : List DeepE := [⟨38,[va [vi 4,vi 2,vr 0 0 17 9223372036854775808]],[r121],vi 0,[]⟩,⟨38,[va [vi 2,vi 3,vr 0 0 23 9223372036854775808]],[r122],vi 0,[]⟩,⟨38,[va [vi 4,vi 4,vr 0 0 25 9223372036854775808]],[r123],vi 0,[]⟩,⟨38,[va [vi 4,vi 3,vr 0 0 29 29]],[r60],vi 0,[]⟩,⟨38,[va [vi 4,vi 3,vr 0 0 29 9223372036854775808]],[r25],vi 0,[]⟩,⟨38,[va [vi 4,vi 3,vr 0 0 30 30]],[r63],vi 0,[]⟩,⟨38,[va [vi 2,vi 4,vr 0 0 29 29]],[r23],vi 0,[]⟩,⟨38,[va [vi 2,vi 4,vr 0 0 29 29]],[r59],vi 0,[]⟩,⟨38,[va [vi 2,vi 4,vr 0 0 29 29]],[r124],vi 0,[]⟩]
theorem d28_run (t : Nat → TypeId) : allL (deepOk Tryz.prog (ndOrc Tryz.prog (tabG t) (orcL (e0 ++ e1 ++ e2 ++ e3 ++ e4 ++ e5 ++ e6 ++ e7 ++ e10 ++ e15 ++ e16 ++ e17)) 0 [] noCuts) (tabG t)) d28 = true := by kernel_rfl

noncomputable def d29 : List DeepE := [⟨38,[va [vi 2,vi 4,vr 0 0 29 9223372036854775808]],[r23],vi 0,[]⟩,⟨38,[va [vi 3,vi 4,vr 0 0 29 29]],[r61],vi 0,[]⟩,⟨38,[va [vi 3,vi 4,vr 0 0 29 9223372036854775808]],[r24],vi 0,[]⟩,⟨38,[va [vi 2,vi 4,vr 0 0 30 30]],[r62],vi 0,[]⟩,⟨38,[va [vi 3,vi 4,vr 0 0 30 30]],[r33],vi 0,[]⟩,⟨38,[va [vi 3,vi 4,vr 0 0 30 30]],[r64],vi 0,[]⟩,⟨38,[va [vi 3,vi 4,vr 0 0 29 29]],[r125],vi 0,[]⟩,⟨38,[va [vi 4,vi 3,vr 0 0 29 29]],[r126],vi 0,[]⟩]
theorem d29_run (t : Nat → TypeId) : allL (deepOk Tryz.prog (ndOrc Tryz.prog (tabG t) (orcL (e1 ++ e2 ++ e3 ++ e4 ++ e5 ++ e6 ++ e7 ++ e10 ++ e15 ++ e16 ++ e17)) 0 [] noCuts) (tabG t)) d29 = true := by kernel_rfl

noncomputable def d30 : List DeepE := [⟨38,[va [vi 4,vi 4,vr 0 0 33 33]],[r69],vi 0,[]⟩,⟨38,[va [vi 4,vi 4,vr 0 0 34 34]],[r68],vi 0,[]⟩,⟨38,[va [vi 4,vi 4,vr 0 0 34 34]],[r127],vi 0,[]⟩,⟨38,[va [vi 4,vi 4,vr 0 0 34 9223372036854775808]],[r31],vi 0,[]⟩,⟨38,[va [vi 4,vi 4,vr 0 0 34 34]],[r30],vi 0,[]⟩,⟨38,[va [vi 4,vi 3,vr 0 0 35 9223372036854775808]],[r128],vi 0,[]⟩,⟨38,[va [vi 3,vi 3,vr 0 0 36 9223372036854775808]],[r129],vi 0,[]⟩,⟨71,[vr 0 0 21 9223372036854775808,va [vi 6,vu 0],vu 2],[r21],vr 1 0 21 21,[r21]⟩,⟨71,[vr 0 0 22 22,va [vi 6,vu 0],vu 2],[r22],vr 1 0 22 22,[r22]⟩,⟨71,[vr 0 0 29 9223372036854775808,va [vi 6,vu 1],vu 3],[r25],vr 1 0 29 29,[r60]⟩,⟨71,[vr 0 0 29 9223372036854775808,va [vi 9,vu 0],vu 2],[r23],vr 1 0 29 29,[r59]⟩,⟨71,[vr 0 0 29 9223372036854775808,va [vi 9,vu 2],vu 1],[r24],vr 1 0 29 29,[r61]⟩,⟨71,[vr 0 0 30 30,va [vi 6,vu 1],vu 3],[r63],vr 1 0 30 30,[r28]⟩,⟨71,[vr 0 0 30 30,va [vi 9,vu 0],vu 2],[r62],vr 1 0 30 30,[r26]⟩,⟨71,[vr 0 0 30 30,va [vi 9,vu 2],vu 1],[r64],vr 1 0 30 30,[r27]⟩,⟨71,[vr 0 0 33 33,va [vi 24,vu 2],vu 3],[r69],vr 1 0 33 33,[r29]⟩,⟨71,[vr 0 0 34 9223372036854775808,va [vi 24,vu 2],vu 3],[r31],vr 1 0 34 34,[r68]⟩,⟨71,[vr 0 0 34 34,va [vi 9,vu 2],vu 0],[r68],vr 1 0 33 33,[r29]⟩,⟨71,[vr 0 0 34 9223372036854775808,va [vi 9,vu 2],vu 0],[r31],vr 1 0 33 33,[r69]⟩]
theorem d30_run (t : Nat → TypeId) : allL (deepOk Tryz.prog (ndOrc Tryz.prog (tabG t) (orcL (e0 ++ e1 ++ e2 ++ e3 ++ e4 ++ e5 ++ e6 ++ e7 ++ e9 ++ e10 ++ e15 ++ e16 ++ e17)) 4722366482869645213696 (d19 ++ d20) noCuts) (tabG t)) d30 = true := by kernel_rfl

end Go.Proofs.YtpieoofkikjjjaaGreatDoor
